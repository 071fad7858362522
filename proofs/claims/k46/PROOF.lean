import PyProof.Rows.All
import Wide.All
import OpenK.AllK
import Wide.FinOn
import Lean
import PyProof.EqAt
import PyProof.EqKinds
import PyProof.TupleCall
import PyProof.ZipIter
import PySem.Challenge.RW_blockfall_k46_whole_best_is_least
set_option linter.defProp false
set_option bootstrap.genMatcherCode false
set_option genSizeOf false
set_option genInjectivity false
set_option compiler.extract_closed false
set_option genSizeOfSpec false
set_option Elab.async false
set_option linter.all false
set_option maxRecDepth 100000
set_option maxHeartbeats 4000000
set_option tactic.hygienic false
noncomputable section
open PySem.W (makesIn fnOf codeIn)
open List renaming length_map->Hb,mem_cons->Hd,length_cons->Hf,map_cons->Hg,map_append->Hh,mem_cons_self->Hi,length_append->Hk,getElem?_map->Hl,getElem?_eq_some_iff->Hm,size_toArray->Ho,mem_map->Hq,getElem?_set_ne->Hr,mem_cons_of_mem->Ht,getElem?_eq_getElem->Hw,take_length->Hz,not_mem_nil->HB,mem_singleton->HC,append_assoc->HF,map_map->HG,mem_of_getElem?->HH,length_singleton->HI,all_eq_true->HJ,cons_append->HK,append_nil->HL,map_nil->HM,getElem?_append_left->HN,length_set->HP,getD_eq_getElem?_getD->HR,nil_append->HS,mem_append_right->HW,forIn_cons->HX,length_take->H9,forIn_nil->Ib,length_nil->Ig,map_congr_left->Ih,mem_range->Ii,mem_append->Ij,lookup_cons->Ik,sum_cons->Il,length_zipWith->Im,range'->Io,getElem?_append_right->Iq,length_drop->Ir,any_eq_true->Iu,take_succ->Iw,toArray->Iy,length_range'->Iz,flatMap_cons->IA,lookup->IB,nodup_cons->IC,find?_cons->ID,length_replicate->II,any_cons->IJ,replicate_succ->IK,length_range->IN,getElem?_set_self->IQ,flatten_cons->IS,foldl_cons->IT,drop_eq_getElem_cons->IU,range_succ->IV,map_eq_nil_iff->IX,getElem?_eq_none->IY,mem_flatMap->IZ,mem_filter->Jb,filterMap_cons->Jc,mem_append_left->Jd,all_cons->Je,eq_nil_of_length_eq_zero->Jf,zipWith->Jg,nodup_append->Ji,flatMap_append->Jk,filter_cons->Jm,zip_cons_cons->Jp,reverse_cons->Jr,foldl->Js,zipIdx_cons->Jw,zipIdx_nil->Jx,take_zero->Jy,getElem?_cons_succ->Jz,any_map->JB,getElem?_zipWith->JC,ext_getElem?->JD,all_map->JJ,foldl_append->JK,zip_nil_right->JN,mem_filterMap->JR,of_mem_zip->JV,getElem?_replicate->JX,nodup_nil->JZ,Pairwise->J1,getElem?_drop->J3,take_of_length_le->J4,getElem?_toArray->J6,drop_length->J8,drop_zero->J9,filter_cons_of_neg->Ka,drop_eq_nil_iff->Kb,head?->Kc,head?_drop->Kd,head?_cons->Ke,tail_drop->Kf,getElem?_of_mem->Kg,suffix_refl->Kk,filter_eq_self->Km,mem_of_mem_take->Kn,getElem?_range->Ko,filter_append->Kp,range_succ_eq_map->Kq,map_id'->Kr,filter_nil->Ks,any_eq_false->Kv,take_sublist->Kx,drop_set_of_lt->KE,filter_cons_of_pos->KF,length_reverse->KG,length_pos_iff->KI,findIdx?_eq_some_iff_getElem->KJ,getElem_toArray->KL,take_append_drop->KM,mem_range'_1->KO,dropWhile_suffix->KP,drop_eq_nil_of_le->KQ,takeWhile_cons->KR,zipIdx_append->KU,mem_zipIdx_iff_getElem?->KY
open Nat renaming le_refl->Hc,ne_of_lt->Hs,zero_le->Hy,le_trans->HA,lt_of_lt_of_le->HE,lt_of_le_of_lt->HQ,succ->Iv,le_add_right->IE,lt_irrefl->IF,ne_of_gt->IG,le_succ->IH,add_sub_cancel->IP,le_of_eq->IR,add_comm->Ja,le_succ_of_le->Jh,add_assoc->Jn,add_left_comm->Jo,le_of_lt->Jq,lt_trans->Jt,pow_le_pow_right->JL,lt_succ_self->JU,add_le_add_left->J2,sub_self->J7,min_self->Kj,mul_succ->Kl,add_sub_cancel_left->KS
open PySem.Heap renaming get?_push_of_some->He,lt_size->Hj,get?_push_size->Hu,size_push->H0,SameBut->Ia,MadeExcOf->J5,get?_update_ne->Ki,get?_none_of_le->Kt,get?_update_self->Ky,get?_update_other->Kz
open Option renaming map_eq_some_iff->Hn,isSome_map->IL,getD_none->JY,isSome_iff_exists->Kw,getD_some->KA
open Bool renaming false_ne_true->Hv,and_eq_true->HD,eq_iff_iff->HZ,not_true->Ic,false_eq_true->Ie,eq_false_iff->IM,not_eq_true->IW,true_and->Jj,false_and->JP,not_eq_true'->KB,or_eq_false_iff->KD
open Int renaming emod_lt_of_pos->HU,emod_nonneg->HV,add_zero->Ip,le_refl->Ix,zero_add->Jl,toNat_natCast->Ju,lt_irrefl->JH,ofNat->JM
open Array renaming length_toList->HY,forIn_toList->I0,getElem?_eq_some_iff->Jv,getElem?_toList->JG,toArray_toList->Kh,append_assoc->Ku,size_append->KC,getElem?_eq_getElem->KH
open PySem.W renaming instObj->KZ,findIn->K0,emptyDict->K1,keepIn->K2,nsIn->K3,mg_of->K4,Frag->Zf
open PySem renaming Value->K5,Builtin->K6,hashInt->K7,Program->K8,World->K9,Heap->La,Addr->Lb,intKind->Lc,Shared->Ld,Obj->Le,Around->Lf,cLine->Lg,wpAny->Lh,model->Li,wpAny_bind->Lj,wpAny_specialOf->Lk,wpAny_call_entry->Ll,wpAny_pure->Lm,wpAny_rule->Ln,wpAny_isInstance->Lo,wpAny_holding->Lp,wpAny_truthy_bool->Lq,wpAny_seqItems->Lr,sysModules->Ls,tupleKind->Lu,mainGlobals->Lx,bootBuiltins->Ly,Scope->Lz,eval->LD,Pos->LF,backTo->LG,starEach->LH,Stmt->LI,wpAny_mono->LJ,compareOp->LK,behindInMarks->LL,standAt->LM,holding->LN,wpAny_execs_nil->LO,assignEach->LP,PassesOwn->LQ,wpAny_passesOwn->LR,pyNext->LS,letOwnedTupleGo->LU,rawInt->LV,wpAny_pyIter_tuple->LX,foldedSetIterable->LY,binaryOp->LZ,getMethod->L0,attributeBase->L1,backToKw->L3,keywordEach->L4,FuncData->L5,codeAny_mono->L6,wpAny_Call_Name_kw->L7,Keyword->L8,NameKind->L9,wpAny_field->Mb,wpAny_newObj_type->Mc,typeIs_str->Md,sliceBounds->Me,call_meets->Mh,atKey->Mi,tupleKind_room_in1->Mj,relabel->Ml,numAt->Mm,PyData->Mn,strIterType->Mo,wpAny_pyIter_enum->Mp,IsPair->Mq,wpAny_setField_rec->Mr,wpAny_onRaise->Ms,wpAny_updateSeq_pair->Mt,wpAny_letGo->Mu,argBest->Mv
open PyProof.Rows renaming AllBare->LC,envOfC->Ma
def aZ {c:Prop}{_:Decidable c}(h:¬c){α:Sort _}{t e:α}:ite c t e=e:=if_neg h
def bf {c:Prop}{_:Decidable c}(h:c){α:Sort _}{t e:α}:ite c t e=t:=if_pos h
def bg {p:Prop}{_:Decidable p}(h:¬p):decide p=false:=decide_eq_false h
def bN {p:Prop}{_:Decidable p}(h:p):decide p=true:=decide_eq_true h
local macro_rules|`(⇑$x)=>`(($x).length)
local macro_rules|`(↑$x)=>`(List $x)
local macro_rules|`(($a,$b,*))=>if a.raw.getTrailingSize>0 then Lean.Macro.throwUnsupported else`(⟨$a,$b,*⟩)
local macro_rules|`(tactic|let $p:term:=$e)=>do
 let rec go:Nat->Lean.TSyntax `term->Lean.MacroM (Lean.TSyntax `rcasesPat)
 |0,_=>Lean.Macro.throwUnsupported
 |n+1,s=>match s with
  |`(($a,$b,*))=>do
   let l<-(#[a]++b.getElems).mapM λx=>do `(Lean.Parser.Tactic.rcasesPatLo|$(<-go n x):rcasesPat)
   `(rcasesPat|⟨$l,*⟩)
  |`(_)=>`(rcasesPat|_)
  |`($x:ident)=>`(rcasesPat|$x:ident)
  |_=>Lean.Macro.throwUnsupported
 `(tactic|obtain $(<-go 9 p):rcasesPat:=$e)
set_option hygiene false in
local macro_rules|`(tactic|trace_state)=>`(tactic|(first|exact Or.inl rfl|exact Or.inr (Or.inl rfl)|exact Or.inr (Or.inr rfl)))
set_option hygiene false in
local macro_rules|`(tactic|array_mem_dec)=>`(tactic|(exact⟨rfl,rfl,rfl,⋯,rfl,⋯,⋯⟩))
set_option hygiene false in
local macro_rules|`(tactic|subst_vars)=>`(tactic|(first|exact .inl rfl|exact .inr rfl|assumption))
set_option hygiene false in
local macro_rules|`(tactic|subst_eqs)=>`(tactic|(intro _ _ _ _ _ _ us hl;first|(obtain⟨_,rfl⟩:=ln1 hl;rfl)|(obtain⟨_,_,rfl⟩:=ln2 hl;rfl)|(obtain⟨_,_,_,rfl⟩:=ln3 hl;rfl)|(obtain⟨_,_,_,_,rfl⟩:=ln4 hl;rfl)|(obtain⟨_,_,_,_,_,rfl⟩:=ln5 hl;rfl)))
set_option hygiene false in
local macro_rules|`(⋯)=>`(by decide +kernel)|`(∅)=>`(by omega)|`(↥_)=>`(by decide)|`(⇑_)=>`(by simp)|`(⇑$x:num)=>`(mC (.int $x))|`(⇑$x:str)=>`(mC (.str $x))|`(↥$x:num)=>`(Oj $x)|`(↥$x:ident)=>`(($x).heap.objs.size)
set_option hygiene false in
local macro_rules|`(tactic|ac_nf)=>`(tactic|(obtain ⟨o,ρ,rfl,R,S,h⟩:=h;refine ⟨o,ρ,rfl,R,S,Ps.bd h λp x vx e1 R1 r1 h1=>?_⟩))
local macro_rules|`($n:name)=>if n.getName.isAtomic&&n.getName != `tactic&&n.raw.getHeadInfo matches .original .. then`(some $(Lean.mkIdent n.getName))else Lean.Macro.throwUnsupported
set_option hygiene false in
local macro_rules|`(tactic|obtain $p:rcasesPatMed:=$e:term)=>`(tactic|(refine Classical.byContradiction fun Zz=>?_;rcases $e:term with $p:rcasesPatMed<;>(refine Zz ?_;clear Zz)))
namespace L2
open PySem
abbrev PKy:=Int×↑Int
noncomputable def f6 (b:Bool)(v u:K5):↑K5:=match b with
 |false=>[v,u]
 |true=>[u,v]
noncomputable def dQ (ks:↑Int):Int:=reduceHash<|K6.Tuple.tupleHashOf<|ks.map K7
noncomputable def lE (b:Bool)(k:PKy):Int:=match b with|false=>reduceHash (K6.Tuple.tupleHashOf [K7 k.1,dQ k.2])|true=>reduceHash<|K6.Tuple.tupleHashOf [dQ k.2,K7 k.1]
section
variable {prog:K8}{w:K9}
def IsPk (prog:K8)(w:K9)(b:Bool)(h:La)(k:PKy)(a:Lb):Prop:=
 ∃o items n c v,h.get? a=`o/\o.cls=.type "tuple"/\o.data=.seq items n/\IsTupleKey (Lc prog w) h k.2 c/\K5.isInt k.1 v=true/\items.toList=f6 b v (.ref c)
def IsPk.typeIs {b:Bool}{s:Ld}{k:PKy}{a:Lb}(x:IsPk prog w b s.heap k a):s.TypeIs (.ref a) "tuple":=let (o,_,_,_,_,ho,hc,_):=x;(o,ho,hc)
theorem IsPk.inj {b:Bool}(hx:IsPk prog w b h x a)(hy:IsPk prog w b h y a):x=y:=by
 let(o,items,n,c,v,ho,_,hd,hk,hv,hi):=hx;let(o',items',n',c',v',ho',_,hd',hk',hv',hi'):=hy;obtain rfl:o=o':=Option.some.inj<|ho.symm.trans ho';rw[hd]at hd';injection hd' with h1 _
 subst h1;rw[hi]at hi';have e:v=v'/\c=c':=by
  cases b with
  |false=>injection hi' with e1 e2;injection e2 with e2 _;injection e2 with e2;exact(e1,e2)
  |true=>injection hi' with e1 e2;injection e2 with e2 _;injection e1 with e1;exact(e2,e1)
 let(rfl,rfl):=e;exact Prod.ext (K5.isInt_inj v _ _ hv hv')<|hk.inj hk'
theorem IsPk.keeps {b:Bool}{es ep}(x:IsPk prog w b h k a)(ho:h.get? d=`o)(hd:o.data=.dict es ep)(hs:Ia d h h'):IsPk prog w b h' k a:=by
 let(o',items,n,c,v,ho',hc,hd',hk,hv,hi):=x;have hne:a≠d:=by
  rintro rfl
  obtain rfl:o'=o:=Option.some.inj<|ho'.symm.trans ho;rw[hd]at hd';exact nomatch hd'
 exact(o',items,n,c,v,(hs.2 a hne).trans ho',hc,hd',hk.keeps ho hd hs,hv,hi)
variable {A:Lf}{E:K5->Ld->Prop}{s:Ld}
def kq {b:Bool}{Q:Int->Ld->Prop}(hu:A.units+1<Lg)(hk:IsPk prog w b s.heap k a)(h:Q (lE b k) {s with toks:=s.toks+(⇑k.2+3)}):
  Lh (Li prog w) A (pyHash<|.ref a) Q E s:=by
 have hT:=hk.typeIs;let(o,items,n,c,v,ho,_,hd,hk,hv,hi):=hk;let(i,ks):=k;unfold pyHash
 first|unfold pyHashByItsType|skip
 first|refine Lj (wpAny_cRoomFor_or (.inr<|Nat.lt_of_succ_lt hu) ?_)|skip
 refine Lj<|Lk hT F.slot_tuple_hash.lookup ?_;show Lh _ _ (if (some (K5.builtin "tuple.__hash__")==some K5.none)=true then _ else _) Q E s;rw[aZ<|by rw[beq_builtin_none];exact Hv];refine Lj<|Lk hT F.slot_tuple_hash.lookup ?_;show Lh _ _ (callSpecialIfBoundUnlessNone? (.ref a) "__hash__" _>>=_) Q E s;refine Lj<|wpAny_callSpecialIfBoundUnlessNone?_slot hT F.slot_tuple_hash<|Ll F.slot_tuple_hash hT F.entry_tuple_hash ?_<|F.args_tuple_hash_1 _;show Lh _ _ (K6.Tuple.tupleItemsOf (.ref a)>>=_) _ _ s;refine Lj<|wpAny_tupleItemsOf ho hd ?_;refine Lj ?_;rw[<-I0,hi];cases b with
 |false=>
  unfold f6;simp only[HX,Ib];refine Lj<|Lj<|(Lc prog w).pyHash (k:=i) hv ?_;refine Lm<|Lj<|Lj<|wpAny_pyHash_tuple (knd:=Lc prog w) hu hk ?_;refine Lm<|Lm ?_;show Lh _ _ (retInt<|K6.Tuple.tupleHashOf [K7 i,dQ ks]) _ _ _;refine wpAny_ret_mkInt ?_;show Lh _ _ (if (decide (-(2:Int)^63<=K6.Tuple.tupleHashOf [K7 i,dQ ks])&&decide (K6.Tuple.tupleHashOf [K7 i,dQ ks]<2^63))=true then _ else _) Q E _;unfold lE reduceHash at h;by_cases hr:(decide (-(2:Int)^63<=K6.Tuple.tupleHashOf [K7 i,dQ ks])&&decide (K6.Tuple.tupleHashOf [K7 i,dQ ks]<2^63))=true;rw[bf hr];simp only at h;rw[bf hr]at h;exact Lm (by simpa [Jn,Ja,Jo] using h);rw[aZ hr];simp only at h;rw[aZ hr]at h;exact Lj (Ln<|Lm<|by simpa [Jn,Ja,Jo] using h)
 |true=>
  unfold f6;simp only[HX,Ib];refine Lj<|Lj<|wpAny_pyHash_tuple (knd:=Lc prog w) hu hk ?_;refine Lm<|Lj<|Lj<|(Lc prog w).pyHash (k:=i) hv ?_;refine Lm<|Lm ?_;show Lh _ _ (retInt<|K6.Tuple.tupleHashOf [dQ ks,K7 i]) _ _ _;refine wpAny_ret_mkInt ?_;show Lh _ _ (if (decide (-(2:Int)^63<=K6.Tuple.tupleHashOf [dQ ks,K7 i])&&decide (K6.Tuple.tupleHashOf [dQ ks,K7 i]<2^63))=true then _ else _) Q E _;unfold lE reduceHash at h;by_cases hr:(decide (-(2:Int)^63<=K6.Tuple.tupleHashOf [dQ ks,K7 i])&&decide (K6.Tuple.tupleHashOf [dQ ks,K7 i]<2^63))=true;rw[bf hr];simp only at h;rw[bf hr]at h;exact Lm (by simpa [Jn,Ja,Jo] using h);rw[aZ hr];simp only at h;rw[aZ hr]at h;exact Lj (Ln<|Lm<|by simpa [Jn,Ja,Jo] using h)
def so {b:Bool}{P:Fin->Ld->Prop}(hu:A.units<Lg)(hx:IsPk prog w b s.heap x a)(hy:IsPk prog w b s.heap y c)(h:P (.done<|.ret<|.bool<|decide<|x=y) s):
  Lh (Li prog w) A (K6.«tuple.__eq__» ([.ref a,.ref c],[])) P E s:=by
 have hTb:=hy.typeIs;let(oa,xs,na,ca,va,hoa,_,hda,hka,hva,hia):=hx;let(ob,ys,nb,cb,vb,hob,_,hdb,hkb,hvb,hib):=hy;let(i,ks):=x;let(j,ls):=y;show Lh _ _ (isInstance (.ref c) (.type "tuple")>>=_) _ _ s;refine Lj<|Lo hTb isSubtype_tuple_tuple ?_;simp only[Ic,Ie,if_false];refine Lj<|wpAny_tupleItemsOf hoa hda ?_;refine Lj<|wpAny_tupleItemsOf hob hdb ?_;refine Lj ?_;have hsz:(xs.size==ys.size)=true:=by
  have e1:xs.size=2:=by rw[<-HY,hia];cases b<;>rfl
  have e2:ys.size=2:=by rw[<-HY,hib];cases b<;>rfl
  rw[e1,e2];rfl
 have dd:decide ((i ,ks)=(j ,ls))=(decide (i=j)&&decide (ks=ls)):=by rw[HZ];simp
 rw[dd]at h;rw[hia,hib];have ki:∀ {A:Lf}{Q:Bool->Ld->Prop},Q (decide<|i=j) s->Lh (Li prog w) A (eqBool va vb) Q E s:=λ{A Q} q=>(Lc prog w).eqBool (a:=i) (b:=j) hva hvb q;have kt:∀ {Q:Bool->Ld->Prop},Q (decide<|ks=ls) s->Lh (Li prog w) A (eqBool (.ref ca)<|.ref cb) Q E s:=λ{Q} q=>wpAny_eqBool_tuple (knd:=Lc prog w) hu hka hkb q;generalize decide (i=j)=b1 at*;generalize decide (ks=ls)=b2 at*;cases b with
 |false=>
  unfold f6;simp only[Jp,JN,HX,Ib];refine Lj<|Lj<|ki ?_;cases b1 with
  |false=>exact Lj<|Lm<|Lm<|Lm<|Lm h
  |true=>
   refine Lm<|Lj<|Lj<|kt ?_;cases b2 with
   |false=>exact Lj<|Lm<|Lm<|Lm<|Lm h
   |true=>
    refine Lm<|Lm<|Lm ?_;show P (.done<|.ret<|.bool<|xs.size==ys.size) s;rw[hsz];exact h
 |true=>
  unfold f6;simp only[Jp,JN,HX,Ib];refine Lj<|Lj<|kt ?_;cases b2 with
  |false=>rw[Bool.and_false]at h;exact Lj<|Lm<|Lm<|Lm<|Lm h
  |true=>
   refine Lm<|Lj<|Lj<|ki ?_;cases b1 with
   |false=>exact Lj<|Lm<|Lm<|Lm<|Lm h
   |true=>
    refine Lm<|Lm<|Lm ?_;show P (.done<|.ret<|.bool<|xs.size==ys.size) s;rw[hsz];exact h
def kr {b:Bool}{Q:Bool->Ld->Prop}(hu:A.units+1<Lg)(hx:IsPk prog w b s.heap x a)(hy:IsPk prog w b s.heap y c)(h:Q (decide<|x=y) s):
  Lh (Li prog w) A (eqBool (.ref a)<|.ref c) Q E s:=by
 unfold eqBool
 try with_reducible refine Lp ?_
 show Lh _ _ (if (K5.ref a==K5.ref c)=true then _ else _) Q E s;by_cases hab:(K5.ref a==K5.ref c)=true
 .rw[bf hab];have e:a=c:=by have:=eq_of_beq hab;injection this
  subst e;obtain rfl:=hx.inj hy;exact Lj (Ln<|Lm<|by simpa using h)
 .rw[aZ hab]
  exact Lj (wpAny_richCompare_same_room (op:=.Eq) hx.typeIs hy.typeIs F.slot_tuple_eq
   (Ll F.slot_tuple_eq hx.typeIs F.entry_tuple_eq (so hu hx hy (_,rfl,(λe=>nomatch e),Lq h))<|F.args_tuple_eq_2 _ _) (Nat.lt_of_succ_lt hu))
def kR {b:Bool}{Q:Bool->Ld->Prop}(hk:IsPk prog w b s.heap k a)(h:Q true s):Lh (Li prog w) A (eqIsQuiet 8<|.ref a) Q E s:=by
 have hT:=hk.typeIs;let(o,items,n,c,v,ho,_,hd,hk,hv,hi):=hk;unfold eqIsQuiet;refine Lj<|Lk hT F.slot_tuple_eq.lookup ?_;show Lh _ _ (isInstance (.ref a) (.type "tuple")>>=_) _ _ s;refine Lj<|Lo hT isSubtype_tuple_tuple ?_;simp only[Ic,Ie,if_false];refine Lj<|Lr ho hd ?_;refine Lj ?_;show Lh _ _ (forIn items _ _) _ _ s;rw[<-I0,hi];have qv:eqIsQuiet 7 v=pure true:=eqIsQuiet_byValue _<|(Lc prog w).byValue _ _ hv;have hTc:=hk.typeIs;let(oc,ic,nc,hoc,_,hdc,hic):=hk;have qc:∀ {Q:Bool->Ld->Prop},Q true s->Lh (Li prog w) A (eqIsQuiet 7<|.ref c) Q E s:=by
  intro Q h;unfold eqIsQuiet;refine Lj<|Lk hTc F.slot_tuple_eq.lookup ?_;show Lh _ _ (isInstance (.ref c) (.type "tuple")>>=_) _ _ s;refine Lj<|Lo hTc isSubtype_tuple_tuple ?_;simp only[Ic,Ie,if_false];refine Lj<|Lr hoc hdc ?_;refine Lj ?_;show Lh _ _ (forIn ic _ _) _ _ s;rw[<-I0];refine wpAny_forIn_list _ (λrest r s'=>r.1=none/\s'=s/\∀v∈rest ,carriedByValue v=true) _ ?_ ?_ _ _ (rfl,rfl,hic.byValue)
  .rintro v rest r s' ⟨hr,rfl,hall⟩
   rw[eqIsQuiet_byValue _<|hall v Hi];refine Lj<|Lm ?_;simp only[Ic,Ie,if_false];exact Lm (rfl,rfl,λu hu'=>hall u<|Ht _ hu')
  .rintro⟨r1,r2⟩ s' ⟨hr,rfl,_⟩
   simp only at hr;subst hr;exact Lm h
 cases b with
 |false=>
  unfold f6;simp only[HX,Ib];refine Lj ?_;rw[qv];refine Lj<|Lm ?_;simp only[Ic,Ie,if_false];refine Lm<|Lj<|Lj<|qc ?_;simp only[Ic,Ie,if_false];exact Lm<|Lm<|Lm h
 |true=>
  unfold f6;simp only[HX,Ib];refine Lj<|Lj<|qc ?_;simp only[Ic,Ie,if_false];refine Lm<|Lj ?_;rw[qv];refine Lj<|Lm ?_;simp only[Ic,Ie,if_false];exact Lm<|Lm<|Lm h
noncomputable def c8 (prog:K8)(w:K9)(b:Bool):HeapKind prog w PKy where
 is:=IsPk prog w b
 hash:=lE b
 draws:=λk=>⇑k.2+3
 room:=λA=>A.units+1<Lg
 inj:=λhx hy=>hx.inj hy
 keeps:=λx ho hd hs=>x.keeps ho hd hs
 pyHash:=λhu hk h=>kq hu hk h
 eqBool:=λhu hx hy h=>kr hu hx hy h
 quiet:=λhk h=>kR hk h
end
end L2
namespace L2
open PySem PySem.Spec PyProof.Rows
abbrev Key:=Sum Int Str
noncomputable def OF:Key->K5->Bool|.inl k,v=>K5.isInt k v|.inr x,v=>K5.isStrOf x v
noncomputable def keyH (w:K9):Key->Int|.inl k=>K7 k|.inr x=>hashStr w x
def bZ:∀ {k:Key}{v:K5},OF k v=true->(∃i t ,k=Sum.inl i/\v=K5.int i t)\/(∃x t ,k=Sum.inr x/\v=K5.str x t)|.inl i,v,h=>by let(t,e):=K5.isInt_shape (k:=i) (v:=v) h;exact .inl (i,t,rfl,e)|.inr x,v,h=>by let(t,e):=K5.isStrOf_shape (x:=x) (v:=v) h;exact .inr (x,t,rfl,e)
def wd (i:Int)(t:Tok):OF (.inl i) (.int i t)=true:=by simp [OF,K5.isInt]
def wb (x:Str)(t:Tok):OF (.inr x) (.str x t)=true:=by simp [OF,K5.isStrOf]
def EF (a b:Int):decide ((Sum.inl a:Key)=Sum.inl b)=(a==b):=by
 by_cases e:a=b;subst e;simp;have h:¬(Sum.inl a:Key)=Sum.inl b:=λq=>e<|Sum.inl.inj q;rw[bg h];exact (beq_eq_false_iff_ne.mpr e).symm
def EC (a b:Str):decide ((Sum.inr a:Key)=Sum.inr b)=decide (a=b):=by
 by_cases e:a=b;subst e;simp;have h:¬(Sum.inr a:Key)=Sum.inr b:=λq=>e<|Sum.inr.inj q;rw[bg h,bg e]
def EE (a:Int)(b:Str):decide ((Sum.inl a:Key)=Sum.inr b)=false:=bg (λq=>nomatch q)
def ED (a:Str)(b:Int):decide ((Sum.inr a:Key)=Sum.inl b)=false:=bg (λq=>nomatch q)
noncomputable def cA (prog:K8)(w:K9):PySem.KeyKind prog w Key where
 is:=OF
 hash:=keyH w
 inj:=λv a b ha hb=>by
  rcases bZ ha with⟨i,t,rfl,rfl⟩|⟨x,t,rfl,rfl⟩
  .rcases bZ hb with⟨j,u,rfl,e⟩|⟨y,u,rfl,e⟩
   injection e with e1 _;rw[e1]
   exact nomatch e
  .rcases bZ hb with⟨j,u,rfl,e⟩|⟨y,u,rfl,e⟩
   exact nomatch e;injection e with e1 _;rw[e1]
 byValue:=λk v h=>by rcases bZ h with⟨i,t,rfl,rfl⟩|⟨x,t,rfl,rfl⟩<;>rfl
 pyHash:=λhv h=>by
  rcases bZ hv with⟨i,t,rfl,rfl⟩|⟨x,t,rfl,rfl⟩
  exact wpAny_pyHash_int h;exact wpAny_pyHash_str h
 eqBool:=λhu hv h=>by
  rcases bZ hu with⟨i,t,rfl,rfl⟩|⟨x,t,rfl,rfl⟩
  .rcases bZ hv with⟨j,u,rfl,rfl⟩|⟨y,u,rfl,rfl⟩
   rw[EF]at h;exact wpAny_eqBool_int h;rw[EE]at h;exact SeqAt.EqAt.int_str i t y u _ _ _ _ h
  .rcases bZ hv with⟨j,u,rfl,rfl⟩|⟨y,u,rfl,rfl⟩
   rw[ED]at h;exact SeqAt.EqAt.str_int x t j u _ _ _ _ h;rw[EC]at h;exact wpAny_eqBool_str h
 «strs»:=λk x t v h=>by
  rcases bZ h with⟨i,u,rfl,e⟩|⟨y,u,rfl,e⟩
  exact nomatch e
  .injection e with e1 _
   subst e1;cases v<;>rfl
def qC (prog:K8)(w:K9)(i:Int)(t:Tok):(cA prog w).is (.inl i) (.int i t)=true:=wd i t
def qB (prog:K8)(w:K9)(x:Str)(t:Tok):(cA prog w).is (.inr x) (.str x t)=true:=wb x t
section
set_option genInjectivity true in
inductive V where|non|bl (b:Bool)|int (i:Int)|str (x:Str)|byt (b:Array UInt8)|flt (b:UInt64)|ref (a:Lb)|ty (n:String)
 deriving DecidableEq
noncomputable def RelV:V->K5->Prop|.non,u=>u=K5.none|.bl b,u=>u=K5.bool b|.int i,u=>∃t,u=K5.int i t|.str x,u=>∃t,u=K5.str x t|.byt b,u=>∃t,u=K5.bytes b t|.flt b,u=>∃t,u=K5.float b t|.ref a,u=>u=K5.ref a|.ty n,u=>u=K5.type n
abbrev Vals:↑V->↑K5->Prop:=Paired RelV
theorem Vals.length (r:Vals xs us):⇑xs=⇑us:=Paired.length r
theorem Vals.get:∀ {xs:↑V}{us:↑K5}{i:Nat}{x:V},Vals xs us->xs[i]?=`x->∃u,us[i]?=`u/\RelV x u|_,_,_,_,.nil,e=>by simp at e|_,_,0,_,.cons r _,e=>by simp at e;subst e;exact(_,rfl,r)|_,_,i+1,x,.cons _ t,e=>by let(u,h1,h2):=Vals.get (i:=i) (x:=x) t (by simpa using e);exact(u,by simpa using h1,h2)
theorem Vals.set (r:RelV x u):∀ {xs:↑V}{us:↑K5} (i:Nat),Vals xs us->Vals (xs.set i x) (us.set i u)|_,_,_,.nil=>.nil|_,_,0,.cons _ t=>.cons r t|_,_,i+1,.cons q t=>.cons q<|Vals.set r i t
theorem Vals.append:∀ {xs ys:↑V}{us ws:↑K5},Vals xs us->Vals ys ws->Vals (xs++ys) (us++ws)|_,_,_,_,.nil,s=>s|_,_,_,_,.cons r t,s=>.cons r<|Vals.append t s
theorem Vals.take:∀ {xs:↑V}{us:↑K5} (n:Nat),Vals xs us->Vals (xs.take n) (us.take n)|_,_,0,_=>.nil|_,_,_+1,.nil=>.nil|_,_,n+1,.cons r t=>.cons r<|Vals.take n t
theorem Vals.drop:∀ {xs:↑V}{us:↑K5} (n:Nat),Vals xs us->Vals (xs.drop n) (us.drop n)|_,_,0,r=>r|_,_,_+1,.nil=>.nil|_,_,n+1,.cons _ t=>Vals.drop n t
noncomputable def RelO:Option V->Option K5->Prop|some v,some u=>RelV v u|none,none=>True|_,_=>False
def KV {κ:Type}:↑(κ×V)->↑(κ×K5)->Prop:=Paired λ(p:κ×V) (q:κ×K5)=>p.1=q.1/\RelV p.2 q.2
noncomputable def kV:Key->V|.inl i=>.int i|.inr x=>.str x
inductive HO where
 |lst (xs:↑V)
 |tup (xs:↑V)
 |dK (kvs:↑(Key×V))|dT (kvs:↑(↑Key×V))|dN (b:Bool)(xs:↑(PKy×Lb×V))(ep:Nat)
 |set (S:Int->Bool)(n:Nat)
 |ins (C dx:Lb)(fs:↑(Str×V))
 |own (x:Lb)
 |xd (fs:↑(Str×V))
 |met (f x:Lb)
 |rng (lo hi:Int)
 |frz (o:Le)(u:HO)
 |tbl (ps:Array K5)
 |ext (φ:La->Prop)
abbrev Hp:=Lb->Option HO
noncomputable def upd (H:Hp)(a:Lb)(o:HO):Hp:=λb=>if b=a then `o else H b
def aq :upd H a o a=`o:=by unfold upd;rw[bf rfl]
def af (h:b≠a):upd H a o b=H b:=by unfold upd;rw[aZ h]
def FY {H:Hp}{a b:Lb}{o u:HO}(h:H a=`o)(h':H b=`u)(d:o≠u):a≠b:=by intro e;subst e;rw[h]at h';exact d<|Option.some.inj h'
def bz {H:Hp}{a b:Lb}{o:HO}(h:H a=`o)(h':H b=none):a≠b:=by intro e;subst e;rw[h]at h';cases h'
def IsTupD (h:La)(a:Lb)(its:Array K5):Prop:=IsTup h a its/\∃o,h.get? a=`o/\o.dict=none
theorem IsTupD.new (h:La)(its:Array K5):IsTupD (h.push {cls:=.type "tuple",data:=.seq its}) h.objs.size its:=(IsTup.new _ _,_,Hu _ rfl,rfl)
section
variable (P:K8)(w:K9)
def ObjOk (H:Hp)(h:La)(a:Lb):HO->Prop
 |.lst xs=>⇑xs<=sizeLine/\∃ (its:↑K5) (n:Nat),Vals xs its/\h.get? a=some {cls:=.type "list",data:=.seq its.toArray n}
 |.tup xs=>⇑xs<=sizeLine/\∃its:↑K5,Vals xs its/\IsTupD h a its.toArray
 |.dK kvs=>⇑kvs<=sizeLine/\(a==Ls)=false/\∃vs,KV kvs vs/\h.DictOf (cA P w) a vs
 |.dT kvs=>⇑kvs<=sizeLine/\(a==Ls)=false/\∃xs:↑(↑Key×Lb×K5),
  Paired (λ(p:↑Key×V) (q:↑Key×Lb×K5)=>p.1=q.1/\H q.2.1=some (.tup<|p.1.map kV)/\RelV p.2 q.2.2) kvs xs/\
  ∃o es ep,h.get? a=`o/\o.ExactDict/\o.data=.dict es ep/\es.toList=xs.map (entryOfKey<|Lu<|cA P w)/\(xs.map (·.1)).Nodup
 |.dN b xs ep=>⇑xs<=sizeLine/\(a==Ls)=false/\∃ys:↑(PKy×Lb×K5),Paired (λ(p:PKy×Lb×V) (q:PKy×Lb×K5)=>p.1=q.1/\p.2.1=q.2.1/\RelV p.2.2 q.2.2) xs ys/\
  ∃o es,h.get? a=`o/\o.ExactDict/\o.data=.dict es ep/\es.toList=ys.map (λy=>((lE b y.1,.ref y.2.1,y.2.2):DictEntry))/\(ys.map (·.1)).Nodup
 |.set S n=>h.SetOf (Lc P w) a S n
 |.ins C dx fs=>H dx=some (.own a)/\⇑fs<=1000/\dx≠a/\h.get? a=some (KZ C dx)/\
  ∃mA,h.Ns1 dx mA/\(∀f ,RelO (fs.lookup f)<|mA f)/\PySem.Within mA (fs.map (·.1))
 |.own _=>∃o,h.get? a=`o
 |.xd fs=>∃mA,h.Ns1 a mA/\∀f,RelO (fs.lookup f)<|mA f
 |.rng lo hi=>∃t u v,h.get? a=some {cls:=.type "range",data:=.fields #[.int lo t,.int hi u,.int 1 v]}
 |.frz o u=>h.get? a=`o/\ObjOk H h a u
 |.tbl ps=>h.get? a=some {cls:=.none,data:=.fields ps}
 |.met f x=>h.get? a=some (PySem.W.methodObj (.ref f)<|.ref x)
 |.ext φ=>φ h/\(∃o ,h.get? a=`o)/\∀h1 h2:La,φ h1->(∀o ,h1.get? a=`o->h2.get? a=`o)->φ h2
def HOk (H:Hp)(h:La):Prop:=∀a o,H a=`o->ObjOk P w H h a o
end
section
variable {P:K8}{w:K9}{H H':Hp}{h h':La}{a:Lb}{o:HO}
theorem ObjOk.lt (x:ObjOk P w H h a o):a<h.objs.size:=by
 cases o with|lst xs=>let(_,_,_,_,e):=x;exact Hj e|tup xs=>let(_,_,_,p):=x;exact p.1.lt|dK kvs=>let(_,_,_,_,o,_,_,e,_):=x;exact Hj e|dT kvs=>let(_,_,_,_,o,_,_,e,_):=x;exact Hj e|dN b xs ep=>let(_,_,_,_,o,_,e,_):=x;exact Hj e|set S n=>let(o,_,_,_,e,_):=x;exact Hj e|ins C dx fs=>let(_,_,_,e,_):=x;exact Hj e|own y=>let(_,e):=x;exact Hj e|xd fs=>let(_,(_,_,_,e,_),_):=x;exact Hj e|rng lo hi=>let(_,_,_,e):=x;exact Hj e|frz ob u=>let(e,_):=x;exact Hj e|tbl ps=>exact Hj (show h.get? a=some _ from x)|met f y=>exact Hj (show h.get? a=some _ from x)|ext φ=>let(_,(_,e),_):=x;exact Hj e
theorem Paired.mapP {α β:Type}{F G:α->β->Prop}:∀ {l₁:↑α}{l₂:↑β},Paired F l₁ l₂->(∀a b ,F a b->G a b)->Paired G l₁ l₂|_,_,.nil,_=>.nil|_,_,.cons r t,f=>.cons (f _ _ r)<|Paired.mapP t f
def ObjOk.stay (x:ObjOk P w H h a o)(k:∀b u ,(b=a\/H b=some (.own a))->h.get? b=`u->h'.get? b=`u)
  (ho:∀b ,H b=some (.own a)->H' b=some (.own a))(ht:∀b xs ,H b=some (.tup xs)->H' b=some (.tup xs)):ObjOk P w H' h' a o:=by
 induction o with
 |lst xs=>let(z,its,n,r,e):=x;exact(z,its,n,r,k _ _ (.inl rfl) e)
 |tup xs=>let(z,its,r,(ob,e,c),o2,e2,c2):=x;exact(z,its,r,(ob,k _ _ (.inl rfl) e,c),o2,k _ _ (.inl rfl) e2,c2)
 |dK kvs=>let(z,y,vs,r,ob,es,ep,e,c):=x;exact(z,y,vs,r,ob,es,ep,k _ _ (.inl rfl) e,c)
 |dT kvs=>
  let(z,y,xs,r,ob,es,ep,e,c):=x;exact(z,y,xs,Paired.mapP r λp q z=>(z.1,ht _ _ z.2.1,z.2.2),ob,es,ep,k _ _ (.inl rfl) e,c)
 |dN b xs ep=>let(z,y,ys,r,ob,es,e,c):=x;exact(z,y,ys,r,ob,es,k _ _ (.inl rfl) e,c)
 |set S n=>let(ob,es,ep,t,e,c):=x;exact(ob,es,ep,t,k _ _ (.inl rfl) e,c)
 |ins C dx fs=>
  let(d,z,ne,e,mA,(od,es,ep,e2,c),r):=x;exact(ho _ d,z,ne,k _ _ (.inl rfl) e,mA,(od,es,ep,k _ _ (.inr d) e2,c),r)
 |own y=>let(ob,e):=x;exact(ob,k _ _ (.inl rfl) e)
 |xd fs=>let(mA,(od,es,ep,e,c),r):=x;exact(mA,(od,es,ep,k _ _ (.inl rfl) e,c),r)
 |rng lo hi=>let(t,u,v,e):=x;exact(t,u,v,k _ _ (.inl rfl) e)
 |frz ob u ih=>let(e,q):=x;exact(k _ _ (.inl rfl) e,ih q)
 |tbl ps=>
  have e:h.get? a=some {cls:=.none,data:=.fields ps}:=x;show h'.get? a=some {cls:=.none,data:=.fields ps};exact k a _ (.inl rfl) e
 |met f y=>
  have e:h.get? a=some (PySem.W.methodObj (.ref f)<|.ref y):=x;show h'.get? a=some (PySem.W.methodObj (.ref f)<|.ref y);exact k a _ (.inl rfl) e
 |ext φ=>let(p,(o,e),st):=x;exact(st _ _ p λo q=>k _ _ (.inl rfl) q,(o,k _ _ (.inl rfl) e),st)
theorem HOk.lt (x:HOk P w H h)(e:H a=`o):a<h.objs.size:=(x a o e).lt
def HOk.fresh (x:HOk P w H h)(e:h.objs.size<=a):H a=none:=by
 cases q:H a with|none=>rfl|some u=>exact absurd (HE (x.lt q) e)<|IF _
def HOk.kept (x:HOk P w H h)(k:∀b u ,h.get? b=`u->h'.get? b=`u):HOk P w H h':=λa o e=>
 (x a o e).stay (λb u J q=>k b u q) (λJ q=>q) λJ J q=>q
def HOk.laid (x:HOk P w H h)(k:∀b u ,h.get? b=`u->h'.get? b=`u)(hp:h.objs.size<=a)(new:ObjOk P w (upd H a o) h' a o):HOk P w (upd H a o) h':=λb u e=>by
 have hn:=x.fresh hp;by_cases hb:b=a;subst hb;rw[aq]at e;cases e;exact new;rw[af hb]at e;exact (x b u e).stay (λc v J q=>k c v q) (λc q=>by rw[af<|bz q hn];exact q) λc xs q=>by rw[af<|bz q hn];exact q
end
def Rd (H:Hp)(a:Lb)(u:HO):Prop:=H a=`u\/ ∃o,H a=some (.frz o u)
def Rd.ok {w:K9}(r:Rd H a u)(x:HOk P w H h):ObjOk P w H h a u:=by
 rcases r with r|⟨o,r⟩
 exact x a u r;let(_,q):=x a _ r;exact q
noncomputable def Mut:Option HO->Prop|some (.lst _)=>True|some (.dK _)=>True|some (.dT _)=>True|some (.dN _ _ _)=>True|some (.set _ _)=>True|some (.ins _ _ _)=>True|some (.ext _)=>True|_=>False
section
variable {P:K8}{w:K9}{H:Hp}{h h':La}{x e:Lb}{o':HO}
def HOk.write (ok:HOk P w H h)(mu:Mut (H x))(he:e=x\/H e=some (.own x))(k:∀b u ,b≠e->h.get? b=`u->h'.get? b=`u)(heo:∃u ,h'.get? e=`u)
  (new:ObjOk P w (upd H x o') h' x o'):HOk P w (upd H x o') h':=λb u q=>by
 have nown:∀c y,H c=some (.own y)->c≠x:=λc y r z=>by subst z;rw[r]at mu;exact mu
 have ntup:∀c xs,H c=some (.tup xs)->c≠x:=λc xs r z=>by subst z;rw[r]at mu;exact mu
 by_cases hb:b=x;subst hb;rw[aq]at q;cases q;exact new
 .rw[af hb]at q;by_cases hbe:b=e
  .have q':H b=some (.own x):=by
    rcases he with z|z
    exact absurd (hbe.trans z) hb;rw[hbe];exact z
   rw[q]at q';cases q';let(v,hv):=heo;exact(v,by rw[hbe];exact hv)
  .refine (ok b u q).stay (λc v hc r=>k c v ?_ r) (λc r=>by rw[af<|nown c b r];exact r) λc xs r=>by rw[af<|ntup c xs r];exact r
   rcases hc with rfl|hc
   exact hbe
   .rintro rfl
    rcases he with z|z
    exact nown c b hc z;rw[hc]at z;cases z;exact hb rfl
end
structure Un (fs ex:↑Lb)(H H':Hp)(h h':La):Prop where
 keep:∀b o,h.get? b=`o->H b=none->b ∉fs->b ∉ex->h'.get? b=`o
 slot:∀b o,h.get? b=`o->H b=none->b∈fs->b ∉ex->∃sl,h'.get? b=some {o with slots:=sl}
 free:∀b o,h.get? b=`o->H b=none->b ∉ex->H' b=none
 there:∀b o,h.get? b=`o->b ∉ex->∃o',h'.get? b=`o'
 tups:∀b xs,H b=some (.tup xs)->H' b=some (.tup xs)
 frzs:∀b o u,H b=some (.frz o u)->H' b=some (.frz o u)
 tbls:∀b ps,H b=some (.tbl ps)->∃more,H' b=some (.tbl<|ps++more)
section
variable {fs ex:↑Lb}{H H1:Hp}{h h1 h':La}{a x e:Lb}{o:HO}
def Un.any (u:Un fs ex H H1 h h1)(q:h.get? b=`ob)(n:H b=none)(hx:b ∉ex):∃sl,h1.get? b=some {ob with slots:=sl}:=by
 by_cases hb:b∈fs;exact u.slot b ob q n hb hx;exact(ob.slots,u.keep b ob q n hb hx)
def Un.kept (k:∀b u ,h.get? b=`u->h'.get? b=`u):Un fs ex H H h h':=
 (λb ob q J J J=>k b ob q,λb ob q J J J=>(ob.slots,k b ob q),λJ J J n J=>n,λb ob q J=>(ob,k b ob q),λJ J q=>q,λJ J J q=>q,λJ ps q=>(#[],by rw[q];simp))
def Un.refl:Un fs ex H H h h:=Un.kept λJ J q=>q
def Un.laid (k:∀b u ,h.get? b=`u->h'.get? b=`u)(hp:h.objs.size<=a)(hn:H a=none):Un fs ex H (upd H a o) h h' where
 keep:=λb u q J J J=>k b u q
 slot:=λb u q J J J=>(u.slots,k b u q)
 free:=λb u q n J=>by rw[af<|Hs<|HE (Hj q) hp];exact n
 there:=λb u q J=>(u,k b u q)
 tups:=λb xs q=>by rw[af<|bz q hn];exact q
 frzs:=λb u xs q=>by rw[af<|bz q hn];exact q
 tbls:=λb ps q=>(#[],by rw[af<|bz q hn,q];simp)
def Un.write (mu:Mut (H x))(he:e=x\/H e=some (.own x))(k:∀b u ,b≠e->h.get? b=`u->h'.get? b=`u)(heo:∃u ,h'.get? e=`u):Un fs ex H (upd H x o) h h':=by
 have hx:∀b,H b=none->b≠x:=λb n z=>by subst z;rw[n]at mu;exact mu
 have hb:∀b,H b=none->b≠e:=λb n z=>by
  subst z;rcases he with r|r
  exact hx b n r;rw[n]at r;cases r
 have hm:∀b u,H b=`u->¬Mut `u->b≠x:=λb u q nm z=>by subst z;rw[q]at mu;exact nm mu
 refine(λb u q n J J=>k b u (hb b n) q,λb u q n J J=>(u.slots,k b u (hb b n) q),λb u q n J=>by rw[af<|hx b n];exact n,λb u q J=>?_,
  λb xs q=>by rw[af<|hm b _ q λz=>z];exact q,λb u xs q=>by rw[af<|hm b _ q λz=>z];exact q,λb ps q=>(#[],by rw[af (hm b _ q λz=>z),q];simp))
 by_cases hbe:b=e;subst hbe;exact heo;exact(u,k b u hbe q)
end
noncomputable def trk (h:La)(H:Hp):↑Lb:=(List.range h.objs.size).filter λa=>(H a).isSome
noncomputable def N6 (h:La)(H:Hp):La:=PySem.W.hideAll h<|trk h H
def wu (h:La)(H:Hp):(N6 h H).objs.size=h.objs.size:=PySem.W.hideAll_size _ _
def za (e:h.get? b=`o)(n:H b=none):(N6 h H).get? b=`o:=
 PySem.W.hideAll_get _ e λhm=>by have q:(H b).isSome=true:=(Jb.mp hm).2;rw[n]at q;simp at q
def AM (e:(N6 h H).get? b=`o):h.get? b=`o/\H b=none:=by
 have e':h.get? b=`o:=PySem.W.of_hideAll (trk h H) e;refine(e',?_);cases q:H b with
 |none=>rfl
 |some x=>
  have hm:b∈trk h H:=Jb.mpr (Ii.mpr<|Hj e',by simp [q]);have z:(N6 h H).get? b=none:=PySem.W.hideAll_none (trk h H) hm;rw[z]at e;cases e
noncomputable def BV (g h:La)(L:Lb):↑(Lb×Le):=(List.range h.objs.size).filterMap λa=>if a=L\/(g.get? a).isSome=true then none else (h.get? a).map λo=>(a ,o)
noncomputable def rest (g h:La)(L d:Lb):↑(Lb×Le):=(BV g h L).filter λp=>decide<|p.1≠d
end
section
structure Mod (K:Zf)(mg:Str->Option K5)(base:La):Prop where
 kin:K.In base
 glob:base.Ns Lx mg
 blt:∃mb,base.Ns builtinsNs mb/\∀x:Str,x≠"__name__"->mb x=Ly x
 nolimit:base.NoLimit
structure Cx where
 prog:K8
 w:K9
 K:Zf
 mg:Str->Option K5
 base:La
 A:Lf
 N:↑Str
 s₀:Ld
 H₀:Hp
 env:Env
 outer:↑Env
 stack:↑Env
 ex:↑Lb
 fn:Str->Bool
 calm:Bool
 pn:↑(Lb×Le)
 xe:K5->Ld->Prop
noncomputable def frs (l:↑Env):↑Lb:=l.filterMap (·.frame)
abbrev Cx.fs (X:Cx):↑Lb:=frs X.outer
def Vis (sc:Lz)(x:Str):Prop:=sc.names.lookup x=some .local \/sc.names.lookup x=some .cell\/sc.names.lookup x=some .free
def Loc (sc:Lz)(x:Str):Prop:=sc.names.lookup x=some .local \/sc.names.lookup x=some .cell
def Look (env:Env)(h:La)(m:Str->Option K5)(x:Str)(u:K5):Prop:=
 (env.kindOf x=some .local /\m x=`u)\/((env.kindOf x=some .cell\/env.kindOf x=some .free)/\∃c ,env.cells.lookup x=`c/\h.IsCell c `u)
structure Cx.Ok (X:Cx):Prop where
 mod:Mod X.K X.mg X.base
 kind:X.env.scope.kind=.function
 glob:X.env.globals=Lx
 blt:X.env.builtins=builtinsNs
 above:↥X.s₀<=X.env.locals
 inj:∀x y c,X.env.cells.lookup x=`c->X.env.cells.lookup y=`c->x=y
 has:∀x,(X.env.kindOf x=some .cell\/X.env.kindOf x=some .free)->∃c,X.env.cells.lookup x=`c
 cab:∀x c,X.fn x=true->X.env.cells.lookup x=`c->↥X.s₀<=c
 hd:X.calm=true->X.A.handled=none
 frames:X.A.frames=some X.stack
 stk:X.stack=X.outer\/(X.stack=X.env::X.outer/\X.env.frame=some X.env.locals)
 exf:∀b∈X.ex,b≠X.env.locals/\∀x c,X.env.cells.lookup x=`c->c≠b
 bs:∀b o,X.base.get? b=`o->X.s₀.heap.get? b=`o/\X.H₀ b=none
 bsz:X.base.objs.size<=↥X.s₀
 noex:∀b o,X.base.get? b=`o->b ∉X.ex
 exfs:∀b∈X.ex,b ∉X.fs
 funs:X.s₀.heap.FunFrames X.base X.outer
 frf:∀b∈X.fs,X.H₀ b=none
structure Inv (X:Cx)(gV:↑(Lb×Le))(σ:↑(Option V))(H:Hp)(s:Ld):Prop where
 ok:X.Ok
 os:s.os=X.s₀.os
 bare:LC s.gens
 base:Un X.fs X.ex X.H₀ H X.s₀.heap s.heap
 loc:∃m,s.heap.Ns X.env.locals m/\∀ (i:Nat) (x:Str) (v:V),X.N[i]?=`x->σ[i]?=some `v->Vis X.env.scope x->∃u,RelV v u/\Look X.env s.heap m x u
 cell:∀x c,X.env.cells.lookup x=`c->∃v,s.heap.IsCell c v
 free:H X.env.locals=none
 freeC:∀x c,X.env.cells.lookup x=`c->H c=none
 pin:∀p∈X.pn++gV,s.heap.get? p.1=some p.2/\H p.1=none/\p.1≠X.env.locals/\p.1 ∉X.fs/\∀v,p.2.data≠.cell v
 hok:HOk X.prog X.w H s.heap
 len:⇑σ=X.N.length
section
variable {X:Cx}{gV:↑(Lb×Le)}{σ:↑(Option V)}{H H':Hp}{s:Ld}{h':La}
def Cx.Ok.nofr (ok:X.Ok)(e:X.base.get? b=`o):b ∉X.fs:=λhb=>by have:=(ok.funs.mem hb).1;rw[e]at this;cases this
theorem Inv.bs (I:Inv X gV σ H s):∀b o,X.base.get? b=`o->s.heap.get? b=`o/\H b=none:=λb o e=>
 (I.base.keep b o (I.ok.bs b o e).1 (I.ok.bs b o e).2 (I.ok.nofr e)<|I.ok.noex b o e,I.base.free b o (I.ok.bs b o e).1 (I.ok.bs b o e).2<|I.ok.noex b o e)
def Inv.bk (I:Inv X gV σ H s):∀b o,X.base.get? b=`o->s.heap.get? b=`o:=λb o e=>(I.bs b o e).1
theorem Inv.mod (I:Inv X gV σ H s):Mod X.K X.mg X.base:=I.ok.mod
def Inv.kIn (I:Inv X gV σ H s):X.K.In s.heap:=I.ok.mod.kin.keeps I.bk
def Inv.fr (I:Inv X gV σ H s):∃m,Fr X.base X.env.locals s.heap m:=
 let (m,hn,_):=I.loc
 (m,hn,I.bk,HA I.ok.bsz I.ok.above)
theorem Inv.lt (I:Inv X gV σ H s):X.env.locals<↥s:=let (_,hn,_):=I.loc;hn.lt
def Inv.sz (I:Inv X gV σ H s):↥X.s₀<=↥s:=HA I.ok.above<|Jq I.lt
def Inv.nofs (I:Inv X gV σ H s)(h:↥s<=a):a ∉X.fs:=λhb=>by let(_,o,ho,_):=I.ok.funs.mem hb;exact absurd (HE (Hj ho)<|HA I.sz h)<|IF _
def Inv.cne (I:Inv X gV σ H s):∀x c,X.env.cells.lookup x=`c->c≠X.env.locals:=λx c e z=>by let(v,o,ho,hd):=I.cell x c e;let(m,(o',es,ep,ho',hd',_),_):=I.loc;rw[z,ho']at ho;cases ho;rw[hd']at hd;cases hd
theorem Inv.funs (I:Inv X gV σ H s):s.heap.FunFrames X.base X.outer:=by
 have all:∀ (l:↑Env),(∀b∈frs l ,b∈X.fs)->X.s₀.heap.FunFrames X.base l->s.heap.FunFrames X.base l:=by
  intro l
  induction l with
  |nil=>intro _ _;trivial
  |cons env r ih=>
   intro hs hl;let(hk,(L,o,hf,hn,ho,hd),hr):=hl;have hL:L∈X.fs:=hs L (by unfold frs;rw[Jc,hf];exact Hi);let(sl,e):=I.base.slot L o ho (I.ok.frf L hL) hL λz=>I.ok.exfs L z hL;exact(hk,(L,_,hf,hn,e,hd),ih (λb hb=>hs b<|by unfold frs;rw[Jc,hf];exact Ht _ hb) hr)
 exact all X.outer (λJ hb=>hb) I.ok.funs
theorem Inv.stack (I:Inv X gV σ H s):s.heap.FunFrames X.base X.stack:=by
 rcases I.ok.stk with e|⟨e,hf⟩
 rw[e];exact I.funs;rw[e];let(m,hn,_):=I.loc;refine .cons (by rw[I.ok.kind];decide) hf hn ?_ I.funs;exact Kt<|HA I.ok.bsz I.ok.above
def Inv.stkSub (I:Inv X gV σ H s):∀b∈frs X.stack,b∈X.env.locals::X.fs:=λb hb=>by
 rcases I.ok.stk with e|⟨e,hf⟩
 rw[e]at hb;exact Ht _ hb;rw[e]at hb;unfold frs at hb;rw[Jc,hf]at hb;exact hb
def Inv.stkFree (I:Inv X gV σ H s):∀b∈frs X.stack,H b=none:=λb hb=>by
 rcases Hd.mp (I.stkSub b hb) with e|hb
 rw[e];exact I.free;let(_,o,ho,_):=I.ok.funs.mem hb;exact I.base.free b o ho (I.ok.frf b hb) λz=>I.ok.exfs b z hb
def Inv.step {g':Array GenState}{t':Nat}{d':Drawn}{ch:↑Lb}(I:Inv X gV σ H s)
  (hch:∀b∈ch ,(b∈X.ex\/↥X.s₀<=b)/\b≠X.env.locals/\(∀x c ,X.env.cells.lookup x=`c->c≠b)/\∀p∈X.pn++gV,p.1≠b)
  (keep:∀b o ,b≠X.env.locals->b ∉X.fs->b ∉ch->s.heap.get? b=`o->H b=none->h'.get? b=`o)
  (slot:∀b o ,b≠X.env.locals->b∈X.fs->b ∉ch->s.heap.get? b=`o->H b=none->∃sl,h'.get? b=some {o with slots:=sl})(free:∀b o ,b ∉ch->s.heap.get? b=`o->H b=none->H' b=none)
  (there:∀b o ,b ∉ch->s.heap.get? b=`o->∃o',h'.get? b=`o')
  (tups:∀b xs ,H b=some (.tup xs)->H' b=some (.tup xs))(frzs:∀b o u ,H b=some (.frz o u)->H' b=some (.frz o u))(tbls:∀b ps ,H b=some (.tbl ps)->∃more,H' b=some (.tbl<|ps++more))
  (ns:∀m ,s.heap.Ns X.env.locals m->h'.Ns X.env.locals m)(hok:HOk X.prog X.w H' h')(hg:LC g'):
  Inv X gV σ H' {s with heap:=h',gens:=g',drawn:=d',toks:=t'}:=by
 have neL:∀b o,X.s₀.heap.get? b=`o->b≠X.env.locals:=λb o e=>Hs<|HE (Hj e) I.ok.above;have neC:∀b o,X.s₀.heap.get? b=`o->b ∉X.ex->b ∉ch:=λb o e hx hb=>by
  rcases (hch b hb).1 with z|z
  exact hx z;exact absurd (HE (Hj e) z)<|IF _
 have cellK:∀x c,X.env.cells.lookup x=`c->∀v,s.heap.IsCell c v->h'.IsCell c v:=λx c e v (o,ho,hd)=>by
  have nch:c ∉ch:=λz=>(hch c z).2.2.1 x c e rfl;by_cases hc:c∈X.fs;let(sl,q):=slot c o (I.cne x c e) hc nch ho<|I.freeC x c e;exact(_,q,hd);exact(o,keep c o (I.cne x c e) hc nch ho<|I.freeC x c e,hd)
 refine(I.ok,I.os,hg,(λb o e n hb hx=>?_,λb o e n hb hx=>?_,λb o e n hx=>?_,λb o e hx=>?_,λb xs e=>tups b xs<|I.base.tups b xs e,λb o xs e=>frzs b o xs<|I.base.frzs b o xs e,λb ps e=>?_),?_,λx c e=>?_,?_,λx c e=>?_,λp hp=>?_,hok,I.len);exact keep b o (neL b o e) hb (neC b o e hx) (I.base.keep b o e n hb hx)<|I.base.free b o e n hx;let(sl,e1):=I.base.slot b o e n hb hx;let(sl',e2):=slot b _ (neL b o e) hb (neC b o e hx) e1<|I.base.free b o e n hx;exact(sl',e2);let(o',e1):=I.base.there b o e hx;exact free b o' (neC b o e hx) e1<|I.base.free b o e n hx;let(o',e1):=I.base.there b o e hx;exact there b o' (neC b o e hx) e1;let(m1,e1):=I.base.tbls b ps e;let(m2,e2):=tbls b _ e1;exact(m1++m2,by rw[e2,Ku])
 .let(m,hn,hl):=I.loc;refine(m,ns m hn,λi x v e1 e2 e3=>?_);let(u,r,l):=hl i x v e1 e2 e3;refine(u,r,?_);rcases l with l|⟨k,c,e,z⟩
  exact .inl l;exact .inr (k,c,e,cellK x c e _ z)
 let(v,z):=I.cell x c e;exact(v,cellK x c e v z);let(m,(o,_,_,ho,_),_):=I.loc;exact free _ o (λz=>(hch _ z).2.1 rfl) ho I.free;let(v,o,ho,hd):=I.cell x c e;exact free c o (λz=>(hch c z).2.2.1 x c e rfl) ho<|I.freeC x c e;let(e,n,ne,nf,d):=I.pin p hp;have nch:p.1 ∉ch:=λz=>(hch p.1 z).2.2.2 p hp rfl;exact(keep p.1 p.2 ne nf nch e n,free p.1 p.2 nch e n,ne,nf,d)
def Inv.un {t':Nat}(I:Inv X gV σ H s)(u:Un X.fs [] H H' s.heap h')(hok:HOk X.prog X.w H' h'):Inv X gV σ H' {s with heap:=h',toks:=t'}:=by
 let(m,(o,es,ep,ho,r),_):=id I.loc;let(sl,hL):=u.any ho I.free ⇑_
 exact I.step (g':=s.gens) (d':=s.drawn) (ch:=[]) (λJ z=>nomatch z) (λb o J hb J e n=>u.keep b o e n hb ⇑_) (λb o J hb J e n=>u.slot b o e n hb ⇑_) (λb o J e n=>u.free b o e n ⇑_) (λb o J e=>u.there b o e ⇑_) u.tups u.frzs u.tbls (λm' hm=>by
  let(o',es',ep',ho',r'):=hm;rw[ho]at ho';cases ho'
  exact(_,es',ep',hL,r')) hok I.bare
def Inv.call {t':Nat}(I:Inv X gV σ H s)(u:Un (frs X.stack) ch H H' s.heap h')(hok:HOk X.prog X.w H' h')(hg:LC g')
  (hch:∀b∈ch ,(b∈X.ex\/↥X.s₀<=b)/\b≠X.env.locals/\(∀x c ,X.env.cells.lookup x=`c->c≠b)/\∀p∈X.pn++gV,p.1≠b):
  Inv X gV σ H' {s with heap:=h',gens:=g',drawn:=d',toks:=t'}:=by
 let(m,(o,es,ep,ho,r),_):=id I.loc;let(sl,hL):=u.any ho I.free λz=>(hch _ z).2.1 rfl
 exact I.step (ch:=ch) hch (λb o hL hb hc e n=>u.keep b o e n (λz=>(Hd.mp<|I.stkSub b z).elim hL hb) hc) (λb o J J hc e n=>u.any e n hc) (λb o hc e n=>u.free b o e n hc) (λb o hc e=>u.there b o e hc) u.tups u.frzs u.tbls (λm' hm=>by
  let(o',es',ep',ho',r'):=hm;rw[ho]at ho';cases ho'
  exact(_,es',ep',hL,r')) hok hg
def Inv.turned {t':Nat}(I:Inv X gV σ H s)(k:∀b o ,b≠it->s.heap.get? b=`o->h'.get? b=`o)(hn:H it=none)(hL:it≠X.env.locals)
  (h1:it∈X.ex\/↥X.s₀<=it)(h2:∀x c ,X.env.cells.lookup x=`c->c≠it)(h3:∀p∈X.pn++gV ,p.1≠it):Inv X gV σ H {s with heap:=h',toks:=t'}:=by
 have nit:∀b u,H b=`u->b≠it:=λb u e z=>by rw[z,hn]at e;cases e
 refine I.step (g':=s.gens) (d':=s.drawn) (ch:=[it]) (λb hb=>?_) (λb o J J hc e J=>k b o (λz=>hc<|by simp [z]) e) (λb o J J hc e J=>(o.slots,k b o (λz=>hc<|by simp [z]) e)) (λJ J J J n=>n)
  (λb o hc e=>(o,k b o (λz=>hc<|by simp [z]) e)) (λJ J e=>e) (λJ J J e=>e) (λb ps e=>(#[],by rw[e];simp)) (λm hm=>?_) (λb u e=>?_) I.bare
 .have e:b=it:=by simpa using hb
  subst e;exact(h1,hL,h2,h3)
 let(o,es,ep,ho,r):=hm;exact(o,es,ep,k _ o (Ne.symm hL) ho,r)
 .refine (I.hok b u e).stay (λc v hc q=>k c v ?_ q) (λJ q=>q) λJ J q=>q;rcases hc with z|z
  rw[z];exact nit b u e;exact nit c _ z
def Inv.tok (I:Inv X gV σ H s)(t:Nat):Inv X gV σ H {s with toks:=t}:=I.un (h':=s.heap) (t':=t) Un.refl I.hok
theorem Inv.kept {t':Nat}(I:Inv X gV σ H s)(k:∀b u ,s.heap.get? b=`u->h'.get? b=`u):Inv X gV σ H {s with heap:=h',toks:=t'}:=I.un (Un.kept k)<|I.hok.kept k
theorem Inv.laid {t':Nat}(I:Inv X gV σ H s)(k:∀b u ,s.heap.get? b=`u->h'.get? b=`u)(hp:↥s<=a)(new:ObjOk X.prog X.w (upd H a o) h' a o):
 Inv X gV σ (upd H a o) {s with heap:=h',toks:=t'}:=I.un (Un.laid k hp<|I.hok.fresh hp)<|I.hok.laid k hp new
theorem Inv.write {t':Nat}(I:Inv X gV σ H s)(mu:Mut (H x))(he:e=x\/H e=some (.own x))(k:∀b u ,b≠e->s.heap.get? b=`u->h'.get? b=`u)(heo:∃u ,h'.get? e=`u)
 (new:ObjOk X.prog X.w (upd H x o) h' x o):Inv X gV σ (upd H x o) {s with heap:=h',toks:=t'}:=I.un (Un.write mu he k heo)<|I.hok.write mu he k heo new
def Inv.weak (I:Inv X gV σ H s)(hl:⇑σ'=⇑σ)(w:∀ (i:Nat) v ,σ'[i]?=some `v->σ[i]?=some `v):Inv X gV σ' H s:=
 (I.ok,I.os,I.bare,I.base,let (m,hn,hl'):=I.loc;(m,hn,λi x v e1 e2 e3=>hl' i x v e1 (w i v e2) e3),I.cell,I.free,I.freeC,I.pin,I.hok,hl.trans I.len)
def Inv.pins_of (I:Inv X gV σ H s)(h:∀p∈pins' ,s.heap.get? p.1=some p.2/\H p.1=none/\p.1≠X.env.locals/\p.1 ∉X.fs/\∀v,p.2.data≠.cell v):Inv X pins' σ H s:=
 (I.ok,I.os,I.bare,I.base,I.loc,I.cell,I.free,I.freeC,λp hp=>(Ij.mp hp).elim (λz=>I.pin p<|Jd _ z)<|h p,I.hok,I.len)
def qA {N:↑Str}(hN:N.Nodup){i j:Nat}{x:Str}(a:N[i]?=`x)(b:N[j]?=`x):i=j:=by let(h1,e1):=Hm.mp a;let(h2,e2):=Hm.mp b;exact (List.getElem_inj hN).mp<|e1.trans e2.symm
def vj {M:Model}{E:K5->Ld->Prop}{i:Nat}{x:Str}{Q:Unit->Ld->Prop}(I:Inv X gV σ H s)(hN:X.N.Nodup)(hi:X.N[i]?=`x)(hx:Loc X.env.scope x)(r:RelV v u)
  (h:∀s' ,Inv X gV (σ.set i<|some v) H s'->(∃a ,Ia a s.heap s'.heap/\(a=X.env.locals\/X.env.cells.lookup x=`a))->Q () s')(hf:X.fn x=true\/X.env.scope.names.lookup x=some .local ):Lh M A (storeName X.env x u) Q E s:=by
 let(m,hn,hl):=id I.loc;have hcls:(X.env.scope.kind==.class||(X.env.scope.kind==.module && X.env.locals !=X.env.globals))=false:=by rw[I.ok.kind];rfl
 have hiσ:i<⇑σ:=by rw[I.len];exact (Hm.mp hi).1
 have cne:=I.cne;have tracked:∀ {a:Lb}{h':La},(∃o ,s.heap.get? a=`o/\H a=none)->Ia a s.heap h'->HOk X.prog X.w H h':=λ{a h'} ha hs b ob e=>by
  let(_,_,hfree):=ha;refine (I.hok b ob e).stay (λc w' hc q=>(hs.2 c ?_).trans q) (λJ q=>q) λJ J q=>q
  rintro rfl
  rcases hc with rfl|hc
  rw[hfree]at e;cases e;rw[hfree]at hc;cases hc
 rcases hx with hk|hk
 .refine wpAny_storeName_local hk hn (λh' hn' hs=>?_) hcls;let(oL,_,_,hoL,_):=id hn;refine h _ (I.ok,I.os,I.bare,(λb o e n hb hx=>?_,λb o e n hb hx=>?_,I.base.free,λb o e hx=>?_,I.base.tups,I.base.frzs,I.base.tbls),(_,hn',λj y v' e1 e2 e3=>?_),λy c e=>?_,I.free,I.freeC,λp hp=>?_,tracked (oL,hoL,I.free) hs,by simpa using I.len) (_,hs,.inl rfl);exact (hs.2 b<|Hs<|HE (Hj e) I.ok.above).trans<|I.base.keep b o e n hb hx;let(sl,e1):=I.base.slot b o e n hb hx;exact(sl,(hs.2 b<|Hs<|HE (Hj e) I.ok.above).trans e1);let(o',e1):=I.base.there b o e hx;exact(o',(hs.2 b<|Hs<|HE (Hj e) I.ok.above).trans e1)
  .by_cases hj:j=i;subst hj;rw[hi]at e1;cases e1;rw[IQ hiσ]at e2;cases e2;exact(u,r,.inl (hk,⇑_))
   .rw[Hr<|Ne.symm hj]at e2;let(u',r',q):=hl j y v' e1 e2 e3;refine(u',r',?_);rcases q with⟨k,e⟩|⟨k,c,e,z⟩
    refine .inl (k,?_);have:y≠x:=λe=>hj<|qA hN e1<|e▸hi;simp [this,e];exact .inr (k,c,e,z.sameBut hs<|cne y c e)
  let(w',z):=I.cell y c e;exact(w',z.sameBut hs<|cne y c e);let(e,n,ne,nf,d):=I.pin p hp;exact((hs.2 p.1 ne).trans e,n,ne,nf,d)
 .have hfn:X.fn x=true:=by
   rcases hf with z|z
   exact z;rw[z]at hk;cases hk
  let(c,hc):=I.ok.has x<|.inl hk;let(w',z):=I.cell x c hc;refine wpAny_storeName_cell I.ok.kind hk hc z (λh' hc' hs=>?_);let(oc,hoc,hocd):=id z;refine h {s with heap:=h'} (I.ok,I.os,I.bare,(λb o e n hb hx=>?_,λb o e n hb hx=>?_,I.base.free,λb o e hx=>?_,I.base.tups,I.base.frzs,I.base.tbls),(m,hn.sameBut hs<|Ne.symm<|cne x c hc,λj y v' e1 e2 e3=>?_),λy c' e=>?_,I.free,I.freeC,λp hp=>?_,tracked (oc,hoc,I.freeC x c hc) hs,by simpa using I.len) (c,hs,.inr hc);exact (hs.2 b<|Hs<|HE (Hj e)<|I.ok.cab x c hfn hc).trans<|I.base.keep b o e n hb hx;let(sl,e1):=I.base.slot b o e n hb hx;exact(sl,(hs.2 b<|Hs<|HE (Hj e)<|I.ok.cab x c hfn hc).trans e1);let(o',e1):=I.base.there b o e hx;exact(o',(hs.2 b<|Hs<|HE (Hj e)<|I.ok.cab x c hfn hc).trans e1)
  .by_cases hj:j=i;subst hj;rw[hi]at e1;cases e1;rw[IQ hiσ]at e2;cases e2;exact(u,r,.inr (.inl hk,c,hc,hc'))
   .rw[Hr<|Ne.symm hj]at e2;let(u',r',q):=hl j y v' e1 e2 e3;refine(u',r',?_);rcases q with q|⟨k,c',e,z'⟩
    exact .inl q
    .refine .inr (k,c',e,z'.sameBut hs ?_)
     rintro rfl
     exact hj<|qA hN e1<|I.ok.inj _ _ _ e hc▸hi
  .by_cases hcc:c'=c;subst hcc;exact(_,hc');let(w2,z2):=I.cell y c' e;exact(w2,z2.sameBut hs hcc)
  let(e,n,ne,nf,d):=I.pin p hp;refine((hs.2 p.1 ?_).trans e,n,ne,nf,d);intro q;rw[q,hoc]at e;have q':oc=p.2:=Option.some.inj e;exact d w' (by rw[<-q'];exact hocd)
def pU {M:Model}{E:K5->Ld->Prop}{i:Nat}{x:Str}{Q:Unit->Ld->Prop}(I:Inv X gV σ H s)(hN:X.N.Nodup)(hi:X.N[i]?=`x)(hx:Loc X.env.scope x)(r:RelV v u)
  (h:∀s' ,Inv X gV (σ.set i<|some v) H s'->Q () s')(hf:X.fn x=true\/X.env.scope.names.lookup x=some .local ):Lh M A (storeName X.env x u) Q E s:=
 vj I hN hi hx r (λs' I' J=>h s' I') hf
def Inv.call' (I:Inv X gV σ H s)(ho:s'.os=s.os)(u:Un (frs X.stack) ch H H' s.heap s'.heap)(hok:HOk X.prog X.w H' s'.heap)(hg:LC s'.gens)
  (hch:∀b∈ch ,(b∈X.ex\/↥X.s₀<=b)/\b≠X.env.locals/\(∀x c ,X.env.cells.lookup x=`c->c≠b)/\∀p∈X.pn++gV,p.1≠b):Inv X gV σ H' s':=by
 let(h',g',d',t',o'):=s';have e:o'=s.os:=ho;subst e;exact I.call (g':=g') (t':=t') (d':=d') u hok hg hch
end
abbrev XK:=K5->Option Lb->Hp->Prop
abbrev St:=List<|Option V
abbrev VK:=V->Hp->Prop
abbrev TE:=St->Hp->VK->Prop
abbrev TT:=St->Hp->(Bool->Hp->Prop)->Prop
abbrev TA:=St->Hp->(↑V->Hp->Prop)->Prop
structure ME where
 nx:St->Hp->Prop
 rt:VK
 bk:St->Hp->Prop:=λ_ _=>False
 ct:St->Hp->Prop:=λ_ _=>False
abbrev TS:=ME->St->Hp->Prop
def EP (X:Cx)(gV:↑(Lb×Le))(σ:St)(Q:VK)(u:K5)(s':Ld):Prop:=∃v H',Inv X gV σ H' s'/\RelV v u/\Q v H'
def TP (X:Cx)(gV:↑(Lb×Le))(σ:St)(Q:Bool->Hp->Prop)(b:Bool)(s':Ld):Prop:=∃H',Inv X gV σ H' s'/\Q b H'
def AP (X:Cx)(gV:↑(Lb×Le))(σ:St)(Q:↑V->Hp->Prop)(us:↑K5)(s':Ld):Prop:=∃vs H',Inv X gV σ H' s'/\Vals vs us/\Q vs H'
def SP (X:Cx)(gV:↑(Lb×Le))(D:ME)(f:Flow)(s':Ld):Prop:=
 match f with|.next=>∃σ' H',Inv X gV σ' H' s'/\D.nx σ' H'|.brk=>∃σ' H',Inv X gV σ' H' s'/\D.bk σ' H'|.cont=>∃σ' H',Inv X gV σ' H' s'/\D.ct σ' H'|.ret u=>∃v σ' H',Inv X gV σ' H' s'/\RelV v u/\D.rt v H'
def PE (X:Cx)(e:Expr)(t:TE):Prop:=
 ∀ (gV:↑(Lb×Le)) (s:Ld) (σ:St) (H:Hp) (Q:VK),Inv X gV σ H s->t σ H Q->Lh (Li X.prog X.w) X.A (LD e X.env) (EP X gV σ Q) X.xe s
def PT (X:Cx)(e:Expr)(t:TT):Prop:=
 ∀ (gV:↑(Lb×Le)) (s:Ld) (σ:St) (H:Hp) (Q:Bool->Hp->Prop),Inv X gV σ H s->t σ H Q->Lh (Li X.prog X.w) X.A (isTrue e X.env<|LD e X.env) (TP X gV σ Q) X.xe s
def PW (X:Cx)(e:Expr)(t:TT):Prop:=
 ∀ (whole:Sem K5) (gV:↑(Lb×Le)) (s:Ld) (σ:St) (H:Hp) (Q:Bool->Hp->Prop),Inv X gV σ H s->t σ H Q->Lh (Li X.prog X.w) X.A (isTrue e X.env whole) (TP X gV σ Q) X.xe s
def PW.pt (h:PW X e t):PT X e t:=h _
def PA (X:Cx)(es:↑Expr)(t:TA):Prop:=
 ∀ (pos:LF) (gV:↑(Lb×Le)) (s:Ld) (σ:St) (H:Hp) (Q:↑V->Hp->Prop),Inv X gV σ H s->t σ H Q->Lh (Li X.prog X.w) X.A (spliced<|LG pos<|LH es X.env) (AP X gV σ Q) X.xe s
def PS (X:Cx)(st:LI)(t:TS):Prop:=
 ∀ (gV:↑(Lb×Le)) (s:Ld) (σ:St) (H:Hp) (D:ME),Inv X gV σ H s->t D σ H->Lh (Li X.prog X.w) X.A (exec st X.env) (SP X gV D) X.xe s
def PSs (X:Cx)(st:↑LI)(t:TS):Prop:=
 ∀ (gV:↑(Lb×Le)) (s:Ld) (σ:St) (H:Hp) (D:ME),Inv X gV σ H s->t D σ H->Lh (Li X.prog X.w) X.A (execs st X.env) (SP X gV D) X.xe s
def thn {α:Type}{t:Sem α}{Q Q':α->Ld->Prop}{M:Model}{E:K5->Ld->Prop}(h:Lh M A t Q E s)(hQ:∀a s ,Q a s->Q' a s):Lh M A t Q' E s:=LJ h hQ λJ J x=>x
end
section
section
variable {X:Cx}
def bin (ha:PE X a ta)(hb:PE X b tb){R:V->V->Hp->Prop}(I:Inv X gV σ H s)(h:ta σ H λx H1=>tb σ H1 λy H2=>R x y H2)
  {α:Type}{Q:α->Ld->Prop}{f:K5->K5->Sem α}
  (hf:∀v u s2 x y H2 ,Inv X gV σ H2 s2->RelV x v->RelV y u->R x y H2->Lh (Li X.prog X.w) X.A (f v u) Q X.xe s2):
  Lh (Li X.prog X.w) X.A (LD a X.env) (λv s₁=>Lh (Li X.prog X.w) X.A (LD b X.env) (λu s₂=>Lh (Li X.prog X.w) X.A (f v u) Q X.xe s₂) X.xe s₁) X.xe s:=by
 refine thn (ha gV s σ H _ I h) λv s1 qz=>?_;let(x,H1,I1,r1,q1):=qz;refine thn (hb gV s1 σ H1 _ I1 q1) λu s2 qz=>?_;let(y,H2,I2,r2,q2):=qz;exact hf v u s2 x y H2 I2 r1 r2 q2
noncomputable def R7 (i:Nat):TE:=λσ H Q=>∃v,σ[i]?=some `v/\Q v H
noncomputable def tC (v:V):TE:=λJ H Q=>Q v H
def Dj {i:Nat}{x:Str}(hN:X.N[i]?=`x)(hv:Vis X.env.scope x)(hd:(x==("__debug__":Str))=false)(hcd:(x==("__classdict__":Str))=false):PE X (.Name x pos) (R7 i):=by
 intro gV s σ H Q I h;let(v,e,h):=h;let(m,hn,hl):=I.loc;let(u,r,l):=hl i x v hN e hv;have fin:EP X gV σ Q u s:=(v,H,I,r,h)
 rcases l with⟨hk,hm⟩|⟨hk,c,hc,hcell⟩
 exact wpAny_Name (wpAny_loadName_local I.ok.kind hk hn hm fin) hd
 .rcases hk with hk|hk
  exact wpAny_Name (wpAny_loadName_cell I.ok.kind hk hc hcell fin) hd;exact wpAny_Name (wpAny_loadName_free I.ok.kind hk hc hcell fin hcd) hd
def Qf {i j pos}:PE X (.Constant (.int i) j pos) (tC<|.int i):=λJ J J H J I h=>wpAny_Constant_int (.int i,H,I.tok _,(_,rfl),h)
def Qd {b j pos}:PE X (.Constant (.bool b) j pos) (tC<|.bl b):=λJ J J H J I h=>Constant_bool (.bl b,H,I,rfl,h)
def Qg {j pos}:PE X (.Constant .none j pos) (tC .non):=λJ J J H J I h=>Constant_none (.non,H,I,rfl,h)
def Qh {x j pos}:PE X (.Constant (.str x) j pos) (tC<|.str x):=λJ J J H J I h=>Calls.Constant_str (.str x,H,I.tok _,(_,rfl),h)
def Gl (X:Cx)(x:Str):Prop:=X.env.kindOf x=some .globalImplicit
def jr {E:K5->Ld->Prop}{x:Str}{Q:K5->Ld->Prop}(I:Inv X gV σ H s)(hg:Gl X x)(hm:X.mg x=`u)(h:Q u s)
  (hd:(x==("__debug__":Str))=false):Lh (Li X.prog X.w) X.A (LD (.Name x pos) X.env) Q E s:=
 Calls.Name_function_global I.ok.kind hg (Calls.loadGlobal_global (by rw[I.ok.glob];exact I.mod.glob.keeps I.bk) hm h) hd
def dU {E:K5->Ld->Prop}{x:Str}{Q:K5->Ld->Prop}(I:Inv X gV σ H s)(hg:Gl X x)(hm:X.mg x=none)(hv:Ly x=`u)(h:Q u s)
  (hn:x≠"__name__":=by decide)(hd:(x==("__debug__":Str))=false:=by decide):Lh (Li X.prog X.w) X.A (LD (.Name x pos) X.env) Q E s:=by
 let(mb,h1,h2):=I.mod.blt;exact Calls.Name_function_global I.ok.kind hg (Calls.loadGlobal_builtin (by rw[I.ok.glob];exact I.mod.glob.keeps I.bk) hm (by rw[I.ok.blt];exact h1.keeps I.bk) ((h2 x hn).trans hv) h) hd
def dg {x:Str}(hg:Gl X x)(hm:X.mg x=`u)(r:RelV v u)(hd:(x==("__debug__":Str))=false:=by decide):PE X (.Name x pos) (tC v):=
 λJ J J H J I h=>jr I hg hm (v,H,I,r,h) hd
variable {a b:Expr}{ta tb:TE}{pos:LF}
noncomputable def tB (t:TE):TT:=λσ H Q=>t σ H λx H1=>∃c,x=.bl c/\Q c H1
def fY (h:PE X e t)(he:∀whole ,isTrue e X.env whole=(do let v<-whole;LM e.pos;LN [v] (truthy v)):=by intro _;rfl):PT X e (tB t):=by intro gV s σ H Q I hw;refine isTrue_plain (thn (h gV s σ H _ I hw) λv s1 qz=>?_)<|he _;let(x,H1,I1,r1,q1):=qz;let(d,rfl,q):=q1;cases r1;exact Lq (H1,I1,q)
variable {tA tB':TT}{rest:↑Expr}
noncomputable def tAnd (t u:TT):TT:=λσ H Q=>t σ H λc H1=>if c=true then u σ H1 Q else Q false H1
noncomputable def tOr (t u:TT):TT:=λσ H Q=>t σ H λc H1=>if c=true then Q true H1 else u σ H1 Q
noncomputable def tNot (t:TT):TT:=λσ H Q=>t σ H λc H1=>Q (!c) H1
def uo (ha:PT X a tA):PW X (.BoolOp .And [a] pos) tA:=by
 intro wh gV s σ H Q I h;refine isTrue_and (thn (ha gV s σ H Q I h) λc s1 e=>?_);cases c with|true=>exact isTrue_and_nil e|false=>exact e
def se (ha:PT X a tA):PW X (.BoolOp .Or [a] pos) tA:=by
 intro wh gV s σ H Q I h;refine isTrue_or (thn (ha gV s σ H Q I h) λc s1 e=>?_);cases c with|false=>exact isTrue_or_nil e|true=>exact e
def xC (ha:PT X a tA)(hb:PW X (.BoolOp .And (b::rest) pos) tB'):PW X (.BoolOp .And (a::b::rest) pos) (tAnd tA tB'):=by
 intro wh gV s σ H Q I h;refine isTrue_and (thn (ha gV s σ H _ I h) λc s1 qz=>?_);let(H1,I1,q1):=qz;cases c with|true=>exact hb wh gV s1 σ H1 Q I1 q1|false=>exact(H1,I1,q1)
def xB (ha:PT X a tA)(hb:PW X (.BoolOp .Or (b::rest) pos) tB'):PW X (.BoolOp .Or (a::b::rest) pos) (tOr tA tB'):=by
 intro wh gV s σ H Q I h;refine isTrue_or (thn (ha gV s σ H _ I h) λc s1 qz=>?_);let(H1,I1,q1):=qz;cases c with|true=>exact(H1,I1,q1)|false=>exact hb wh gV s1 σ H1 Q I1 q1
def sf (ha:PT X a tA):PT X (.UnaryOp .Not a pos) (tNot tA):=by intro gV s σ H Q I h;exact isTrue_not<|ha gV s σ H (λc H1=>Q (!c) H1) I h
noncomputable def tAndV (ta tb:TE):TE:=λσ H Q=>ta σ H λx H1=>∃c,x=.bl c/\if c=true then tb σ H1 Q else Q (.bl false) H1
noncomputable def tNotV (ta:TE):TE:=λσ H Q=>ta σ H λx H1=>∃c,x=.bl c/\Q (.bl<|!c) H1
def sw {op}(h:PE X a t):PE X (.BoolOp op [a] pos) t:=λgV s σ H Q I hw=>BoolOp_one<|h gV s σ H Q I hw
def sx (ha:PE X a ta)(hb:PE X (.BoolOp .And (b::rest) pos) tb):PE X (.BoolOp .And (a::b::rest) pos) (tAndV ta tb):=by
 intro gV s σ H Q I h;refine BoolOp_and (thn (ha gV s σ H _ I h) λv s1 qz=>?_);let(x,H1,I1,r1,q1):=qz;let(c,rfl,q1):=q1;cases r1;refine Lq ?_;cases c with|true=>exact hb gV s1 σ H1 Q I1 q1|false=>exact(.bl false,H1,I1,rfl,q1)
def Dl (ha:PE X a ta):PE X (.UnaryOp .Not a pos) (tNotV ta):=by intro gV s σ H Q I h;refine UnaryOp_ (thn (ha gV s σ H _ I h) λv s1 qz=>?_);let(x,H1,I1,r1,q1):=qz;let(c,rfl,q1):=q1;cases r1;exact not_of<|Lq (.bl<|!c,H1,I1,rfl,q1)
noncomputable def tIf (t:TT)(ta tb:TE):TE:=λσ H Q=>t σ H λc H1=>if c=true then ta σ H1 Q else tb σ H1 Q
def xP (hc:PT X c tA)(ha:PE X a ta)(hb:PE X b tb):PE X (.IfExp c a b pos) (tIf tA ta tb):=by
 intro gV s σ H Q I h;refine wpAny_IfExp (thn (hc gV s σ H _ I h) λd s1 qz=>?_);let(H1,I1,q1):=qz;cases d with|true=>exact ha gV s1 σ H1 Q I1 q1|false=>exact hb gV s1 σ H1 Q I1 q1
end
end
section
def SqL (K:Zf)(H:Hp)(a:Lb)(xs:↑V):Prop:=
 Rd H a (.lst xs)\/
  ∃ (o:Le) (its:Array K5) (n:Nat),K.lookup a=`o/\o.cls=.type "list"/\o.dict=none/\o.data=.seq its n/\its.size<=sizeLine/\Vals xs its.toList
def SqT (K:Zf)(H:Hp)(a:Lb)(xs:↑V):Prop:=
 Rd H a (.tup xs)\/
  ∃ (o:Le) (its:Array K5) (n:Nat),K.lookup a=`o/\o.cls=.type "tuple"/\o.data=.seq its n/\its.size<=sizeLine/\Vals xs its.toList
noncomputable def absV:K5->Option V|.none=>some .non|.bool b=>some (.bl b)|.int i _=>some (.int i)|.str x _=>some (.str x)|.bytes b _=>some (.byt b)|.float b _=>some (.flt b)|.ref a=>some (.ref a)|.type n=>some (.ty n)|_=>none
def RelV.abs (r:RelV x u):absV u=`x:=by
 cases x with|non=>cases r;rfl|bl _=>cases r;rfl|int _=>let(t,rfl):=r;rfl|str _=>let(t,rfl):=r;rfl|byt _=>let(t,rfl):=r;rfl|flt _=>let(t,rfl):=r;rfl|ref _=>cases r;rfl|ty _=>cases r;rfl
theorem RelV.inj (r:RelV x u)(q:RelV y u):x=y:=Option.some.inj<|r.abs.symm.trans q.abs
theorem Vals.inj:∀ {xs ys:↑V}{us:↑K5},Vals xs us->Vals ys us->xs=ys
 :=by
 intro xs ys us h
 induction h generalizing ys with
 |nil=>intro g;cases g;rfl
 |cons r t ih=>
  intro g;cases g with|cons r' t'=>rw[r.inj r',ih t']
section
variable {X:Cx}{gV:↑(Lb×Le)}{σ:St}{H:Hp}{s:Ld}{a:Lb}{xs ys:↑V}
def SqL.of {K:Zf}(h:H a=some (.lst xs)):SqL K H a xs:=.inl<|.inl h
def SqT.of {K:Zf}(h:H a=some (.tup xs)):SqT K H a xs:=.inl<|.inl h
def Inv.list (I:Inv X gV σ H s)(h:SqL X.K H a xs):∃its:↑K5,Vals xs its/\PlainL s.heap a its.toArray/\⇑xs<=sizeLine:=by
 rcases h with h|⟨o,its,n,hk,hc,hd,hs,hz,r⟩
 let(z,its,n,r,e):=h.ok I.hok;exact(its,r,(_,n,e,rfl,rfl,rfl),z);refine(its.toList,r,(o,n,I.kIn a o hk,hc,hd,by simpa using hs),?_);have e:=⇑r;simp only[HY]at e;omega
def Inv.tuple (I:Inv X gV σ H s)(h:SqT X.K H a xs):∃its:↑K5,Vals xs its/\IsTup s.heap a its.toArray/\⇑xs<=sizeLine:=by
 rcases h with h|⟨o,its,n,hk,hc,hs,hz,r⟩
 let(z,its,r,p):=h.ok I.hok;exact(its,r,p.1,z);refine(its.toList,r,(o,I.kIn a o hk,hc,n,by simpa using hs),?_);have e:=⇑r;simp only[HY]at e;omega
def Inv.list_inj (I:Inv X gV σ H s)(h:SqL X.K H a xs)(h':SqL X.K H a ys):xs=ys:=by
 let(its,r,(o,n,e,_,_,d),_):=I.list h;let(its',r',(o',n',e',_,_,d'),_):=I.list h';rw[e]at e';cases e';rw[d]at d';injection d' with d1 _
 have:its=its':=by simpa using congrArg Array.toList d1
 subst this;exact r.inj r'
def Inv.tuple_inj (I:Inv X gV σ H s)(h:SqT X.K H a xs)(h':SqT X.K H a ys):xs=ys:=by
 let(its,r,(o,e,_,n,d),_):=I.tuple h;let(its',r',(o',e',_,n',d'),_):=I.tuple h';rw[e]at e';cases e';rw[d]at d';injection d' with d1 _
 have:its=its':=by simpa using congrArg Array.toList d1
 subst this;exact r.inj r'
end
abbrev Cx.wish (X:Cx)(E:K5->Ld->Prop):Cx:={X with xe:=E}
abbrev Cx.nox (X:Cx):Cx:=X.wish λJ J=>False
theorem Cx.Ok.wish {X:Cx}(ok:X.Ok)(E:K5->Ld->Prop):(X.wish E).Ok:=
 (ok.mod,ok.kind,ok.glob,ok.blt,ok.above,ok.inj,ok.has,ok.cab,ok.hd,ok.frames,ok.stk,ok.exf,ok.bs,ok.bsz,ok.noex,ok.exfs,ok.funs,ok.frf)
def Cx.Ok.unwish {X:Cx}{E:K5->Ld->Prop}(ok:(X.wish E).Ok):X.Ok:=
 (ok.mod,ok.kind,ok.glob,ok.blt,ok.above,ok.inj,ok.has,ok.cab,ok.hd,ok.frames,ok.stk,ok.exf,ok.bs,ok.bsz,ok.noex,ok.exfs,ok.funs,ok.frf)
section
variable {X:Cx}{gV:↑(Lb×Le)}{σ:St}{H:Hp}{s:Ld}{E:K5->Ld->Prop}
theorem Inv.wish (I:Inv X gV σ H s)(E:K5->Ld->Prop):Inv (X.wish E) gV σ H s:=(I.ok.wish E,I.os,I.bare,I.base,I.loc,I.cell,I.free,I.freeC,I.pin,I.hok,I.len)
theorem Inv.unwish (I:Inv (X.wish E) gV σ H s):Inv X gV σ H s:=(I.ok.unwish,I.os,I.bare,I.base,I.loc,I.cell,I.free,I.freeC,I.pin,I.hok,I.len)
theorem SP.unwish (h:SP (X.wish E) gV D f s'):SP X gV D f s':=by
 cases f with|next=>let(σ',H',I,q):=h;exact(σ',H',I.unwish,q)|brk=>let(σ',H',I,q):=h;exact(σ',H',I.unwish,q)|cont=>let(σ',H',I,q):=h;exact(σ',H',I.unwish,q)|ret u=>let(v,σ',H',I,r,q):=h;exact(v,σ',H',I.unwish,r,q)
theorem PSs.nox {st:↑LI}(h:PSs X.nox st t):PSs X st t:=λgV s σ H D I hw=>
 LJ (h gV s σ H D (I.wish _) hw) (λJ J q=>q.unwish) λJ J z=>False.elim z
end
section
variable {X:Cx}{st:LI}{rest:↑LI}{t u:TS}{e:Expr}{te:TE}{pos:LF}
noncomputable def tNext:TS:=λD σ H=>D.nx σ H
noncomputable def tSeq (t u:TS):TS:=λD σ H=>t {D with nx:=u D} σ H
def Qo:PSs X [] tNext:=λ_ _ σ H _ I h=>LO (σ,H,I,h)
def ay (h1:PS X st t)(h2:PSs X rest u):PSs X (st::rest) (tSeq t u):=by
 intro gV s σ H D I h;refine wpAny_execs_cons (thn (h1 gV s σ H {D with nx:=u D} I h) λf s1 q=>?_);cases f with
 |next=>
  let(σ',H',I',q):=q;exact h2 gV s1 σ' H' D I' q
 |ret v=>exact q
 |brk=>exact q
 |cont=>exact q
def aR (h1:PS X st t):PSs X [st] t:=by
 intro gV s σ H D I h;refine wpAny_execs_cons (thn (h1 gV s σ H D I h) λf s1 q=>?_);cases f with|next=>exact LO q|ret v=>exact q|brk=>exact q|cont=>exact q
def Inv.quiet (I:Inv X gV σ H s):interactive X.env=false:=by simp [interactive,I.ok.kind]
noncomputable def tDrop (te:TE):TS:=λD σ H=>te σ H λJ H1=>D.nx σ H1
def oP (he:PE X e te)(hs:swapsWith e none pos.line X.env=pure false):PS X (.Expr e pos) (tDrop te):=by intro gV s σ H D I h;exact wpAny_Expr_any (thn (he gV s σ H _ I h) λv s1 (x,H1,I1,r1,q1)=>(σ,H1,I1,q1)) I.quiet hs
noncomputable def tRet (te:TE):TS:=λD σ H=>te σ H D.rt
def cK (he:PE X e te):PS X (.Return `e pos) (tRet te):=by intro gV s σ H D I h;exact wpAny_Return_some (thn (he gV s σ H _ I h) λv s1 (x,H1,I1,r1,q1)=>(x,σ,H1,I1,r1,q1))
noncomputable def tIfS (c:TT)(t u:TS):TS:=λD σ H=>c σ H λb H1=>if b=true then t D σ H1 else u D σ H1
def gG (hc:PT X c tc)(ha:PSs X a t)(hb:PSs X b u):PS X (.If c a b pos) (tIfS tc t u):=by
 intro gV s σ H D I h;refine wpAny_If (thn (hc gV s σ H _ I h) λd s1 qz=>?_);let(H1,I1,q1):=qz;cases d with|true=>exact ha gV s1 σ H1 D I1 q1|false=>exact hb gV s1 σ H1 D I1 q1
noncomputable def CH:TS:=λJ J J=>False
def vB :PSs X sts CH:=λJ J J J J J h=>h.elim
end
abbrev TG:=V->St->Hp->(St->Hp->Prop)->Prop
abbrev TGs:=↑V->St->Hp->(St->Hp->Prop)->Prop
def PG (X:Cx)(target:Expr)(t:TG):Prop:=
 ∀ (gV:↑(Lb×Le)) (s:Ld) (σ:St) (H:Hp) (v:V) (u:K5) (Q:St->Hp->Prop),Inv X gV σ H s->RelV v u->t v σ H Q->
   Lh (Li X.prog X.w) X.A (assign target X.env u) (λJ s'=>∃σ' H' ,Inv X gV σ' H' s'/\Q σ' H') X.xe s
def PGs (X:Cx)(ts:↑Expr)(t:TGs):Prop:=
 ∀ (gV:↑(Lb×Le)) (s:Ld) (σ:St) (H:Hp) (vs:↑V) (us:↑K5) (Q:St->Hp->Prop),Inv X gV σ H s->Vals vs us->t vs σ H Q->
   Lh (Li X.prog X.w) X.A (assignInOrder ((LP ts X.env).map (·.2)) us) (λJ s'=>∃σ' H' ,Inv X gV σ' H' s'/\Q σ' H') X.xe s
abbrev M0:=V->V->V->Hp->(Hp->Prop)->Prop
def PSet (X:Cx)(t:M0):Prop:=
 ∀ (gV:↑(Lb×Le)) (s:Ld) (σ:St) (H:Hp) (o i v:V) (ov iv u:K5) (Q:Hp->Prop),Inv X gV σ H s->RelV o ov->RelV i iv->RelV v u->t o i v H Q->
   Lh (Li X.prog X.w) X.A (setItem ov iv u) (λJ s'=>∃H' ,Inv X gV σ H' s'/\Q H') X.xe s
section
variable {X:Cx}{pos:LF}
noncomputable def NZ (i:Nat):TG:=λv σ H Q=>Q (σ.set i<|some v) H
def bh {i:Nat}{x:Str}(hN:X.N.Nodup)(hi:X.N[i]?=`x)(hx:Loc X.env.scope x)(hf:X.fn x=true\/X.env.scope.names.lookup x=some .local :=by subst_vars):PG X (.Name x pos) (NZ i):=by intro gV s σ H v u Q I r h;exact wpAny_assign_Name<|pU I hN hi hx r (λs' I'=>(_,H,I',h)) hf
noncomputable def gNil:TGs:=λvs σ H Q=>vs=[]/\Q σ H
noncomputable def NY (t:TG)(u:TGs):TGs:=λvs σ H Q=>∃v r,vs=v::r/\t v σ H λσ' H'=>u r σ' H' Q
def im:PGs X [] gNil:=by intro gV s σ H vs us Q I r h;let(e,h):=h;subst e;cases r;exact assignInOrder_nil (σ,H,I,h)
def cn (h1:PG X e t)(h2:PGs X es u)
  (hs:(LP (e::es) X.env).map (·.2)=assign e X.env::(LP es X.env).map (·.2):=by rfl):PGs X (e::es) (NY t u):=by
 intro gV s σ H vs us Q I r h;let(v,vr,e1,h):=h;subst e1;cases r with
 |cons r rr=>
  rw[hs];refine assignInOrder_cons (thn (h1 gV s σ H _ _ _ I r h) λJ s1 qz=>?_);let(σ1,H1,I1,q1):=qz;exact h2 gV s1 σ1 H1 _ _ Q I1 rr q1
noncomputable def gTup (K:Zf)(n:Nat)(t:TGs):TG:=λv σ H Q=>∃a xs,v=.ref a/\SqT K H a xs/\⇑xs=n/\t xs σ H Q
def jU {k:Nat}{n:Nat}(hc:X.calm=true)(h:PGs X es t)
  (hn:⇑(LP es X.env)=n:=by rfl)(hst:(LP es X.env).findIdx? (·.1)=none:=by rfl):PG X (.Tuple es k pos) (gTup X.K n t):=by
 intro gV s σ H v u Q I r hw;let(a,xs,e1,hq,hl,hw):=hw;subst e1;cases r;let(its,rv,ht,hz):=I.tuple hq;refine assign_Tuple_tuple (I.ok.hd hc) ht (by simp [hn,<-hl,⇑rv]) hst λh' hx=>?_;have I1:Inv X gV σ H {s with heap:=h'}:=I.kept (t':=s.toks) λb o e=>hx b o (Hs<|Hj e) e;exact h gV _ σ H xs _ Q I1 (by simpa using rv) hw
noncomputable def gSub (to ti:TE)(t:M0):TG:=λv σ H Q=>to σ H λo H1=>ti σ H1 λi H2=>t o i v H2 λH3=>Q σ H3
def xM (ho:PE X o to)(hi:PE X i ti)(hs:PSet X t)
  (ha:∀v ,assign (.Subscript o i pos) X.env v=(do
   let ov<-LN [v] (LD o X.env);let iv<-LN [v,ov] (LD i X.env)
   LM pos
   LN [v,ov,iv] (setItem ov iv v)
   release [v,ov,iv] [])):PG X (.Subscript o i pos) (gSub to ti t):=by
 intro gV s σ H v u Q I r h;rw[ha];refine Lj (Lp<|thn (ho gV s σ H _ I h) λov s1 qz=>?_);let(x,H1,I1,r1,q1):=qz;refine Lj (Lp<|thn (hi gV s1 σ H1 _ I1 q1) λiv s2 qz=>?_);let(y,H2,I2,r2,q2):=qz;refine Lj (wpAny_standAt<|Lj<|Lp<|thn (hs gV s2 σ H2 x y v ov iv u _ I2 r1 r2 r q2) λJ s3 qz=>?_);let(H3,I3,q3):=qz;exact wpAny_release (σ,H3,I3,q3)
noncomputable def tAsg (te:TE)(g:TG):TS:=λD σ H=>te σ H λx H1=>g x σ H1 D.nx
def xE (he:PE X e te)(hg:PG X tg g)(hs:swapsWithSole [tg] e pos.line X.env=pure false)(hw:swappedStores [tg] e X.env=pure none)
  (h1:(LP [tg] X.env).map (·.2)=[assign tg X.env]):PS X (.Assign [tg] e pos) (tAsg te g):=by
 intro gV s σ H D I h;refine wpAny_Assign_stores (thn (he gV s σ H _ I h) λv s1 qz=>?_) hs hw;let(x,H1,I1,r1,q1):=qz;rw[h1];exact thn (hg gV s1 σ H1 x v _ I1 r1 q1) λJ s2 q=>q
def dB {i:Nat}{x:Str}(hN:X.N.Nodup)(hi:X.N[i]?=`x)(hx:Loc X.env.scope x)(he:PE X e te)(hs:swapsWith e (some<|.Name x pos') pos.line X.env=pure false:=by rfl)(hf:X.fn x=true\/X.env.scope.names.lookup x=some .local :=by subst_vars):
  PS X (.Assign [.Name x pos'] e pos) (tAsg te<|NZ i):=by
 intro gV s σ H D I h;refine wpAny_Assign_Name (thn (he gV s σ H _ I h) λv s1 qz=>?_) hs;let(y,H1,I1,r1,q1):=qz;exact pU I1 hN hi hx r1 (λs2 I2=>(_,H1,I2,q1)) hf
end
section
variable {X:Cx}{pos:LF}
noncomputable def Cz (c:TT)(tb:TS):TS:=λD σ H=>∃W:Nat->St->Hp->Prop,(∃m ,W m σ H)/\∀m σ H,W m σ H->
 c σ H λb H1=>if b=true then∃N:St->Hp->Prop,(∀σ' H' ,N σ' H'->∃m',m'<m/\W m' σ' H')/\tb {D with nx:=N,ct:=N,bk:=D.nx} σ H1 else D.nx σ H1
def lB (hp:LQ (Li X.prog X.w) X.A X.env X.xe)(hc:PT X c tc)(hb:PSs X body tb):PS X (.While c body [] pos) (Cz tc tb):=by
 intro gV s σ H D I h;let(W,(m0,w0),turn):=h;refine wpAny_While<|codeAny_whileLoop (λn s'=>∃σ' H' ,Inv X gV σ' H' s'/\W n σ' H') ?_ m0 (σ,H,I,w0)
 rintro n s1 ⟨σ1,H1,I1,w1⟩
 refine LR hp (thn (hc gV s1 σ1 H1 _ I1<|turn n σ1 H1 w1) λb s2 qz=>?_);let(H2,I2,q2):=qz;cases b with
 |true=>
  let(N,hN,q2):=q2;rw[bf rfl];refine LR hp (thn (hb gV s2 σ1 H2 _ I2 q2) λf s3 q3=>?_);cases f with
  |next=>
   let(σ3,H3,I3,n3):=q3;let(m',hm,w3):=hN σ3 H3 n3;exact(m',hm,σ3,H3,I3,w3)
  |cont=>
   let(σ3,H3,I3,n3):=q3;let(m',hm,w3):=hN σ3 H3 n3;exact(m',hm,σ3,H3,I3,w3)
  |brk=>exact q3
  |ret v=>exact q3
 |false=>
  rw[aZ Hv];exact LO (σ1,H2,I2,q2)
end
structure It where
 go:Nat->Hp->Prop
 yld:Nat->Hp->V->Hp->Prop
 stop:Nat->Hp->Prop
def MI (X:Cx)(gV:↑(Lb×Le))(H:Hp)(b:Lb):Prop:=
 H b=none/\b≠X.env.locals/\b ∉X.fs/\(b∈X.ex\/↥X.s₀<=b)/\(∀x c ,X.env.cells.lookup x=`c->c≠b)/\∀p∈X.pn++gV,p.1≠b
def Inv.fpOk (I:Inv X gV σ H s)(hb:↥s<=b)(hn:H' b=none):MI X gV H' b:=by
 refine(hn,IG<|HE I.lt hb,I.nofs hb,.inr<|HA I.sz hb,λx c e z=>?_,λp hp z=>?_);let(v,q):=I.cell x c e;exact absurd (HE q.lt<|by rw[z];exact hb)<|IF _;exact absurd (HE (Hj (I.pin p hp).1)<|by rw[z];exact hb)<|IF _
structure M3 (P:K8)(w:K9)(K:Zf)(tg:Expr)(J:It)(fp:↑Lb)(it:Lb)(tn:Nat->La->Prop):Prop where
 mem:it∈fp
 obj:∀i h,tn i h->∀b∈fp,∃o,h.get? b=`o/\∀v,o.data≠.cell v
 keep:∀i h h',tn i h->(∀b∈fp ,∀o,h.get? b=`o->h'.get? b=`o)->tn i h'
 item:∀ (X:Cx),X.prog=P->X.w=w->X.K=K->X.calm=true->∀ (i:Nat) (gV:↑(Lb×Le)) (s:Ld) (σ:St) (H:Hp) (E:K5->Ld->Prop),Inv X gV σ H s->(∀b∈fp ,MI X gV H b)->tn i s.heap->J.go i H->
  Lh (Li P w) X.A (LS<|.ref it) (λr s1=>∃u ,r=`u/\
   Lh (Li P w) X.A (LU tg (.ref it) u) (λ_ s2=>∃x H' ,Inv X gV σ H' s2/\RelV x u/\J.yld i H x H'/\tn (i+1) s2.heap/\∀b∈fp,H' b=none) E s1) E s
 done:∀ (X:Cx),X.prog=P->X.w=w->X.K=K->X.calm=true->∀ (i:Nat) (gV:↑(Lb×Le)) (s:Ld) (σ:St) (H:Hp) (E:K5->Ld->Prop),Inv X gV σ H s->(∀b∈fp ,MI X gV H b)->tn i s.heap->J.stop i H->
  Lh (Li P w) X.A (LS<|.ref it) (λr s1=>r=none/\Inv X gV σ H s1) E s
 self:∀ (A:Lf) (i:Nat) (s:Ld) (Q:K5->Ld->Prop) (E:K5->Ld->Prop),tn i s.heap->Q (.ref it) s->Lh (Li P w) A (pyIter<|.ref it) Q E s
abbrev TI:=St->Hp->(It->Hp->Prop)->Prop
def PIE (X:Cx)(gV:↑(Lb×Le))(σ:St)(tg:Expr)(R:It->Hp->Prop)(itv:K5)(s2:Ld):Prop:=
 ∃ (it:Lb) (fp:↑Lb) (tn:Nat->La->Prop) (J:It) (H':Hp),itv=.ref it/\Inv X gV σ H' s2/\M3 X.prog X.w X.K tg J fp it tn/\tn 0 s2.heap/\(∀b∈fp ,MI X gV H' b)/\R J H'
def PI (X:Cx)(tg iter:Expr)(wi:TI):Prop:=
 ∀ (gV:↑(Lb×Le)) (s:Ld) (σ:St) (H:Hp) (R:It->Hp->Prop),Inv X gV σ H s->wi σ H R->
   Lh (Li X.prog X.w) X.A (LD iter X.env) (λv s1=>Lh (Li X.prog X.w) X.A (pyIter v) (PIE X gV σ tg R) X.xe s1) X.xe s
def uO {M:Model}{E:K5->Ld->Prop}{Q:Unit->Ld->Prop}(ho:s.heap.get? it=`o)(hc:o.cls=.type n)(hd:o.data=.fields vs)
  (hn:["enumerate","zip","dict_itemiterator","dict_reverseitemiterator","odict_iterator","itertools.zip_longest","itertools.pairwise"].contains n=false)(hQ:Q () s):Lh M A (LU tg (.ref it) u) Q E s:=by
 unfold LU;cases tg<;>first
  |exact Lm hQ
  |(cases u<;>first
   |exact Lm hQ
   |(refine Lj (wpAny_load ho ?_)
     rw[hc,hd];show Lh M A (if (["enumerate","zip","dict_itemiterator","dict_reverseitemiterator","odict_iterator","itertools.zip_longest","itertools.pairwise"].contains n && vs[0]?==some (LV _))=true then _ else _) Q E s;rw[aZ<|by intro h;rw[hn,JP]at h;cases h]
     exact Lm hQ))
noncomputable def Itl (K:Zf)(a:Lb):It:=
 (λi H=>∃xs x,SqL K H a xs/\xs[i]?=`x,λi H x H'=>H'=H/\∀xs,SqL K H a xs->xs[i]?=`x,λi H=>∃xs,SqL K H a xs/\⇑xs<=i)
noncomputable def Itt (K:Zf)(a:Lb):It:=
 (λi H=>∃xs x,SqT K H a xs/\xs[i]?=`x,λi H x H'=>H'=H/\∀xs,SqT K H a xs->xs[i]?=`x,λi H=>∃xs,SqT K H a xs/\⇑xs<=i)
noncomputable def Itr (lo:Int)(n:Nat):It:=(λi J=>i<n,λi H x H'=>H'=H/\x=.int (lo+i),λi J=>n<=i)
def vg {P:K8}{w:K9}{K:Zf}{tg:Expr}(a it:Lb):M3 P w K tg (Itl K a) [it] it (λi h=>h.IsListIter it a i) where
 mem:=⇑_
 obj:=λi h st b hb=>by
  have e:b=it:=by simpa using hb
  subst e;let(o,e,c,d):=st;exact(o,e,λv z=>by rw[d]at z;cases z)
 keep:=λi h h' st k=>st.at λo e=>k it ⇑_ o e
 item:=by intro X hP hw hK hc i gV s σ H E I hf st hg;subst hP hw hK;let(xs,x,hq,hx):=hg;let(its,rv,p,hz):=I.list hq;let(u,hu,ru):=rv.get hx;let(f0,f1,f2,f3,f4,f5):=hf it ⇑_;refine wpAny_pyNext_list_item st p.isList (x:=u) (by simpa using hu) λh' st' sb=>?_;have I1:Inv X gV σ H {s with heap:=h'}:=I.turned (t':=s.toks) (λb o hb e=>(sb.2 b hb).trans e) f0 f1 f3 f4 f5;let(o,e,c,d):=id st';exact(u,rfl,uO (s:={s with heap:=h'}) e c d ↥_ (x,H,I1,ru,(rfl,λys hy=>by rw[I.list_inj hy hq];exact hx),st',λb hb=>(hf b hb).1))
 done:=by intro X hP hw hK hc i gV s σ H E I hf st hg;subst hP hw hK;let(xs,hq,hx):=hg;let(its,rv,p,hz):=I.list hq;let(f0,f1,f2,f3,f4,f5):=hf it ⇑_;have hl:=⇑rv;exact wpAny_pyNext_list_end (I.ok.hd hc) st p.isList (by simp;omega) λh' eb=>(rfl,I.turned (t':=s.toks) (λb o hb e=>eb b o hb e) f0 f1 f3 f4 f5)
 self:=λJ J J J J st h=>wpAny_pyIter_listiter st h
def rE {P:K8}{w:K9}{K:Zf}{tg:Expr}(a it:Lb):M3 P w K tg (Itt K a) [it] it (λi h=>h.IsTupleIter it a i) where
 mem:=⇑_
 obj:=λi h st b hb=>by
  have e:b=it:=by simpa using hb
  subst e;let(o,e,c,d):=st;exact(o,e,λv z=>by rw[d]at z;cases z)
 keep:=λi h h' st k=>st.at λo e=>k it ⇑_ o e
 item:=by intro X hP hw hK hc i gV s σ H E I hf st hg;subst hP hw hK;let(xs,x,hq,hx):=hg;let(its,rv,p,hz):=I.tuple hq;let(u,hu,ru):=rv.get hx;let(f0,f1,f2,f3,f4,f5):=hf it ⇑_;refine wpAny_pyNext_tuple_item st (show s.heap.IsTuple a its.toArray from p) (x:=u) (by simpa using hu) λh' st' sb=>?_;have I1:Inv X gV σ H {s with heap:=h'}:=I.turned (t':=s.toks) (λb o hb e=>(sb.2 b hb).trans e) f0 f1 f3 f4 f5;let(o,e,c,d):=id st';exact(u,rfl,uO (s:={s with heap:=h'}) e c d ↥_ (x,H,I1,ru,(rfl,λys hy=>by rw[I.tuple_inj hy hq];exact hx),st',λb hb=>(hf b hb).1))
 done:=by intro X hP hw hK hc i gV s σ H E I hf st hg;subst hP hw hK;let(xs,hq,hx):=hg;let(its,rv,p,hz):=I.tuple hq;let(f0,f1,f2,f3,f4,f5):=hf it ⇑_;have hl:=⇑rv;exact wpAny_pyNext_tuple_end (I.ok.hd hc) st (show s.heap.IsTuple a its.toArray from p) (by simp;omega) λh' eb=>(rfl,I.turned (t':=s.toks) (λb o hb e=>eb b o hb e) f0 f1 f3 f4 f5)
 self:=λJ J J J J st h=>wpAny_pyIter_tupleiter st h
def rF {P:K8}{w:K9}{K:Zf}{tg:Expr}(it:Lb)(lo:Int)(n:Nat):M3 P w K tg (Itr lo n) [it] it (λi h=>IsRangeIter h it (lo+(i:Nat)*1) ((n:Int)-(i:Nat)) 1) where
 mem:=⇑_
 obj:=λi h st b hb=>by
  have e:b=it:=by simpa using hb
  subst e
  exact(_,st,λv z=>by
   have z':Data.fields _=Data.cell v:=z
   cases z')
 keep:=λi h h' st k=>k it ⇑_ _ st
 item:=by intro X hP hw hK hc i gV s σ H E I hf st hg;subst hP hw hK;let(f0,f1,f2,f3,f4,f5):=hf it ⇑_;have W:=Walks.range (prog:=X.prog) (w:=X.w) (I.ok.hd hc) it lo 1 n;refine W.item i s _ _ hg st λv h' tk hv st' kk=>?_;let(t,rfl):=hv;have I1:Inv X gV σ H {s with heap:=h',toks:=tk}:=I.turned (λb o hb e=>kk b o (by simpa using hb) e) f0 f1 f3 f4 f5;refine(_,rfl,uO (s:={s with heap:=h',toks:=tk}) (n:="range_iterator") st' rfl rfl ↥_ (.int<|lo+i,H,I1,(t,?_),(rfl,rfl),st',λb hb=>(hf b hb).1));rw[Int.mul_one]
 done:=by intro X hP hw hK hc i gV s σ H E I hf st hg;subst hP hw hK;let(f0,f1,f2,f3,f4,f5):=hf it ⇑_;exact wpAny_pyNext_range_end (I.ok.hd hc) st (by have:n<=i:=hg;omega) λh' eb=>(rfl,I.turned (t':=s.toks) (λb o hb e=>eb b o hb e) f0 f1 f3 f4 f5)
 self:=λJ J J J J st h=>wpAny_pyIter_rangeiter st h
end
section
section
variable {X:Cx}{tg:Expr}
noncomputable def iList (K:Zf)(tl:TE):TI:=λσ H R=>tl σ H λx H1=>∃a,x=.ref a/\(∃xs ,SqL K H1 a xs)/\R (Itl K a) H1
noncomputable def iTup (K:Zf)(tl:TE):TI:=λσ H R=>tl σ H λx H1=>∃a,x=.ref a/\(∃xs ,SqT K H1 a xs)/\R (Itt K a) H1
def Av {tl:TE}(hl:PE X l tl):PI X tg l (iList X.K tl):=by
 intro gV s σ H R I h;refine thn (hl gV s σ H _ I h) λv s1 qz=>?_;let(x,H1,I1,r1,q1):=qz;let(a,e,(xs,hq),q):=q1;subst e;cases r1;let(its,rv,p,hz):=I1.list hq;refine wpAny_pyIter_list p.isList ?_;refine(↥s1,[↥s1],_,_,H1,rfl,I1.kept (t':=s1.toks) λb o e=>He _ e,vg a _,(_,Hu _ rfl,rfl,rfl),λb hb=>?_,q);have e:b=↥s1:=by simpa using hb
 subst e;exact I1.fpOk (Hc _)<|I1.hok.fresh<|Hc _
def Di {tl:TE}(hl:PE X l tl):PI X tg l (iTup X.K tl):=by
 intro gV s σ H R I h;refine thn (hl gV s σ H _ I h) λv s1 qz=>?_;let(x,H1,I1,r1,q1):=qz;let(a,e,(xs,hq),q):=q1;subst e;cases r1;let(its,rv,p,hz):=I1.tuple hq;refine LX (show s1.heap.IsTuple a its.toArray from p) ?_;refine(↥s1,[↥s1],_,_,H1,rfl,I1.kept (t':=s1.toks) λb o e=>He _ e,rE a _,(_,Hu _ rfl,rfl,rfl),λb hb=>?_,q);have e:b=↥s1:=by simpa using hb
 subst e;exact I1.fpOk (Hc _)<|I1.hok.fresh<|Hc _
def qd {R:It->Hp->Prop}{E:K5->Ld->Prop}{lo hi:Int}{tk:Nat}(I:Inv X gV σ H s)(h1: -(2^62)<=lo)(h2:lo<2^62)(h3: -(2^62)<=hi)(h4:hi<2^62)
  (q:R (Itr lo (hi-lo).toNat) H):Lh (Li X.prog X.w) X.A (pyIter<|.ref ↥s) (PIE X gV σ tg R) E {s with heap:=s.heap.push {cls:=.type "range",data:=.fields #[.int lo t,.int hi u,.int 1 v]},toks:=tk}:=by
 refine wpAny_pyIter_range (IsRange.new ..) (small_one h1 h2 h3 h4) ?_;have I1:Inv X gV σ H {s with heap:=s.heap.push {cls:=.type "range",data:=.fields #[.int lo t,.int hi u,.int 1 v]},toks:=tk}:=I.kept λb o e=>He _ e
 refine((s.heap.push {cls:=.type "range",data:=.fields #[.int lo t,.int hi u,.int 1 v]}).objs.size,[(s.heap.push {cls:=.type "range",data:=.fields #[.int lo t,.int hi u,.int 1 v]}).objs.size],_,_,H,rfl,
  I1.kept (t':=tk) λb o e=>He _ e,rF _ lo (hi-lo).toNat,?_,λb hb=>?_,q)
 .have e1:lo+((0:Nat):Int)*1=lo:=⇑_;have e2:(((hi-lo).toNat:Nat):Int)-((0:Nat):Int)=K6.Range.rangeSize lo hi 1:=by rw[rangeSize_one];split<;>omega
  show IsRangeIter _ _ (lo+((0:Nat):Int)*1) ((((hi-lo).toNat:Nat):Int)-((0:Nat):Int)) 1;rw[e1,e2];exact Hu _ rfl
 .have e:b=(s.heap.push {cls:=.type "range",data:=.fields #[.int lo t,.int hi u,.int 1 v]}).objs.size:=by simpa using hb
  subst e;exact I1.fpOk (Hc _)<|I1.hok.fresh<|Hc _
noncomputable def iRng1 (ta:TA):TI:=λσ H R=>ta σ H λvs H1=>∃j:Int,vs=[.int j]/\ -(2^62)<=j/\j<2^62/\R (Itr 0 j.toNat) H1
noncomputable def iRng2 (ta:TA):TI:=λσ H R=>ta σ H λvs H1=>∃i j:Int,vs=[.int i,.int j]/\(-(2^62)<=i/\i<2^62/\ -(2^62)<=j/\j<2^62)/\R (Itr i (j-i).toNat) H1
def vG (hg:Gl X "range")(hm:X.mg "range"=none)(ha:PA X [a] ta)(hs:LH [a] X.env=[(false ,LD a X.env)]):PI X tg (.Call (.Name "range" p) [a] [] pos) (iRng1 ta):=by
 intro gV s σ H R I h;refine Call_<|dU I hg hm boot_range<|PyProof.Rows.callWith_type1 (thn (ha pos gV s σ H _ I h) λus s1 qz=>?_) hs rfl;let(vs,H1,I1,r1,q1):=qz;let(j,e,q1,q2,q):=q1;subst e;cases r1 with
 |cons r rr=>
  cases rr;let(t,rfl):=r;exact call_range_1<|qd I1 ∅ ∅ q1 q2 (by simpa using q)
def vF (hg:Gl X "range")(hm:X.mg "range"=none)(ha:PA X [a,b] ta)(hs:LH [a,b] X.env=[(false ,LD a X.env),(false ,LD b X.env)])(hs2:LH [b] X.env=[(false ,LD b X.env)]):
  PI X tg (.Call (.Name "range" p) [a,b] [] pos) (iRng2 ta):=by
 intro gV s σ H R I h;refine Call_ (dU I hg hm boot_range<|PyProof.Rows.callWith_type1 (thn (ha pos gV s σ H _ I h) λus s1 qz=>?_) (by rw[hs,hs2])<|by rw[hs2];rfl);let(vs,H1,I1,r1,q1):=qz;let(i,j,e,(q1,q2,q3,q4),q):=q1;subst e;cases r1 with
 |cons r rr=>
  cases rr with
  |cons r' rr=>
   cases rr;let(t,rfl):=r;let(t',rfl):=r';exact call_range_2<|qd I1 q1 q2 q3 q4 q
noncomputable def tFor (wi:TI)(g:TG)(tb:TS):TS:=λD σ H=>wi σ H λJ H1=>∃W:Nat->Nat->St->Hp->Prop,(∃m ,W 0 m σ H1)/\∀i m σ H,W i m σ H->
 (J.stop i H/\D.nx σ H)\/(J.go i H/\∃N:St->Hp->Prop ,(∀σ' H' ,N σ' H'->∃m',m'<m/\W (i+1) m' σ' H')/\∀x H',J.yld i H x H'->g x σ H' λσ2 H2=>tb {D with nx:=N,ct:=N,bk:=D.nx} σ2 H2)
noncomputable def lF (fp:↑Lb)(h:La):↑(Lb×Le):=fp.filterMap λb=>(h.get? b).map λo=>(b ,o)
def iW (hb:b∈fp)(e:h.get? b=`o):(b ,o)∈lF fp h:=JR.mpr (b,hb,by rw[e];rfl)
def vO (hp:p∈lF fp h):p.1∈fp/\h.get? p.1=some p.2:=by
 let(b,hb,e):=JR.mp hp;cases q:h.get? b with
 |none=>rw[q]at e;cases e
 |some o=>
  rw[q]at e;have e':(b ,o)=p:=Option.some.inj e;subst e';exact(hb,q)
def Inv.pinned (I:Inv X gV σ H s)(hf:∀b∈fp ,MI X gV H b)(ho:∀b∈fp ,∃o,s.heap.get? b=`o/\∀v,o.data≠.cell v):Inv X (gV++lF fp s.heap) σ H s:=
 I.pins_of λp hp=>(Ij.mp hp).elim (λz=>I.pin p<|HW _ z) λz=>by let(hb,e):=vO z;let(f0,f1,f2,_):=hf p.1 hb;let(o,e',d):=ho p.1 hb;rw[e]at e';cases e';exact(e,f0,f1,f2,d)
def Inv.unpinned (I:Inv X (gV++pl) σ H s):Inv X gV σ H s:=I.pins_of λp hp=>I.pin p<|HW _<|Jd _ hp
def Dd (hp:LQ (Li X.prog X.w) X.A X.env X.xe)(hc:X.calm=true)(hi:PI X tg iter wi)(hg:PG X tg g)(hb:PSs X body tb)
  (hs:∀x ,LY iter X.env x=pure x):PS X (.For tg iter body [] pos) (tFor wi g tb):=by
 intro gV s σ H D I h;refine wpAny_For (thn (hi gV s σ H _ I h) λv s1 h1=>thn h1 λitv s2 h2=>?_) hs;let(it,fp,tn,J,H2,e,I2,T,st2,f2,W,(m0,w0),turn):=h2;subst e;have stat:∀ {H':Hp},(∀b∈fp ,H' b=none)->∀b∈fp,MI X gV H' b:=λhn b hb=>(hn b hb,(f2 b hb).2)
 refine codeAny_forLoop_any (λn s'=>∃i σ' H' ,Inv X gV σ' H' s'/\tn i s'.heap/\(∀b∈fp ,H' b=none)/\W i n σ' H') ?_ m0 (0,σ,H2,I2,st2,λb hb=>(f2 b hb).1,w0)
 rintro n s3 ⟨i,σ3,H3,I3,st3,fr3,w3⟩
 rcases turn i n σ3 H3 w3 with⟨stop,qn⟩|⟨go,N,hN,step⟩
 refine LR hp (thn (T.done X rfl rfl rfl hc i gV s3 σ3 H3 X.xe I3 (stat fr3) st3 stop) λr s4 qz=>?_);let(hr,I4):=qz;subst hr;exact LO (σ3,H3,I4,qn)
 .refine LR hp (thn (T.item X rfl rfl rfl hc i gV s3 σ3 H3 X.xe I3 (stat fr3) st3 go) λr s4 qz=>?_);let(u,hr,h4):=qz;subst hr;refine LR hp (thn h4 λz s5 qz=>?_);let(x,H5,I5,r5,y5,st5,fr5):=qz;have I5':=I5.pinned (stat fr5)<|T.obj _ _ st5;refine LR hp (thn (hg _ s5 σ3 H5 x u _ I5' r5<|step x H5 y5) λz s6 qz=>?_);let(σ6,H6,I6,q6):=qz;refine LR hp (thn (hb _ s6 σ6 H6 _ I6 q6) λf s7 q7=>?_);have again:∀ {σ7:St}{H7:Hp},Inv X (gV++lF fp s5.heap) σ7 H7 s7->N σ7 H7->∃m,m<n/\∃i σ' H',Inv X gV σ' H' s7/\tn i s7.heap/\(∀b∈fp ,H' b=none)/\W i m σ' H':=λ{σ7 H7} I7 n7=>by let(m',hm,w7):=hN σ7 H7 n7;refine(m',hm,i+1,σ7,H7,I7.unpinned,T.keep _ _ _ st5 λb hb o e=>(I7.pin (b ,o)<|HW _<|HW _<|iW hb e).1,λb hb=>?_,w7);let(o,e,d):=T.obj _ _ st5 b hb;exact (I7.pin (b ,o)<|HW _<|HW _<|iW hb e).2.1
  cases f with|next=>let(σ7,H7,I7,n7):=q7;exact again I7 n7|cont=>let(σ7,H7,I7,n7):=q7;exact again I7 n7|brk=>let(σ7,H7,I7,q7):=q7;exact(σ7,H7,I7.unpinned,q7)|ret v=>let(x7,σ7,H7,I7,r7,q7):=q7;exact(x7,σ7,H7,I7.unpinned,r7,q7)
end
end
section
abbrev R2:=V->V->Hp->VK->Prop
def OpR (X:Cx)(f:K5->K5->Sem K5)(r:R2):Prop:=
 ∀ (gV:↑(Lb×Le)) (s:Ld) (σ:St) (H:Hp) (x y:V) (v u:K5) (Q:VK),Inv X gV σ H s->RelV x v->RelV y u->r x y H Q->
   Lh (Li X.prog X.w) X.A (f v u) (EP X gV σ Q) X.xe s
def UnR (X:Cx)(f:K5->Sem K5)(r:V->Hp->VK->Prop):Prop:=
 ∀ (gV:↑(Lb×Le)) (s:Ld) (σ:St) (H:Hp) (x:V) (v:K5) (Q:VK),Inv X gV σ H s->RelV x v->r x H Q->
   Lh (Li X.prog X.w) X.A (f v) (EP X gV σ Q) X.xe s
def CallR (X:Cx)(f:K5)(r:↑V->Hp->VK->Prop):Prop:=
 ∀ (gV:↑(Lb×Le)) (s:Ld) (σ:St) (H:Hp) (xs:↑V) (us:↑K5) (Q:VK),Inv X gV σ H s->Vals xs us->r xs H Q->
   Lh (Li X.prog X.w) X.A (call f us) (EP X gV σ Q) X.xe s
noncomputable def tOp (r:R2)(ta tb:TE):TE:=λσ H Q=>ta σ H λx H1=>tb σ H1 λy H2=>r x y H2 Q
noncomputable def tUn (r:V->Hp->VK->Prop)(ta:TE):TE:=λσ H Q=>ta σ H λx H1=>r x H1 Q
noncomputable def rI (C:Int->Int->Prop)(g:Int->Int->V):R2:=λx y H Q=>∃i j,x=.int i/\y=.int j/\C i j/\Q (g i j) H
noncomputable def rI0 (g:Int->Int->V):R2:=λx y H Q=>∃i j,x=.int i/\y=.int j/\Q (g i j) H
def rU (g:Int->V):V->Hp->VK->Prop:=λx H Q=>∃i,x=.int i/\Q (g i) H
section
variable {X:Cx}{a b:Expr}{ta tb:TE}{pos:LF}
def Nb (ha:PE X a ta)(hb:PE X b tb){R:V->V->Hp->Prop}(I:Inv X gV σ H s)
  (h:ta σ H λx H1=>tb σ H1 λy H2=>R x y H2){Q:K5->Ld->Prop}{f:K5->K5->Sem K5}
  (hf:∀v u s2 x y H2 ,Inv X gV σ H2 s2->RelV x v->RelV y u->R x y H2->Lh (Li X.prog X.w) X.A (f v u) Q X.xe s2):
  Lh (Li X.prog X.w) X.A (LD a X.env) (λv s₁=>Lh (Li X.prog X.w) X.A (LD b X.env) (λu s₂=>Lh (Li X.prog X.w) X.A (f v u) Q X.xe s₂) X.xe s₁) X.xe s:=by
 refine thn (ha gV s σ H _ I h) λv s1 qz=>?_;let(x,H1,I1,r1,q1):=qz;refine thn (hb gV s1 σ H1 _ I1 q1) λu s2 qz=>?_;let(y,H2,I2,r2,q2):=qz;exact hf v u s2 x y H2 I2 r1 r2 q2
def ut (ho:OpR X (LZ op) r)(ha:PE X a ta)(hb:PE X b tb):PE X (.BinOp a op b pos) (tOp r ta tb):=by intro gV s σ H Q I h;exact wpAny_BinOp (Nb ha hb I h λv u s2 x y H2 I2 rx ry q=>ho gV s2 σ H2 x y v u Q I2 rx ry q)
def FC {r:V->Hp->VK->Prop}(ho:UnR X (unaryOp op) r)(ha:PE X a ta):PE X (.UnaryOp op a pos) (tUn r ta):=by intro gV s σ H Q I h;exact UnaryOp_ (thn (ha gV s σ H _ I h) λv s1 (x,H1,I1,r1,q1)=>ho gV s1 σ H1 x v Q I1 r1 q1)
def opI {f:K5->K5->Sem K5}{C:Int->Int->Prop}{g:Int->Int->Int}
  (rule:∀ (i j:Int) (t u:Tok) (s:Ld) (Q:K5->Ld->Prop) (E:K5->Ld->Prop) ,C i j->Q (.int (g i j) s.toks) {s with toks:=s.toks+1}->Lh (Li X.prog X.w) X.A (f (.int i t)<|.int j u) Q E s):
  OpR X f (rI C λi j=>.int<|g i j):=by
 intro gV s σ H x y v u Q I rx ry h;let(i,j,rfl,rfl,hc,q):=h;let(t,rfl):=rx;let(t',rfl):=ry;exact rule i j t t' s _ _ hc (.int<|g i j,H,I.tok _,(_,rfl),q)
def opI0 {f:K5->K5->Sem K5}{g:Int->Int->Int}
  (rule:∀ (i j:Int) (t u:Tok) (s:Ld) (Q:K5->Ld->Prop) (E:K5->Ld->Prop) ,Q (.int (g i j) s.toks) {s with toks:=s.toks+1}->Lh (Li X.prog X.w) X.A (f (.int i t)<|.int j u) Q E s):
  OpR X f (rI0 λi j=>.int<|g i j):=by
 intro gV s σ H x y v u Q I rx ry h;let(i,j,rfl,rfl,q):=h;let(t,rfl):=rx;let(t',rfl):=ry;exact rule i j t t' s _ _ (.int<|g i j,H,I.tok _,(_,rfl),q)
def PM {f:K5->K5->Sem K5}{g:Int->Int->Bool}
  (rule:∀ (i j:Int) (t u:Tok) (s:Ld) (Q:K5->Ld->Prop) (E:K5->Ld->Prop) ,Q (.bool<|g i j) s->Lh (Li X.prog X.w) X.A (f (.int i t)<|.int j u) Q E s):
  OpR X f (rI0 λi j=>.bl<|g i j):=by
 intro gV s σ H x y v u Q I rx ry h;let(i,j,rfl,rfl,q):=h;let(t,rfl):=rx;let(t',rfl):=ry;exact rule i j t t' s _ _ (.bl<|g i j,H,I,rfl,q)
def My (i j:Int):Prop:=0<=j/\j<=1000000/\i.natAbs<2^64
def CMul (i j:Int):Prop:=(-(2^64)<i/\i<2^64)\/(-(2^64)<j/\j<2^64)
def CMul.ok {i j:Int}(h:CMul i j):IntMulOk i j:=by
 rcases h with⟨h1,h2⟩|⟨h1,h2⟩
 exact .of_left<|intBits_le_64 h1 h2;exact .of_right<|intBits_le_64 h1 h2
def PP:OpR X (LZ .Add) (rI0 λi j=>.int<|i+j):=opI0 λJ J J J J J J q=>add_int q
def Dz:OpR X (LZ .Sub) (rI0 λi j=>.int<|i-j):=opI0 λJ J J J J J J q=>sub_int q
def DD:OpR X (LZ .Mod) (rI (λJ j=>0<j) λi j=>.int<|i%j):=opI λi j J J J J J hc q=>by have h1:(0:Int)<j:=hc;exact mod_int' ∅ (by rw[Int.fmod_eq_emod_of_nonneg i ∅];exact q)
def DB:OpR X (LZ .Pow) (rI My λi j=>.int<|i^j.toNat):=opI λJ J J J J J J hc q=>pow_int_small hc.1 hc.2.1 hc.2.2 q
def unI {f:K5->Sem K5}{g:Int->Int}
  (rule:∀ (i:Int) (t:Tok) (s:Ld) (Q:K5->Ld->Prop) (E:K5->Ld->Prop) ,Q (.int (g i) s.toks) {s with toks:=s.toks+1}->Lh (Li X.prog X.w) X.A (f<|.int i t) Q E s):
  UnR X f (rU λi=>.int<|g i):=by
 intro gV s σ H x v Q I rx h;let(i,rfl,q):=h;let(t,rfl):=rx;exact rule i t s _ _ (.int<|g i,H,I.tok _,(_,rfl),q)
def Cu:UnR X (unaryOp .USub) (rU λi=>.int<|-i):=unI λJ J J J J q=>neg_int q
end
noncomputable def Rk:V->V->Bool
 |.non,.non=>true|.non,.int _=>true|.int _,.non=>true|.non,.bl _=>true|.bl _,.non=>true|.non,.str _=>true|.str _,.non=>true
 |.int _,.int _=>true|.bl _,.bl _=>true|.str _,.str _=>true|.byt _,.byt _=>true
 |.int _,.str _=>true|.str _,.int _=>true|.bl _,.str _=>true|.str _,.bl _=>true
 |_,_=>false
noncomputable def rEq:R2:=λx y H Q=>Rk x y=true/\Q (.bl<|decide<|x=y) H
noncomputable def rNe:R2:=λx y H Q=>Rk x y=true/\Q (.bl<|!decide (x=y)) H
def uT {i j:Int}:decide (V.int i=V.int j)=(i==j):=by rw[HZ];simp
def zt {i j:Bool}:decide (V.bl i=V.bl j)=(i==j):=by rw[HZ];simp
def uS {i j:Str}:decide (V.str i=V.str j)=(i==j):=by rw[HZ];simp
def uU :decide (V.byt i=V.byt j)=(i.toList==j.toList):=by rw[HZ];cases i;cases j;simp
section
variable {X:Cx}{a b c:Expr}{ta tb tc:TE}{pos:LF}
def aV {k k':Bool}(I:Inv X gV σ H s)(q:Q (.bl k) H)(e:k=k'):EP X gV σ Q (.bool k') s:=by subst e;exact(.bl k,H,I,rfl,q)
def PU:OpR X (LK .Eq) rEq:=by
 intro gV s σ H x y v u Q I rx ry h;let(hs,q):=h;cases x with
 |non=>
  cases rx;cases y with|non=>cases ry;exact PySem.EqNone.eq_none_none (aV I q ⇑_)|bl j=>cases ry;exact PySem.EqNone.eq_none_bool (aV I q ⇑_)|int j=>let(t',rfl):=ry;exact PySem.EqNone.eq_none_int (aV I q ⇑_)|str j=>let(t',rfl):=ry;exact PySem.EqNone.eq_none_str (aV I q ⇑_)|_=>exact absurd (show false=true from hs) Hv
 |bl i=>
  cases rx;cases y with|non=>cases ry;exact PySem.EqNone.eq_bool_none (aV I q ⇑_)|bl j=>cases ry;exact eq_bool (aV I q zt)|str j=>let(t',rfl):=ry;exact PySem.EqMixed.eq_bool_str (aV I q ⇑_)|_=>exact absurd (show false=true from hs) Hv
 |int i=>
  let(t,rfl):=rx;cases y with|non=>cases ry;exact PySem.EqNone.eq_int_none (aV I q ⇑_)|int j=>let(t',rfl):=ry;exact eq_int (aV I q uT)|str j=>let(t',rfl):=ry;exact PySem.EqMixed.eq_int_str (aV I q ⇑_)|_=>exact absurd (show false=true from hs) Hv
 |str i=>
  let(t,rfl):=rx;cases y with|non=>cases ry;exact PySem.EqNone.eq_str_none (aV I q ⇑_)|bl j=>cases ry;exact PySem.EqMixed.eq_str_bool (aV I q ⇑_)|int j=>let(t',rfl):=ry;exact PySem.EqMixed.eq_str_int (aV I q ⇑_)|str j=>let(t',rfl):=ry;exact eq_str (aV I q uS)|_=>exact absurd (show false=true from hs) Hv
 |byt i=>
  let(t,rfl):=rx;cases y with|byt j=>let(t',rfl):=ry;exact PySem.W.eq_bytes (aV I q uU)|_=>exact absurd (show false=true from hs) Hv
 |_=>cases y<;>exact absurd (show false=true from hs) Hv
def P0:OpR X (LK .NotEq) rNe:=by
 intro gV s σ H x y v u Q I rx ry h;let(hs,q):=h;cases x with
 |non=>
  cases rx;cases y with|non=>cases ry;exact PySem.EqNone.ne_none_none (aV I q ⇑_)|bl j=>cases ry;exact PySem.EqNone.ne_none_bool (aV I q ⇑_)|int j=>let(t',rfl):=ry;exact PySem.EqNone.ne_none_int (aV I q ⇑_)|str j=>let(t',rfl):=ry;exact PySem.EqNone.ne_none_str (aV I q ⇑_)|_=>exact absurd (show false=true from hs) Hv
 |bl i=>
  cases rx;cases y with|non=>cases ry;exact PySem.EqNone.ne_bool_none (aV I q ⇑_)|bl j=>cases ry;exact ne_bool (aV I q<|congrArg not zt)|str j=>let(t',rfl):=ry;exact PySem.EqMixed.ne_bool_str (aV I q ⇑_)|_=>exact absurd (show false=true from hs) Hv
 |int i=>
  let(t,rfl):=rx;cases y with|non=>cases ry;exact PySem.EqNone.ne_int_none (aV I q ⇑_)|int j=>let(t',rfl):=ry;exact ne_int (aV I q<|congrArg not uT)|str j=>let(t',rfl):=ry;exact PySem.EqMixed.ne_int_str (aV I q ⇑_)|_=>exact absurd (show false=true from hs) Hv
 |str i=>
  let(t,rfl):=rx;cases y with|non=>cases ry;exact PySem.EqNone.ne_str_none (aV I q ⇑_)|bl j=>cases ry;exact PySem.EqMixed.ne_str_bool (aV I q ⇑_)|int j=>let(t',rfl):=ry;exact PySem.EqMixed.ne_str_int (aV I q ⇑_)|str j=>let(t',rfl):=ry;exact ne_str (aV I q<|congrArg not uS)|_=>exact absurd (show false=true from hs) Hv
 |byt i=>
  let(t,rfl):=rx;cases y with|byt j=>let(t',rfl):=ry;exact PySem.W.ne_bytes (aV I q<|congrArg not uU)|_=>exact absurd (show false=true from hs) Hv
 |_=>cases y<;>exact absurd (show false=true from hs) Hv
def xW:OpR X (LK .Lt) (rI0 λi j=>.bl<|decide<|i<j):=PM λJ J J J J J J q=>lt_int q
def FQ:OpR X (LK .LtE) (rI0 λi j=>.bl<|decide<|i<=j):=PM λJ J J J J J J q=>le_int q
def nQ:OpR X (LK .Gt) (rI0 λi j=>.bl<|decide<|j<i):=PM λJ J J J J J J q=>gt_int q
def FR:OpR X (LK .GtE) (rI0 λi j=>.bl<|decide<|j<=i):=PM λJ J J J J J J q=>ge_int q
def PX:OpR X (LK .In) (λx y H Q=>∃i j ,x=.str i/\y=.str j/\Q (.bl<|!(K6.Str.occurrences j i 0 ⇑j 1).isEmpty) H):=by intro gV s σ H x y v u Q I rx ry h;let(i,j,rfl,rfl,q):=h;let(t,rfl):=rx;let(t',rfl):=ry;exact in_str<|aV I q rfl
def DE:OpR X (LK .Is) (λx y H Q=>y=.non/\Q (.bl<|decide<|x=.non) H):=by
 intro gV s σ H x y v u Q I rx ry h;let(rfl,q):=h;cases ry;refine is_none_gen<|aV I q ?_;cases x<;>first
  |(cases rx;rfl)
  |(let(t,rfl):=rx;rfl)
def OpR.or {f:K5->K5->Sem K5}(h:OpR X f r)(h':OpR X f r'):OpR X f (λx y H Q=>r x y H Q\/r' x y H Q):=by
 intro gV s σ H x y v u Q I rx ry q;rcases q with q|q
 exact h gV s σ H x y v u Q I rx ry q;exact h' gV s σ H x y v u Q I rx ry q
def eA (b:Expr)(h:op≠.In:=by decide)(h2:op≠.NotIn:=by decide):LL op b=false:=by
 have e1:(op==CmpOp.In)=false:=by cases op<;>first|rfl|exact absurd rfl h
 have e2:(op==CmpOp.NotIn)=false:=by cases op<;>first|rfl|exact absurd rfl h2
 cases b<;>simp [LL,e1,e2]
def io (ho:OpR X (LK op) r)(ha:PE X a ta)(hb:PE X b tb)(hm:LL op b=false):PE X (.Compare a [op] [b] pos) (tOp r ta tb):=by intro gV s σ H Q I h;exact wpAny_Compare1 (Nb ha hb I h λv u s2 x y H2 I2 rx ry q=>ho gV s2 σ H2 x y v u Q I2 rx ry q) hm
noncomputable def R6 (t:TE):TT:=λσ H Q=>t σ H λx H'=>∃k,x=.bl k/\Q k H'
def dE (ho:OpR X (LK op) r)(ha:PE X a ta)(hb:PE X b tb)(hm:LL op b=false):PT X (.Compare a [op] [b] pos) (R6<|tOp r ta tb):=by
 intro gV s σ H Q I h
 refine wpAny_isTrue_Compare1 (thn (ha gV s σ H _ I h) λv s1 (x,H1,I1,r1,q1)=>thn (hb gV s1 σ H1 _ I1 q1) λu s2 (y,H2,I2,r2,q2)=>
  thn (ho gV s2 σ H2 x y v u _ I2 r1 r2 q2) λc s3 (z,H3,I3,r3,k,e,q3)=>?_) hm
 subst e;cases r3;exact Lq (H3,I3,q3)
noncomputable def xa (r r':R2)(ta tb tc:TE):TE:=λσ H Q=>ta σ H λx H1=>tb σ H1 λy H2=>r x y H2 λz H3=>∃k,z=.bl k/\
 (if k=true then tc σ H3 λw' H4=>r' y w' H4 Q else Q (.bl false) H3)
def xD (ho:OpR X (LK op) r)(ho':OpR X (LK op') r')(ha:PE X a ta)(hb:PE X b tb)(hc:PE X c tc)
  (hm:lastMarks [op,op'] [b,c]=false):PT X (.Compare a [op,op'] [b,c] pos) (R6<|xa r r' ta tb tc):=by
 intro gV s σ H Q I h
 refine isTrue_chain (thn (ha gV s σ H _ I h) λv s1 (x,H1,I1,r1,q1)=>test_link (thn (hb gV s1 σ H1 _ I1 q1) λu s2 (y,H2,I2,r2,q2)=>
  thn (ho gV s2 σ H2 x y v u _ I2 r1 r2 q2) λd s3 (z,H3,I3,r3,k,e,q3)=>?_)) hm
 subst e;cases r3;refine Lq ?_;cases k with
 |false=>
  let(k',e',q'):=q3;cases e';exact ite_ff (H3,I3,q')
 |true=>
  refine ite_tt (test_last<|thn (hc gV s3 σ H3 _ I3 q3) λw' s4 (z',H4,I4,r4,q4)=>thn (ho' gV s4 σ H4 y z' u w' _ I4 r2 r4 q4) λd' s5 qz=>?_);let(z2,H5,I5,r5,k2,e2,q5):=qz;subst e2;cases r5;exact Lq (H5,I5,q5)
def g9:(sizeLine:Nat)<2^63:=by rw[sizeLine_eq];decide
def PQ:OpR X (LZ .Add) (λx y H Q=>∃i j ,x=.str i/\y=.str j/\⇑i+⇑j<=sizeLine/\Q (.str<|i++j) H):=by intro gV s σ H x y v u Q I rx ry h;let(i,j,rfl,rfl,hz,q):=h;let(t,rfl):=rx;let(t',rfl):=ry;exact add_str (λt' tk=>(.str<|i++j,H,I.tok _,(_,rfl),q)) hz
def Sk (r:Vals [x] us):∃u,us=[u]/\RelV x u:=by
 cases r with|cons r1 r2=>cases r2;exact(_,rfl,r1)
def vals2 (r:Vals [x,y] us):∃u w',us=[u,w']/\RelV x u/\RelV y w':=by
 cases r with
 |cons r1 r2=>
  cases r2 with|cons r3 r4=>cases r4;exact(_,_,rfl,r1,r3)
def zE:CallR X (.builtin "abs") (λxs H Q=>∃i ,xs=[.int i]/\Q (.int<|if i<0 then -i else i) H):=by intro gV s σ H xs us Q I r h;let(i,rfl,q):=h;let(u,rfl,t,rfl):=Sk r;exact call_abs_int λu tk=>(.int (if i<0 then -i else i),H,I.tok _,(_,rfl),q)
def Ni:CallR X (.type "int") (λxs H Q=>(∃i ,xs=[.int i]/\Q (.int i) H)\/ ∃k ,xs=[.bl k]/\Q (.int<|if k then 1 else 0) H):=by
 intro gV s σ H xs us Q I r h;rcases h with⟨i,rfl,q⟩|⟨k,rfl,q⟩
 let(u,rfl,t,rfl):=Sk r;exact call_int_int (.int i,H,I,(_,rfl),q);let(u,rfl,r1):=Sk r;cases r1;exact call_int_bool (.int (if k then 1 else 0),H,I.tok _,(_,rfl),q)
def Nk:CallR X (.type "str") (λxs H Q=>∃i ,xs=[.int i]/\i.natAbs.log2<1920/\Q (.str<|toString i) H):=by intro gV s σ H xs us Q I r h;let(i,rfl,hz,q):=h;let(u,rfl,t,rfl):=Sk r;exact PySem.P.str_of_int hz (.str _,H,I.tok _,(_,rfl),q)
end
end
section
structure ObjM (h:La)(x dx C:Lb)(mA:Str->Option K5):Prop where
 obj:h.get? x=some (KZ C dx)
 ns:h.Ns1 dx mA
 ne:dx≠x
set_option tactic.hygienic true in
def v6 {h:La}{dx:Lb}{mA:Str->Option K5}(n:h.Ns1 dx mA):∃od,h.get? dx=`od/\∀name,PySem.W.lookIn name od=some (mA name):=by
 let(o,es,ep,ho,hd,hk,_,hm):=n;refine(o,ho,λname=>?_);have e:=hm name;unfold nsFind findBy at e;rw[<-Array.find?_toList]at e;unfold PySem.W.lookIn;rw[hd];dsimp only;split;rename_i y q;rw[q]at e;exact congrArg some e
 .rename_i q;rw[q]at e;have a:es.toList.any (·.refKey)=false:=by rw[Kv];intro y hy;let(z,t,hkey):=hk y<|Array.mem_toList_iff.mp hy;simp [DictEntry.refKey,hkey]
  have a':¬es.toList.any (·.refKey)=true:=by rw[a];exact Hv
  rw[aZ a'];exact congrArg some e
def ObjM.look {mA:Str->Option K5}(I:ObjM h x dx C mA):∃od,PySem.W.InstAt h x (KZ C dx) C `od/\∀name,PySem.W.lookIn name od=some (mA name):=
 let (od,ho,hl):=v6 I.ns
 (od,(I.obj,rfl,rfl,ho),hl)
section
variable {prog:K8}{w:K9}{A:Lf}{E:K5->Ld->Prop}{s:Ld}{K:Zf}{x dx C f:Lb}{mA:Str->Option K5}{name:Str}{v:K5}
def By {expr:Bool}{Q:K5->Ld->Prop}(X:K.In s.heap)(I:ObjM s.heap x dx C mA)(hg:PySem.W.plainGet K C name=true)(hh:PySem.W.hasDictIn K C=true)
  (ha:K0 K (.ref C) name=`none)(hv:mA name=`v)(hv':PySem.W.handedIn v=true)(h:Q v {s with toks:=s.toks+1}):
  Lh (Li prog w) A (getAttr (.ref x) name expr) Q E s:=by
 let(od,J,hl):=I.look;exact PySem.W.get_value X J (PySem.W.plainGet_of hg).1 (PySem.W.findObj_own hh ha rfl<|by rw[hl,hv]) hv' h
def zd {Q:K5×↑K5->Ld->Prop}(X:K.In s.heap)(I:ObjM s.heap x dx C mA)(hg:PySem.W.plainGet K C name=true)
  (hf:K0 K (.ref C) name=some (some<|.ref f))(ht:PySem.W.isFn K (.ref f)=true)(hv:mA name=none)(h:Q (.ref f ,[.ref x]) s):
  Lh (Li prog w) A (L0 (.ref x) name pl) Q E s:=by
 let(od,J,hl):=I.look;exact PySem.W.method_fn X J (PySem.W.plainGet_of hg).1 (PySem.W.plainGet_of hg).2 hf (beq_iff_eq.mp ht) (by show (PySem.W.lookIn name od).map (·.isSome)=`false;rw[hl,hv];rfl) h
def Ae {ns:↑Str}{Q:Unit->Ld->Prop}(X:K.In s.heap)(I:ObjM s.heap x dx C mA)
  (hs:K0 K (.ref C) "__setattr__"=some (some<|.builtin "object.__setattr__"))(hp:PySem.W.plainOver K C=true)(ht:PySem.W.takerIn K C name=`none)(hh:PySem.W.hasDictIn K C=true)
  (hw:PySem.Within mA ns)(hsz:⇑ns<=sizeLine)
  (h:∀h' ,ObjM h' x dx C (λy=>if y=name then `v else mA y)->Ia dx s.heap h'->Q () {s with heap:=h',toks:=s.toks+2}):
  Lh (Li prog w) A (setAttr (.ref x) name v) Q E s:=by
 let(od,J,hl):=I.look;refine PySem.W.set_plain X J hs (PySem.W.osa_open (s:={s with toks:=s.toks+1}) (r:=none) X J hp ht λb=>?_);let(cd,hc,hd'):=PySem.W.any_some hh;have hx:s.heap.get? x=some (.ref C,`dx,.plain,#[]):=I.obj;refine Lj<|Lm<|Lj<|Lj<|wpAny_loadPart hx<|Lj<|PySem.W.Looks.here (s:={s with toks:=s.toks+1}) (PySem.W.looks_clsIn X hc) ?_;rw[hd'];refine Lm (a:=`dx)<|Lj<|Lm<|Lj ?_;refine wpAny_nsSet1 (s:={s with toks:=s.toks+1}) I.ns λh' hn2 hs2=>?_;let(oD,esD,epD,hoD,hdD,hcD):=hn2.count<|PySem.Within.cons name v hw;refine Lj<|wpAny_lookBehind hoD (by rw[hdD];exact pastItsLine_dict<|HA hcD<|by rw[Hf];omega) ?_;exact Lm<|h _ ((hs2.2 _<|Ne.symm I.ne).trans I.obj,hn2,I.ne) hs2
def yL {R:Result->Ld->Prop}(X:K.In s.heap)(hm:makesIn K C=true)
  (hi:K0 K (.ref C) "__init__"=some (some<|.ref f))(hf:PySem.W.typeIn K (.ref f)=some (.type "function"))
  (h:codeAny (Li prog w) (A.under<|.builtin "type.__call__" (.ref C::vs,kw)) (.call (.ref f) (.ref (↥s+1)::vs,kw)) (PySem.W.InitBack (↥s+1) R)
    {s with heap:=(s.heap.push K1).push<|KZ C ↥s}):
  codeAny (Li prog w) A (.call (.ref C) (vs,kw)) R s:=by
 let(hh,g,d,t,os):=s;exact PySem.W.make_core (PySem.W.makes_of X hm) (PySem.W.looks_findIn X hi) (λself=>PySem.W.bind_fn X self hf) (.inl rfl) h
end
noncomputable def Qq (f:Str)(v:V):↑(Str×V)->↑(Str×V)
 |[]=>[(f ,v)]
 |(g ,x)::r=>if g=f then (g ,v)::r else (g ,x)::Qq f v r
theorem cN (f g:Str)(v:V):∀fs:↑(Str×V),(Qq f v fs).lookup g=if g=f then `v else fs.lookup g
 |[]=>by
  show IB g [(f ,v)]=_;by_cases h:g=f;have hb:(g==f)=true:=beq_iff_eq.mpr h;simp only[IB,hb,bf h];have hb:(g==f)=false:=beq_eq_false_iff_ne.mpr h;simp only[IB,hb,aZ h]
 |(k ,x)::r=>by
  have ih:=cN f g v r;rw[show Qq f v ((k ,x)::r)=(if k=f then (k ,v)::r else (k ,x)::Qq f v r) from rfl];by_cases hk:k=f
  .rw[bf hk];by_cases h:g=k;have hb:(g==k)=true:=beq_iff_eq.mpr h;simp only[IB,hb,bf<|h.trans hk];have hb:(g==k)=false:=beq_eq_false_iff_ne.mpr h;simp only[IB,hb,aZ (λe:g=f=>h<|e.trans hk.symm)]
  .rw[aZ hk];by_cases h:g=k;have hb:(g==k)=true:=beq_iff_eq.mpr h;simp only[IB,hb,aZ (λe:g=f=>hk<|h.symm.trans e)];have hb:(g==k)=false:=beq_eq_false_iff_ne.mpr h;simp only[IB,hb];exact ih
theorem j0 (f:Str)(v:V):∀fs:↑(Str×V),f∈(Qq f v fs).map (·.1)/\∀g,g∈fs.map (·.1)->g∈(Qq f v fs).map (·.1)
 |[]=>(by simp [Qq],λg h=>by simp at h)
 |(k ,x)::r=>by
  let(i1,i2):=j0 f v r;rw[show Qq f v ((k ,x)::r)=(if k=f then (k ,v)::r else (k ,x)::Qq f v r) from rfl];by_cases hk:k=f;rw[bf hk];subst hk;exact(⇑_,λg h=>by simpa using h)
  .rw[aZ hk];refine(?_,λg h=>?_);rw[Hg];exact Ht _ i1
   .rw[Hg]at h ⊢;rcases Hd.mp h with e|e
    exact Hd.mpr<|.inl e;exact Ht _<|i2 g e
theorem kh (f:Str)(v:V):∀fs:↑(Str×V),⇑(Qq f v fs)<=⇑fs+1
 |[]=>by simp [Qq]
 |(k ,x)::r=>by
  have ih:=kh f v r;rw[show Qq f v ((k ,x)::r)=(if k=f then (k ,v)::r else (k ,x)::Qq f v r) from rfl];by_cases hk:k=f;rw[bf hk,Hf,Hf];omega;rw[aZ hk,Hf,Hf];omega
def RelO.some_of (r:RelO `v o):∃u,o=`u/\RelV v u:=by
 cases o with|none=>exact (show False from r).elim|some u=>exact(u,rfl,r)
def RelO.none_of (r:RelO none o):o=none:=by
 cases o with|none=>rfl|some u=>exact (show False from r).elim
def ww (r:RelV v u):PySem.W.handedIn u=true:=by
 cases v with|non=>cases (show u=K5.none from r);rfl|bl b=>cases (show u=K5.bool b from r);rfl|int i=>let(t,e):=(show∃t ,u=K5.int i t from r);cases e;rfl|str x=>let(t,e):=(show∃t ,u=K5.str x t from r);cases e;rfl|byt b=>let(t,e):=(show∃t ,u=K5.bytes b t from r);cases e;rfl|flt b=>let(t,e):=(show∃t ,u=K5.float b t from r);cases e;rfl|ref a=>cases (show u=K5.ref a from r);rfl|ty n=>cases (show u=K5.type n from r);rfl
section
variable {P:K8}{w:K9}{H:Hp}{h:La}{a C dx:Lb}{fs:↑(Str×V)}
def o9 (hok:HOk P w H h)(e:H a=some (.ins C dx fs)):∃mA,ObjM h a dx C mA/\(∀f ,RelO (fs.lookup f)<|mA f)/\PySem.Within mA (fs.map (·.1))/\⇑fs<=1000/\H dx=some (.own a):=by
 let(d,z,ne,ob,mA,n,r,q):=(show ObjOk P w H h a (.ins C dx fs) from hok a _ e)
 exact(mA,(ob,n,ne),r,q,z,d)
end
structure Cls (K:Zf)(C:Lb):Prop where
 pg:PySem.W.plainGet K C Str.empty=true
 hd:PySem.W.hasDictIn K C=true
 po:PySem.W.plainOver K C=true
 sa:K0 K (.ref C) "__setattr__"=some (some<|.builtin "object.__setattr__")
def Cls.get {K:Zf}(c:Cls K C)(f:Str):PySem.W.plainGet K C f=true:=c.pg
def NoAttr (K:Zf)(C:Lb)(f:Str):Prop:=K0 K (.ref C) f=`none
def NoAttr.taker {K:Zf}{f:Str}(n:NoAttr K C f):PySem.W.takerIn K C f=`none:=by unfold PySem.W.takerIn;rw[show K0 K (.ref C) f=`none from n];rfl
structure MK (K:Zf)(C:Lb)(m:Str)(f:Lb):Prop where
 at_:K0 K (.ref C) m=some (some<|.ref f)
 fn:PySem.W.isFn K (.ref f)=true
 kp:K2 K (.ref f)=true
section
variable {X:Cx}{gV:↑(Lb×Le)}{σ:St}{H:Hp}{s:Ld}{a C dx:Lb}{fs:↑(Str×V)}{f:Str}{v:V}{A:Lf}{E:K5->Ld->Prop}
def md {b:Bool}{Q:K5->Ld->Prop}(I:Inv X gV σ H s)(e:H a=some (.ins C dx fs))(c:Cls X.K C)(n:NoAttr X.K C f)(l:fs.lookup f=`v)
  (h:∀u s' ,Inv X gV σ H s'->RelV v u->Q u s'):Lh (Li X.prog X.w) A (getAttr (.ref a) f b) Q E s:=by
 let(mA,O,r,_,_,_):=o9 I.hok e;let(u,hu,ru):=RelO.some_of (v:=v) (o:=mA f) (by rw[<-l];exact r f);exact By I.kIn O (c.get f) c.hd n hu (ww ru)<|h u _ (I.tok _) ru
def iX {m:Str}{Q:K5×↑K5->Ld->Prop}(I:Inv X gV σ H s)(e:H a=some (.ins C dx fs))(c:Cls X.K C)(k:MK X.K C m g)(l:fs.lookup m=none)
  (h:Q (.ref g ,[.ref a]) s):Lh (Li X.prog X.w) A (L0 (.ref a) m pl) Q E s:=by
 let(mA,O,r,_,_,_):=o9 I.hok e;have hn:mA m=none:=RelO.none_of (by rw[<-l];exact r m);exact zd I.kIn O (c.get m) k.at_ k.fn hn h
def kZ {Q:Unit->Ld->Prop}(I:Inv X gV σ H s)(e:H a=some (.ins C dx fs))(c:Cls X.K C)(n:NoAttr X.K C f)(hl:⇑fs<1000)(ry:RelV y u)
  (h:∀s' ,Inv X gV σ (upd H a<|.ins C dx<|Qq f y fs) s'->Q () s'):Lh (Li X.prog X.w) A (setAttr (.ref a) f u) Q E s:=by
 let(mA,O,r,wi,_,ho):=o9 I.hok e;have hz:⇑(fs.map (·.1))<=sizeLine:=by rw[Hb,sizeLine_eq];omega
 refine Ae I.kIn O c.sa c.po n.taker c.hd wi hz λh' O' sb=>h _ ?_;have hd:∃o,h'.get? dx=`o:=let (o,_,_,e',_):=O'.ns;(o,e');refine I.write (x:=a) (e:=dx) (by rw[e];exact True.intro) (.inr ho) (λb q hb z=>(sb.2 b hb).trans z) hd ?_;refine(by rw[af O.ne];exact ho,?_,O.ne,O'.obj,_,O'.ns,λg=>?_,λg hg=>?_);have:=kh f y fs;omega
 .show RelO ((Qq f y fs).lookup g) (if g=f then `u else mA g);rw[cN];by_cases q:g=f;rw[bf q,bf q];exact ry;rw[aZ q,aZ q];exact r g
 .by_cases q:g=f;rw[q];exact (j0 f y fs).1;refine (j0 f y fs).2 g (wi g λz=>hg ?_);show (if g=f then `u else mA g)=none;rw[aZ q];exact z
def Inv.made (I:Inv X gV σ H s):Inv X gV σ (upd (upd H ↥s (.own<|↥s+1)) (↥s+1)<|.ins C ↥s [])
  {s with heap:=(s.heap.push K1).push<|KZ C ↥s}:=by
 have e1:(s.heap.push K1).get? ↥s=`K1:=Hu s.heap rfl;have e2:((s.heap.push K1).push<|KZ C ↥s).get? (↥s+1)=some (KZ C ↥s):=by
  have:=Hu (s.heap.push K1) (o:=KZ C ↥s) rfl
  rwa[H0]at this
 have e3:(s.heap.push K1).Ns ↥s (λJ=>none):=(K1,#[],_,e1,rfl,(λe he=>absurd he ⇑_),λJ=>rfl)
 have I1:=I.laid (a:=↥s) (o:=.own<|↥s+1) (h':=s.heap.push K1) (t':=s.toks) (λb u q=>He _ q) (Hc _) (_,e1);refine I1.laid (a:=↥s+1) (o:=.ins C ↥s []) (t':=s.toks) (λb u q=>He _ q) (IR<|H0 _ _) ?_;have ne:↥s≠↥s+1:=Hs<|JU _;refine(by rw[af ne,aq],Hy _,ne,e2,λJ=>none,(La.Ns1.of_empty e3).at λo q=>He _ q,λJ=>True.intro,λy hy=>absurd rfl hy)
def BU {w:K9}{f:Str}{Q:K5->Ld->Prop}(hb:L1 e f env (LD e env)=LD e env)
  (h:Lh (Li prog w) A (LD e env) (λo s₁=>Lh (Li prog w) A (getAttr o f true) Q E s₁) E s):Lh (Li prog w) A (LD (.Attribute e f pos) env) Q E s:=
 Attribute_any_ h (by rw[arm_eval_Attribute,hb])
end
noncomputable def tFld (K:Zf)(ta:TE)(f:Str):TE:=λσ H Q=>ta σ H λx H1=>∃a C dx fs v,x=.ref a/\H1 a=some (.ins C dx fs)/\Cls K C/\NoAttr K C f/\fs.lookup f=`v/\Q v H1
noncomputable def sFld (K:Zf)(ta tv:TE)(f:Str):TS:=λD σ H=>tv σ H λy H1=>ta σ H1 λx H2=>∃a C dx fs,x=.ref a/\H2 a=some (.ins C dx fs)/\Cls K C/\NoAttr K C f/\⇑fs<1000/\
 D.nx σ (upd H2 a<|.ins C dx<|Qq f y fs)
def InOp (X:Cx)(op:Operator)(rd:V->V->Hp->VK->Prop):Prop:=
 ∀ (gV:↑(Lb×Le)) (s:Ld) (σ:St) (H:Hp) (x y:V) (u v:K5) (Q:VK),Inv X gV σ H s->RelV x u->RelV y v->rd x y H Q->Lh (Li X.prog X.w) X.A (inplaceOp op u v) (EP X gV σ Q) X.xe s
noncomputable def Ak (K:Zf)(ta tv:TE)(rd:V->V->Hp->VK->Prop)(f:Str):TS:=λD σ H=>ta σ H λx H1=>∃a C dx fs v,x=.ref a/\H1 a=some (.ins C dx fs)/\Cls K C/\NoAttr K C f/\fs.lookup f=`v/\
 tv σ H1 λy H2=>rd v y H2 λz H3=>∃dx' fs',H3 a=some (.ins C dx' fs')/\⇑fs'<1000/\D.nx σ (upd H3 a<|.ins C dx'<|Qq f z fs')
section
variable {X:Cx}{o e value:Expr}{f:Str}{pos pos' tpos:LF}{ta tv:TE}
def fk (he:PE X e ta)(hb:L1 e f X.env (LD e X.env)=LD e X.env):PE X (.Attribute e f pos) (tFld X.K ta f):=by intro gV s σ H Q I h;refine BU hb (thn (he gV s σ H _ I h) λu s1 qz=>?_);let(x,H1,I1,rx,a,C,dx,fs,v,ex,ea,c,n,l,q):=qz;subst ex;obtain rfl:u=K5.ref a:=rx;exact md I1 ea c n l λu' s2 I2 ru=>(v,H1,I2,ru,q)
def si (ha:PE X o ta)(hv:PE X value tv)(hs:swapsWith value (some<|.Attribute o f pos') pos.line X.env=pure false):PS X (.Assign [.Attribute o f pos'] value pos) (sFld X.K ta tv f):=by intro gV s σ H D I h;refine plainObj_wpAny_Assign_Attribute (thn (hv gV s σ H _ I h) λu s1 (y,H1,I1,ry,q)=>thn (ha gV s1 σ H1 _ I1 q) λov s2 qz=>?_) hs;let(x,H2,I2,rx,a,C,dx,fs,ex,ea,c,n,l,q2):=qz;subst ex;obtain rfl:ov=K5.ref a:=rx;exact kZ I2 ea c n l ry λs3 I3=>(σ,_,I3,q2)
def nK {rd:V->V->Hp->VK->Prop}(ha:PE X o ta)(hv:PE X value tv)(hop:InOp X op rd):PS X (.AugAssign (.Attribute o f tpos) op value pos) (Ak X.K ta tv rd f):=by intro gV s σ H D I h;refine wpAny_AugAssign_AttributeAny (thn (ha gV s σ H _ I h) λov s1 qz=>?_);let(x,H1,I1,rx,a,C,dx,fs,v,ex,ea,c,n,l,q):=qz;subst ex;obtain rfl:ov=K5.ref a:=rx;refine md I1 ea c n l λu s2 I2 ru=>thn (hv gV s2 σ H1 _ I2 q) λw3 s3 (y,H2,I3,ry,q3)=>thn (hop gV s3 σ H2 v y u w3 _ I3 ru ry q3) λw4 s4 qz=>?_;let(z,H3,I4,rz,dx',fs',ea',l',q4):=qz;exact kZ I4 ea' c n l' rz λs5 I5=>(σ,_,I5,q4)
def rAdd:V->V->Hp->VK->Prop:=λx y H Q=>∃i j,x=.int i/\y=.int j/\Q (.int<|i+j) H
def y7:InOp X .Add rAdd:=by
 rintro gV s σ H x y u v Q I rx ry ⟨i,j,rfl,rfl,q⟩
 let(t,rfl):=(show∃t ,u=K5.int i t from rx)
 let(t',rfl):=(show∃t' ,v=K5.int j t' from ry)
 exact PyProof.Rows.iadd_int (.int<|i+j,H,I.tok _,(_,rfl),q)
def Cf {m:Str}{args:↑Expr}{Q:K5->Ld->Prop}(he:PE X e te)(I:Inv X gV σ H s)
  (h:te σ H λx H1=>∃a C dx fs g ,x=.ref a/\H1 a=some (.ins C dx fs)/\Cls X.K C/\MK X.K C m g/\fs.lookup m=none/\
    ∀s1,Inv X gV σ H1 s1->Lh (Li X.prog X.w) X.A (callWith pos (.ref g) [.ref a] (LG pos<|LH args X.env)<|L3 pos<|L4 [] X.env) Q X.xe s1)
  (ht:LD (.Call (.Attribute e m apos) args [] pos) X.env=(do
   let ov<-LD e X.env
   LM apos.atName
   let (f ,first)<-LN [ov] (L0 ov m pl)
   callWith pos f first (LG pos<|LH args X.env) (L3 pos<|L4 [] X.env))):
  Lh (Li X.prog X.w) X.A (LD (.Call (.Attribute e m apos) args [] pos) X.env) Q X.xe s:=by
 refine PySem.W.methodCall_KW (pl:=pl) (thn (he gV s σ H _ I h) λu s1 qz=>?_) ht;let(x,H1,I1,rx,a,C,dx,fs,g,ex,ea,c,k,l,q):=qz;subst ex;obtain rfl:u=K5.ref a:=rx;exact iX I1 ea c k l<|q s1 I1
end
end
section
structure Room (k:Nat)(A:Lf):Prop where
 hd:A.handled=none
 dp:A.depth+3*k+5<recursionLimit
 un:A.units+16*k+200<Lg
def Room.mono {j k:Nat}(r:Room k A)(h:j<=k):Room j A:=(r.hd,by have:=r.dp;omega,by have:=r.un;omega)
theorem Room.deeper {k:Nat}(r:Room (k+1) A)(env:Env):Room k (A.deeper env):=
 (r.hd,by have:=r.dp;show A.depth+1+3*k+5<_;omega,by have:=r.un;show A.units+3+16*k+200<_;omega)
def sM {A:Lf}{C:Lb}{us:↑K5}{kw:↑(Str×K5)}:(A.under<|.builtin "type.__call__" (.ref C::us,kw)).depth=A.depth+1:=by first|rfl|simp [Lf.under,Code.weight,Code.isCreation,Code.isGuard,Code.isCaller,Code.frames,Code.isFrame,guardIds]
def sL {A:Lf}{C:Lb}{us:↑K5}{kw:↑(Str×K5)}:(A.under<|.builtin "type.__call__" (.ref C::us,kw)).units=A.units+1:=by first|rfl|simp [Lf.under,Code.cUnits,Code.frames,Code.isFrame]
def Room.make {k:Nat}(r:Room (k+1) A)(C:Lb)(us:↑K5)(kw:↑(Str×K5)):Room k (A.under<|.builtin "type.__call__" (.ref C::us,kw)):=
 (r.hd,by have:=r.dp;rw[sM];omega,by have:=r.un;rw[sL];omega)
theorem Room.depth {k:Nat}(r:Room k A):A.depth<recursionLimit:=by have:=r.dp;omega
theorem Room.units {k:Nat}(r:Room k A):A.units+64<Lg:=by have:=r.un;omega
noncomputable def R5:TA:=λJ H Q=>Q [] H
noncomputable def RY (ta:TE)(tr:TA):TA:=λσ H Q=>ta σ H λx H1=>tr σ H1 λxs H2=>Q (x::xs) H2
section
variable {X:Cx}{e:Expr}{es:↑Expr}{te:TE}{t:TA}{pos:LF}
def P9:PA X [] R5:=λJ J J J H Q I h=>Calls.spliced_nil ([],H,I,.nil,h)
def ai (ha:PE X e te)(hr:PA X es t)(hs:LH (e::es) X.env=(false ,LD e X.env)::LH es X.env:=by rfl):PA X (e::es) (RY te t):=by intro pos gV s σ H Q I h;rw[hs];show Lh _ _ (spliced ((false ,LD e X.env)::LG pos (LH es X.env))) _ _ s;refine Calls.spliced_cons (thn (ha gV s σ H _ I h) λu s1 qz=>?_);let(x,H1,I1,r1,q1):=qz;exact thn (hr pos gV s1 σ H1 _ I1 q1) λus s2 (xs,H2,I2,r2,q2)=>(x::xs,H2,I2,.cons r1 r2,q2)
noncomputable def tTup (t:TA):TE:=λσ H Q=>t σ H λxs H1=>⇑xs<=sizeLine/\∀p,H1 p=none->Q (.ref p) (upd H1 p<|.tup xs)
noncomputable def tLst (t:TA):TE:=λσ H Q=>t σ H λxs H1=>⇑xs<=sizeLine/\∀p,H1 p=none->Q (.ref p) (upd H1 p<|.lst xs)
def jV {x1}(h:PA X es t):PE X (.Tuple es x1 pos) (tTup t):=by intro gV s σ H Q I hq;refine wpAny_Tuple_spliced (thn (h pos gV s σ H _ I hq) λus s1 (xs,H1,I1,r,z,q)=>(by rw[<-⇑r];exact z,?_));have hf:H1 ↥s1=none:=I1.hok.fresh<|Hc _;refine(.ref ↥s1,upd H1 ↥s1 (.tup xs),I1.laid (t':=s1.toks) (λb u e=>He _ e) (Hc _) ?_,rfl,q _ hf);exact(z,us,r,IsTupD.new _ _)
def Dm (h:PA X es t):PE X (.List es pos) (tLst t):=by intro gV s σ H Q I hq;refine wpAny_List_spliced (thn (h pos gV s σ H _ I hq) λus s1 (xs,H1,I1,r,z,q)=>(by rw[<-⇑r];exact z,?_));have hf:H1 ↥s1=none:=I1.hok.fresh<|Hc _;refine(.ref ↥s1,upd H1 ↥s1 (.lst xs),I1.laid (t':=s1.toks) (λb u e=>He _ e) (Hc _) ?_,rfl,q _ hf);exact(z,us,0,r,Hu _ rfl)
end
abbrev Sp:=↑V->Hp->VK->XK->Prop
abbrev CXT:=↑Env->Hp->Ld->XK->K5->Ld->Prop
structure Env0 (P:K8)(w:K9)(K:Zf)(mg:Str->Option K5)(base:La)(A:Lf)(outer:↑Env)(s:Ld)(H:Hp):Prop where
 frames:A.frames=`outer
 mod:Mod K mg base
 bs:∀b o,base.get? b=`o->s.heap.get? b=`o/\H b=none
 bsz:base.objs.size<=↥s
 funs:s.heap.FunFrames base outer
 frf:∀b∈frs outer,H b=none
 hok:HOk P w H s.heap
 bare:LC s.gens
def CE (outer:↑Env)(P:K8)(w:K9)(H:Hp)(s:Ld)(Q:VK)(u:K5)(s':Ld):Prop:=
 ∃v H',s'.os=s.os/\LC s'.gens/\Un (frs outer) [] H H' s.heap s'.heap/\HOk P w H' s'.heap/\RelV v u/\Q v H'
def CR (CX:CXT)(outer:↑Env)(P:K8)(w:K9)(H:Hp)(s:Ld)(Q:VK)(E:XK)(r:Result)(s':Ld):Prop:=
 match r with|.ok (.ret u)=>CE outer P w H s Q u s'|.ok _=>False|.error e=>CX outer H s E e s'
structure FnOk (P:K8)(w:K9)(K:Zf)(mg:Str->Option K5)(base:La)(CX:CXT)(k:Nat)(f:Lb)(fd:L5)(ps:↑Str)(sp:Sp):Prop where
 len:∀vs H Q E,sp vs H Q E->⇑vs=⇑ps
 run:∀ (A:Lf) (outer:↑Env) (s:Ld) (H:Hp) (args:Args) (us:↑K5) (vs:↑V) (Q:VK) (E:XK),Room k A->Env0 P w K mg base A outer s H->BindsTo s fd args (ps.zip us)->Vals vs us->sp vs H Q E->
  codeAny (Li P w) A (.call (.ref f) args) (CR CX outer P w H s Q E) s
theorem FnOk.mono {w:K9}{K:Zf}{mg:Str->Option K5}{j k:Nat}{ps:↑Str}(F:FnOk P w K mg base CX j f fd ps sp)(h:j<=k):
 FnOk P w K mg base CX k f fd ps sp:=(F.len,λA outer s H args us vs Q E hr=>F.run A outer s H args us vs Q E<|hr.mono h)
def FnOk.imp {w:K9}{K:Zf}{mg:Str->Option K5}{k:Nat}{ps:↑Str}(F:FnOk P w K mg base CX k f fd ps sp)
  (h:∀vs H Q E ,sp' vs H Q E->sp vs H Q E):FnOk P w K mg base CX k f fd ps sp':=
 (λvs H Q E q=>F.len vs H Q E<|h _ _ _ _ q,λA outer s H args us vs Q E hr he hb hv hs=>F.run A outer s H args us vs Q E hr he hb hv<|h _ _ _ _ hs)
def Env0.make {w:K9}{K:Zf}{mg:Str->Option K5}(e:Env0 P w K mg base A outer s H)(C:Lb)(us:↑K5)(kw:↑(Str×K5)):
 Env0 P w K mg base (A.under<|.builtin "type.__call__" (.ref C::us,kw)) outer s H:=(by first|exact e.frames|(simpa [Lf.under,Code.envs,Code.isFrame,pushEnvs] using e.frames),e.mod,e.bs,e.bsz,e.funs,e.frf,e.hok,e.bare)
section
variable {X:Cx}{gV:↑(Lb×Le)}{σ:St}{H:Hp}{s s':Ld}
def Inv.env0 (I:Inv X gV σ H s):Env0 X.prog X.w X.K X.mg X.base X.A X.stack s H:=
 (I.ok.frames,I.ok.mod,I.bs,HA I.ok.bsz I.sz,I.stack,I.stkFree,I.hok,I.bare)
def Inv.after (I:Inv X gV σ H s)(h:CE X.stack X.prog X.w H s Q u s'):EP X gV σ Q u s':=by let(v,H',os,bare,un,hok,r,q):=h;let(hh,g,d,t,os'):=s';obtain rfl:os'=s.os:=os;exact(v,H',I.call (h':=hh) (g':=g) (d':=d) (t':=t) (ch:=[]) un hok bare (λb z=>absurd z ⇑_),r,q)
end
noncomputable def tCall (sp:Sp)(dvs:↑V)(E:XK)(t:TA):TE:=λσ H Q=>t σ H λvs H1=>sp (vs++dvs) H1 Q E
noncomputable def R0 (C:Lb)(m:Str)(sp:Sp)(dvs:↑V)(E:XK)(ta:TE)(t:TA):TE:=λσ H Q=>ta σ H λx H1=>∃a dx fs,x=.ref a/\H1 a=some (.ins C dx fs)/\fs.lookup m=none/\
 t σ H1 λvs H2=>sp (x::(vs++dvs)) H2 Q E
noncomputable def RZ (C:Lb)(sp:Sp)(dvs:↑V)(E:XK)(t:TA):TE:=λσ H Q=>t σ H λvs H1=>∀x dx,H1 x=none->H1 dx=none->dx≠x->
 sp (.ref x::(vs++dvs)) (upd (upd H1 dx<|.own x) x<|.ins C dx []) (λv H2=>v=.non/\Q (.ref x) H2) E
def Binds (K:Zf)(fd:L5)(ps:↑Str)(ds:↑K5):Prop:=
 ∀ (s:Ld) (us:↑K5),K.In s.heap->⇑(us++ds)=⇑ps->BindsTo s fd (us,[]) (ps.zip<|us++ds)
def Binds.all {K:Zf}{ps:↑Str}(h:∀us:↑K5 ,⇑us=⇑ps->bindArgs fd (us,[])=pure (ps.zip us)):Binds K fd ps []:=λs us J hl=>by rw[HL]at hl ⊢;exact .of_eq<|h us hl
def gB (CX:CXT)(X:Cx)(E:XK):Prop:=∀ (gV:↑(Lb×Le)) (σ:St) (H:Hp) (s:Ld) (e:K5) (s':Ld),Inv X gV σ H s->CX X.stack H s E e s'->X.xe e s'
section
variable {X:Cx}{CX:CXT}{k:Nat}{f C:Lb}{fd:L5}{ps:↑Str}{sp:Sp}{dvs:↑V}{ds:↑K5}{E:XK}{x m:Str}{p pos apos:LF}{e o:Expr}{es:↑Expr}{ta:TE}{t:TA}
def r9 (F:FnOk X.prog X.w X.K X.mg X.base CX k f fd ps sp)(hr:Room k X.A)(hb:Binds X.K fd ps ds)(hd:Vals dvs ds)(hx:gB CX X E)
  (I:Inv X gV σ H s)(r:Vals vs us)(h:sp (vs++dvs) H Q E):Lh (Li X.prog X.w) X.A (call (.ref f) us) (EP X gV σ Q) X.xe s:=by
 have r2:Vals (vs++dvs) (us++ds):=r.append hd;have hl:⇑(us++ds)=⇑ps:=by rw[<-⇑r2];exact F.len _ _ _ _ h
 refine wpAny_call (L6 (F.run X.A X.stack s H (us,[]) (us++ds) (vs++dvs) Q E hr I.env0 (hb s us I.kIn hl) r2 h) λr s' hq=>?_);cases r with
 |error e=>exact hx gV σ H s e s' I hq
 |ok fl=>
  cases fl with|ret u=>exact I.after hq|next=>exact False.elim hq|brk=>exact False.elim hq|cont=>exact False.elim hq
def dF (F:FnOk X.prog X.w X.K X.mg X.base CX k f fd ps sp)(hr:Room k X.A)(hg:Gl X x)(hm:X.mg x=some (.ref f))(hk:K2 X.K (.ref f)=true)(hb:Binds X.K fd ps ds)(hd:Vals dvs ds)(hx:gB CX X E)
  (ha:PA X (e::es) t)(hdb:(x==("__debug__":Str))=false:=by decide)(he:LH (e::es) X.env=(false ,LD e X.env)::LH es X.env:=by rfl)(hpl:(LG pos<|LH es X.env).any (·.1)=false:=by rfl):
  PE X (.Call (.Name x p) (e::es) [] pos) (tCall sp dvs E t):=by
 intro gV s σ H Q I h;refine L7<|jr I hg hm ?_ hdb;refine PySem.W.callWith_K (h₀:=X.base) I.ok.mod.kin hk (thn (ha pos gV s σ H _ I h) λus s1 (vs,H1,I1,r,q)=>(I1.kIn,?_)) he hpl;exact r9 F hr hb hd hx I1 r q
def f7 (he:PE X o ta)(c:Cls X.K C)(hm:MK X.K C m f)(F:FnOk X.prog X.w X.K X.mg X.base CX k f fd ps sp)(hr:Room k X.A)(hb:Binds X.K fd ps ds)(hd:Vals dvs ds)(hx:gB CX X E)(ha:PA X (e::es) t)
  (hst:LH (e::es) X.env=(false ,LD e X.env)::LH es X.env)(hpl:(LG pos<|LH es X.env).any (·.1)=false)
  (ht:LD (.Call (.Attribute o m apos) (e::es) [] pos) X.env=(do
   let ov<-LD o X.env
   LM apos.atName
   let (f ,first)<-LN [ov] (L0 ov m pl)
   callWith pos f first (LG pos<|LH (e::es) X.env) (L3 pos<|L4 [] X.env))):
  PE X (.Call (.Attribute o m apos) (e::es) [] pos) (R0 C m sp dvs E ta t):=by
 intro gV s σ H Q I h;refine PySem.W.methodCall_KW (pl:=pl) (thn (he gV s σ H _ I h) λu s1 qz=>?_) ht;let(x,H1,I1,rx,a,dx,fs,ex,ea,l,q):=qz;subst ex;obtain rfl:u=K5.ref a:=rx;refine iX I1 ea c hm l ?_;refine PySem.W.callWith_K (first:=[.ref a]) (h₀:=X.base) I.ok.mod.kin hm.kp (thn (ha pos gV s1 σ H1 _ I1 q) λus s2 (vs,H2,I2,r,q2)=>(I2.kIn,?_)) hst hpl;exact r9 (us:=.ref a::us) (vs:=.ref a::vs) F hr hb hd hx I2 (.cons rfl r) q2
def d7 (he:PE X o ta)(c:Cls X.K C)(hm:MK X.K C m f)(F:FnOk X.prog X.w X.K X.mg X.base CX k f fd ps sp)(hr:Room k X.A)(hb:Binds X.K fd ps ds)(hd:Vals dvs ds)(hx:gB CX X E)
  (ht:LD (.Call (.Attribute o m apos) [] [] pos) X.env=(do
   let ov<-LD o X.env
   LM apos.atName
   let (f ,first)<-LN [ov] (L0 ov m pl)
   callWith pos f first (LG pos<|LH [] X.env) (L3 pos<|L4 [] X.env))):
  PE X (.Call (.Attribute o m apos) [] [] pos) (R0 C m sp dvs E ta R5):=by
 intro gV s σ H Q I h;refine PySem.W.methodCall_KW (pl:=pl) (thn (he gV s σ H _ I h) λu s1 qz=>?_) ht;let(x,H1,I1,rx,a,dx,fs,ex,ea,l,q):=qz;subst ex;obtain rfl:u=K5.ref a:=rx;refine iX I1 ea c hm l ?_;exact PySem.W.callWith_K0 (first:=[.ref a]) I1.kIn hm.kp<|r9 (us:=[.ref a]) (vs:=[.ref a]) F hr hb hd hx I1 (.cons rfl .nil) q
structure Mk (K:Zf)(C f:Lb):Prop where
 makes:makesIn K C=true
 init:K0 K (.ref C) "__init__"=some (some<|.ref f)
 fn:PySem.W.isFn K (.ref f)=true
 kp:K2 K (.ref C)=true
def qa (M:Mk X.K C f)(F:FnOk X.prog X.w X.K X.mg X.base CX k f fd ps sp)(hr:Room (k+1) X.A)(hb:Binds X.K fd ps ds)(hd:Vals dvs ds)
  (hx:gB CX X E)(I:Inv X gV σ H s)(r:Vals vs us)
  (h:∀x dx ,H x=none->H dx=none->dx≠x->sp (.ref x::(vs++dvs)) (upd (upd H dx<|.own x) x<|.ins C dx []) (λv H2=>v=.non/\Q (.ref x) H2) E):
  Lh (Li X.prog X.w) X.A (call (.ref C) us) (EP X gV σ Q) X.xe s:=by
 have hq:=h (↥s+1) ↥s (I.hok.fresh<|IH _) (I.hok.fresh<|Hc _) (Hs<|JU _);have I2:=Inv.made (C:=C) I;have r2:Vals (V.ref (↥s+1)::(vs++dvs)) (K5.ref (↥s+1)::(us++ds)):=.cons rfl<|r.append hd;have hl:⇑(K5.ref (↥s+1)::us++ds)=⇑ps:=by have e:=⇑r2;rw[F.len _ _ _ _ hq]at e;exact e.symm
 refine wpAny_call (yL (f:=f) I.kIn M.makes M.init (beq_iff_eq.mp M.fn) (L6 (F.run _ X.stack _ _ (K5.ref (↥s+1)::us,[]) (K5.ref (↥s+1)::(us++ds)) _ _ E (hr.make C us [])
  (I2.env0.make C us []) (hb _ (K5.ref (↥s+1)::us) I2.kIn hl) r2 hq) λr s' hq'=>?_))
 cases r with
 |error e=>exact hx gV σ _ _ e s' I2 hq'
 |ok fl=>
  cases fl with
  |ret u=>
   let(v,H',I3,rv,ev,q3):=I2.after hq';subst ev;exact(rv,(V.ref<|↥s+1,H',I3,rfl,q3))
  |next=>exact False.elim hq'
  |brk=>exact False.elim hq'
  |cont=>exact False.elim hq'
def Ax (M:Mk X.K C f)(F:FnOk X.prog X.w X.K X.mg X.base CX k f fd ps sp)(hr:Room (k+1) X.A)(hg:Gl X x)(hm:X.mg x=some (.ref C))(hb:Binds X.K fd ps ds)(hd:Vals dvs ds)(hx:gB CX X E)
  (ha:PA X (e::es) t)(hdb:(x==("__debug__":Str))=false)(he:LH (e::es) X.env=(false ,LD e X.env)::LH es X.env)(hpl:(LG pos<|LH es X.env).any (·.1)=false):
  PE X (.Call (.Name x p) (e::es) [] pos) (RZ C sp dvs E t):=by
 intro gV s σ H Q I h;refine L7<|jr I hg hm ?_ hdb;refine PySem.W.callWith_K (h₀:=X.base) I.ok.mod.kin M.kp (thn (ha pos gV s σ H _ I h) λus s1 (vs,H1,I1,r,q)=>(I1.kIn,?_)) he hpl;exact qa M F hr hb hd hx I1 r q
def xO (M:Mk X.K C f)(F:FnOk X.prog X.w X.K X.mg X.base CX k f fd ps sp)(hr:Room (k+1) X.A)(hg:Gl X x)(hm:X.mg x=some (.ref C))(hb:Binds X.K fd ps ds)(hd:Vals dvs ds)(hx:gB CX X E)
  (hdb:(x==("__debug__":Str))=false):PE X (.Call (.Name x p) [] [] pos) (RZ C sp dvs E R5):=by
 intro gV s σ H Q I h;refine L7<|jr I hg hm ?_ hdb;exact PySem.W.callWith_K0 I.kIn M.kp<|qa (us:=[]) M F hr hb hd hx I .nil h
end
structure MH (N P:↑Str)(sc:Lz):Prop where
 kind:sc.kind=.function
 co:sc.isCoroutine=false
 gen:sc.isGenerator=false
 nd:N.Nodup
 pre:N.take P.length=P
 par:∀x∈P,sc.names.lookup x=some .local \/sc.names.lookup x=some .cell
 nofree:∀y∈sc.names,y.2≠.free
theorem ol {kindOf:Str->Option L9}{x:Str}:∀ {binds:↑(Str×K5)}{m:Str->Option K5},(∀v ,(x ,v)∉binds)->bindL kindOf binds m x=m x
 |[],_,_=>rfl
 |(n ,v)::r,m,h=>by
  unfold bindL;rw[ol λw hw=>h w<|Ht _ hw];split
  .have:x≠n:=by rintro rfl;exact h v Hi
   simp [this]
  rfl
theorem oq {kindOf:Str->Option L9}{x:Str}:∀ {binds:↑(Str×K5)}{m:Str->Option K5},(∀v ,(x ,v)∉binds)->bindC kindOf binds m x=m x
 |[],_,_=>rfl
 |(n ,v)::r,m,h=>by
  unfold bindC;rw[oq λw hw=>h w<|Ht _ hw];split;rfl
  .have:x≠n:=by rintro rfl;exact h v Hi
   simp [this]
theorem on {kindOf:Str->Option L9}{x:Str}:∀ {P:↑Str}{vs:↑K5}{i:Nat}{m:Str->Option K5},P.Nodup->P[i]?=`x->vs[i]?=`v->kindOf x=some .local ->
  bindL kindOf (P.zip vs) m x=`v
 |[],_,_,_,_,h,_,_=>by simp at h
 |_::_,[],_,_,_,_,h,_=>by simp at h
 |p::P,w::vs,0,m,nd,h1,h2,hk=>by simp at h1 h2;subst h1;subst h2;show bindL kindOf ((p ,w)::P.zip vs) m p=_;unfold bindL;rw[ol λv hv=>(IC.mp nd).1 (JV hv).1,bf hk];simp
 |p::P,w::vs,i+1,m,nd,h1,h2,hk=>by show bindL kindOf ((p ,w)::P.zip vs) m x=_;unfold bindL;exact on (i:=i) (IC.mp nd).2 (by simpa using h1) (by simpa using h2) hk
theorem ot {kindOf:Str->Option L9}{x:Str}:∀ {P:↑Str}{vs:↑K5}{i:Nat}{m:Str->Option K5},P.Nodup->P[i]?=`x->vs[i]?=`v->kindOf x≠some .local ->
  bindC kindOf (P.zip vs) m x=`v
 |[],_,_,_,_,h,_,_=>by simp at h
 |_::_,[],_,_,_,_,h,_=>by simp at h
 |p::P,w::vs,0,m,nd,h1,h2,hk=>by simp at h1 h2;subst h1;subst h2;show bindC kindOf ((p ,w)::P.zip vs) m p=_;unfold bindC;rw[oq λv hv=>(IC.mp nd).1 (JV hv).1,aZ hk];simp
 |p::P,w::vs,i+1,m,nd,h1,h2,hk=>by show bindC kindOf ((p ,w)::P.zip vs) m x=_;unfold bindC;exact ot (i:=i) (IC.mp nd).2 (by simpa using h1) (by simpa using h2) hk
noncomputable def RP (N:↑Str)(vs:↑V):St:=vs.map some++List.replicate (N.length-⇑vs) none
noncomputable def Nx (CX:CXT)(P:K8)(w:K9)(K:Zf)(mg:Str->Option K5)(base:La)(N:↑Str)(qual:Str)(scope:Lz)(f:Lb)(cd:K5)(A:Lf)(outer:↑Env)(s:Ld)(H:Hp)(E:XK):Cx where
 prog:=P
 w:=w
 K:=K
 mg:=mg
 base:=base
 A:=A.deeper<|Ma qual scope ↥s f cd
 N:=N
 s₀:=s
 H₀:=H
 env:=Ma qual scope ↥s f cd
 outer:=outer
 stack:=Ma qual scope ↥s f cd::outer
 ex:=[]
 calm:=true
 fn:=λJ=>true
 pn:=[]
 xe:=λe s'=>Lh (Li P w) (A.deeper<|Ma qual scope ↥s f cd) (leaving (Ma qual scope ↥s f cd) e) (λJ s''=>CX outer H s E e s'') (λe' s''=>CX outer H s E e' s'') s'
def q0 {sc:Lz}{n:Nat}{x:Str}(h:sc.names.lookup x=some .cell):∃c,(cellsFrom n sc.names []).lookup x=`c:=by have q:=PySem.W.cellsFrom_some sc.names n []<|.inl h;exact Kw.mp q
def wl {w:K9}{K:Zf}{mg:Str->Option K5}{N ps:↑Str}{qual:Str}
  (S:MH N ps scope)(hd:A.handled=none)(e0:Env0 P w K mg base A outer s H)(hl:⇑vs=⇑ps)(r:Vals vs us)
  (x:InCallC s ↥s (bindL (Ma qual scope ↥s f cd).kindOf (ps.zip us) λJ=>none) (cellsFrom (↥s+1) scope.names []) (bindC (Ma qual scope ↥s f cd).kindOf (ps.zip us) λJ=>none) s1):
  Inv (Nx CX P w K mg base N qual scope f cd A outer s H E) [] (RP N vs) H s1:=by
 have hpl:⇑ps<=N.length:=by have:=congrArg List.length S.pre;rw[H9]at this;omega
 let(h1,tk,rfl,hk):=x.done;have noA:∀b:Lb,b ∉(Nx CX P w K mg base N qual scope f cd A outer s H E).ex:=λb z=>absurd (show b∈([]:↑Lb) from z) ⇑_
 refine((e0.mod,S.kind,rfl,rfl,Hc _,λy z c h1 h2=>?_,λy hy=>?_,λy c J h=>?_,λJ=>hd,Lf.frames_deeper e0.frames,.inr (rfl,rfl),λb z=>absurd z<|noA b,e0.bs,e0.bsz,λb J J=>noA b,λb z=>absurd z<|noA b,e0.funs,e0.frf),
  rfl,e0.bare,Un.kept hk,(_,x.toInCall.ns,λi y v h1 h2 h3=>?_),λy c h=>(_,x.cell y c h),e0.hok.fresh<|Hc _,λy c h=>?_,λp hp=>absurd (show p∈([]:↑(Lb×Le)) from hp) ⇑_,e0.hok.kept hk,?_)
 exact name_of_addr x.apart (PySem.mem_of_lookup h1)<|PySem.mem_of_lookup h2
 .have hy:scope.names.lookup y=some .cell\/scope.names.lookup y=some .free:=hy;rcases hy with hy|hy
  exact q0 hy;exact absurd rfl<|S.nofree _<|PySem.mem_of_lookup hy
 exact Jq<|x.above y c<|PySem.mem_of_lookup h
 .have hi:i<⇑vs:=by
   unfold RP at h2;by_cases hi:i<⇑vs;exact hi;rw[Iq<|by simpa using hi]at h2;rw[JX]at h2;split at h2<;>cases h2
  have ha:vs[i]?=`v:=by
   unfold RP at h2;rw[HN (by simpa using hi),Hl]at h2;cases e:vs[i]? with|none=>rw[e]at h2;cases h2|some a=>rw[e]at h2;cases h2;rfl
  let(u,hu,rv):=r.get ha;have hp:ps[i]?=`y:=by rw[<-S.pre,List.getElem?_take_of_lt ∅];exact h1
  have ndP:ps.Nodup:=by rw[<-S.pre];exact S.nd.sublist<|Kx _ _
  refine(u,rv,?_);rcases S.par y (HH hp) with k|k
  exact .inl (k,on ndP hp hu k);let(c,e):=q0 (n:=↥s+1) k;refine .inr (.inl k,c,e,?_);have q:=x.cell y c e;rw[ot ndP hp hu<|by show scope.names.lookup y≠_;rw[k];decide]at q;exact q
 exact e0.hok.fresh<|Jq<|x.above y c<|PySem.mem_of_lookup h;unfold RP;show _=N.length;rw[Hk,Hb,II];omega
def Cj {w:K9}{K:Zf}{mg:Str->Option K5}{k:Nat}{name qual:Str}{dV kV doc pm cdv ct oc:K5}
  {N ps:↑Str}(lk:K.lookup f=some (oc,od,.func<|fnOf name qual params body scope dV kV doc pm an cdv ct,osl))(hcd:codeIn K cdv qual=true)(S:MH N ps scope)
  (len:∀vs H Q E ,sp vs H Q E->⇑vs=⇑ps)
  (hbody:∀ (A:Lf) (outer:↑Env) (s:Ld) (H:Hp) (vs:↑V) (Q:VK) (E:XK) ,Room k (A.deeper<|Ma qual scope ↥s f cdv)->sp vs H Q E->
   ∃t,PSs (Nx CX P w K mg base N qual scope f cdv A outer s H E) body t/\t {nx:=λz H'=>Q .non H',rt:=Q} (RP N vs) H):
  FnOk P w K mg base CX (k+1) f (fnOf name qual params body scope dV kV doc pm an cdv ct) ps sp:=by
 refine(len,λA outer s H args us vs Q E hr e0 hb r hsp=>?_);have hl:=len _ _ _ _ hsp;have KX:K.In s.heap:=e0.mod.kin.keeps λb o e=>(e0.bs b o e).1;have lim:s.heap.NoLimit:=e0.mod.nolimit.keeps λb o e=>(e0.bs b o e).1;have hkind:∀y∈ps.zip us,scope.names.lookup y.1=some .local \/(scope.names.lookup y.1=some .cell/\((cellsFrom (↥s+1) scope.names []).lookup y.1).isSome=true):=λ(n,v) hy=>by
  rcases S.par n (JV hy).1 with q|q
  exact .inl q;exact .inr (q,PySem.W.cellsFrom_some _ _ _<|.inl q)
 refine codeAny_call_function hr.depth (KX _ _ lk) rfl S.co S.gen rfl (PySem.W.codeRec_of KX hcd)<|hb _ _ _ _ ?_;refine wpAny_newFunctionEnv_cells S.kind hkind λenv he s1 x=>?_;subst he;refine(lim.keeps x.toInCall.keep,codeAny_func ?_);let(t,ht,hq):=hbody A outer s H vs Q E (hr.deeper _) hsp;have I:Inv (Nx CX P w K mg base N qual scope f cdv A outer s H E) [] (RP N vs) H s1:=wl S hr.hd e0 hl r x;refine LJ (ht [] s1 (RP N vs) H _ I hq) (λfl s' hs=>?_) λe s' hs=>hs;have fin:∀ {σ':St}{H':Hp}{v:V}{u:K5},Inv (Nx CX P w K mg base N qual scope f cdv A outer s H E) [] σ' H' s'->RelV v u->Q v H'->CE outer P w H s Q u s':=
  λ{σ' H' v u} J rv q=>(v,H',J.os,J.bare,J.base,J.hok,rv,q)
 cases fl with
 |ret u=>
  let(v,σ',H',J,rv,q):=hs;exact fin J rv q
 |next=>
  let(σ',H',J,q):=hs;exact fin (v:=V.non) (u:=K5.none) J rfl q
 |brk=>
  let(_,_,_,q):=hs;exact False.elim q
 |cont=>
  let(_,_,_,q):=hs;exact False.elim q
end
section
section
variable {X:Cx}{x:Str}{p pos:LF}{e:Expr}{es:↑Expr}{t:TA}{id T:String}{r:↑V->Hp->VK->Prop}
noncomputable def tCB (r:↑V->Hp->VK->Prop)(t:TA):TE:=λσ H Q=>t σ H λvs H1=>r vs H1 Q
def dh (hc:CallR X (.builtin id) r)(hg:Gl X x)(hm:X.mg x=none)(hv:Ly x=some (.builtin id))(ha:PA X (e::es) t)(hn:x≠"__name__":=by decide)(hdb:(x==("__debug__":Str))=false:=by decide)
  (he:LH (e::es) X.env=(false ,LD e X.env)::LH es X.env:=by rfl)(hpl:(LG pos<|LH es X.env).any (·.1)=false:=by rfl):PE X (.Call (.Name x p) (e::es) [] pos) (tCB r t):=by
 intro gV s σ H Q I h;refine L7<|dU I hg hm hv ?_ hn hdb;exact PyProof.Rows.callWith_builtin1 (thn (ha pos gV s σ H _ I h) λus s1 (vs,H1,I1,r1,q1)=>hc gV s1 σ H1 vs us Q I1 r1 q1) he hpl
def ip (hc:CallR X (.type T) r)(hg:Gl X x)(hm:X.mg x=none)(hv:Ly x=some (.type T))(ha:PA X (e::es) t)(hn:x≠"__name__")(hdb:(x==("__debug__":Str))=false)
  (he:LH (e::es) X.env=(false ,LD e X.env)::LH es X.env)(hpl:(LG pos<|LH es X.env).any (·.1)=false):PE X (.Call (.Name x p) (e::es) [] pos) (tCB r t):=by
 intro gV s σ H Q I h;refine L7<|dU I hg hm hv ?_ hn hdb;exact PyProof.Rows.callWith_type1 (thn (ha pos gV s σ H _ I h) λus s1 (vs,H1,I1,r1,q1)=>hc gV s1 σ H1 vs us Q I1 r1 q1) he hpl
end
end
end L2
namespace HT
open PySem PyProof.Rows
noncomputable def lexLt:↑Int->↑Int->Bool|[],[]=>false|[],_::_=>true|_::_,[]=>false|x::xs,y::ys=>if x=y then lexLt xs ys else decide (x<y)
def sO (x y:Int)(xs ys:↑Int):lexLt (x::xs) (y::ys)=if x=y then lexLt xs ys else decide (x<y):=rfl
def mV:lexLt [] []=false:=rfl
def lU (y:Int)(ys:↑Int):lexLt [] (y::ys)=true:=rfl
def lV (x:Int)(xs:↑Int):lexLt (x::xs) []=false:=rfl
def zm (A:Lf)(s:Ld)(a:Int)(t:Tok)(c:Int)(u:Tok):∃e,SeqAt.EqAt A s (.int a t) (.int c u) e/\(e=true↔a=c):=
 ((a==c),SeqAt.EqAt.int_int a t c u,⇑_)
def xA (A:Lf)(s:Ld)(a:Int)(t:Tok)(c:Int)(u:Tok)(prog:K8)(w:K9)(E:K5->Ld->Prop)(Q:K5->Ld->Prop)(h:Q (.bool<|decide<|a<c) s):
  Lh (Li prog w) A (richCompare .Lt (.int a t)<|.int c u) Q E s:=
 (PyProof.Rows.lt_int h:Lh (Li prog w) A (LK .Lt (.int a t)<|.int c u) Q E s)
section
open PySem.SeqAt
open PySem.AutoSeq1 (wpAny_loadPart')
open PySem.MeetsSeq PySem.MeetsSeq2 PySem.MeetsSeq3
def mO (l b:Lb)(items items2:Array K5)(n n2:Nat)(dd dd2:Option Lb)(sl sl2:Array (Option K5))(ns ms:↑Int)(hi:IntsAre items.toList ns)(hj:IntsAre items2.toList ms):
  Meets (K6.«tuple.__lt__» ([.ref l,.ref b],[]))
   (λJ R s=>s.heap.get? l=some {cls:=.type "tuple",dict:=dd,data:=.seq items n,slots:=sl}/\s.heap.get? b=some {cls:=.type "tuple",dict:=dd2,data:=.seq items2 n2,slots:=sl2}/\
    R (.ok<|.ret<|.bool<|lexLt ns ms) s):=
 .of_wp λprog w A R s h=>by
  let(hp,g,d,tk,os):=s;let(hl,hb,h):=h;have f2:=AutoSeq1.sub_tuple_tuple;have z1:items.size=⇑ns:=by rw[<-⇑hi];simp
  have z2:items2.size=⇑ms:=by rw[<-⇑hj];simp
  wp_walk using wpAny_loadPart' hl,wpAny_loadPart' hb,wpAny_forIn_list _ (λrest b s'=>b.1=none/\s'=(hp,g,d,tk,os)/\∃ (vs ws:↑K5) (ns' ms':↑Int) ,rest=vs.zip ws/\
   IntsAre vs ns'/\IntsAre ws ms'/\⇑ns'+items2.size=⇑ms'+items.size/\R (.ok<|.ret<|.bool<|lexLt ns' ms') (hp,g,d,tk,os)) _
  case turn=>
   rintro⟨y,x⟩ rest b s' ⟨hb',rfl,vs,ws,ns',ms',hz,hvi,hwi,hlen,hR⟩
   cases hvi with
   |nil=>rw[List.zip_nil_left]at hz;cases hz
   |cons a t hvi'=>
    cases hwi with
    |nil=>rw[JN]at hz;cases hz
    |cons c u hwi'=>
     rw[Jp]at hz;injection hz with hyx hrest
     injection hyx with hy hx
     subst hy hx;rw[sO]at hR;simp only[Hf]at hlen;let(e,he,hiff):=zm A.in1 (hp,g,d,tk,os) a t c u
     refine Lj<|he prog w _ _ ?_;cases e with
     |true=>
      rw[bf<|hiff.mp rfl]at hR
      wp_walk
      exact(rfl,rfl,_,_,_,_,hrest,hvi',hwi',∅,hR)
     |false=>
      rw[aZ<|λq=>absurd (hiff.mpr q) Hv]at hR;have hri:=xA A.in1 (hp,g,d,tk,os) a t c u prog w
      wp_walk using hri
      exact(_,rfl,by simpa using hR)
  case fin=>
   rintro⟨b1,b2⟩ s' ⟨hb',rfl,vs,ws,ns',ms',hz,hvi,hwi,hlen,hR⟩
   simp only at hb';subst hb';have hv:lexLt ns' ms'=decide (items.size<items2.size):=by
    cases hvi with
    |nil=>
     cases hwi with
     |nil=>
      simp only[Ig]at hlen;rw[mV];exact (bg ∅).symm
     |cons c u hw=>
      simp only[Ig,Hf]at hlen;rw[lU];exact (bN ∅).symm
    |cons a t hv=>
     cases hwi with
     |nil=>
      simp only[Ig,Hf]at hlen;rw[lV];exact (bg ∅).symm
     |cons c u hw=>
      rw[Jp]at hz;cases hz
   rw[hv]at hR
   wp_walk
   exact(_,rfl,by simpa [K6.Tuple.tupleCompareSizes] using hR)
  case h=>
   exact(rfl,rfl,items.toList,items2.toList,ns,ms,rfl,hi,hj,∅,h)
end
section
variable {prog:K8}{w:K9}{A:Lf}{E:K5->Ld->Prop}{s:Ld}
def lt_tupInts {Q:K5->Ld->Prop}(hl:IsTup s.heap l items)(hb:IsTup s.heap b items2)(hi:IntsAre items.toList ns)(hj:IntsAre items2.toList ms)
  (hu:A.units<Lg)(h:Q (.bool<|lexLt ns ms) s):Lh (Li prog w) A (LK .Lt (.ref l)<|.ref b) Q E s:=by
 let((cls,dd,data,sl),ho,hc,n,hd):=id hl;let((cls2,dd2,data2,sl2),ho2,hc2,n2,hd2):=id hb;simp only at hc hd hc2 hd2;subst hc hd hc2 hd2;exact richCompare_meets_room (op:=.Lt) (_,ho,rfl) (_,ho2,rfl) PySem.F.slot_tuple_lt PySem.F.entry_tuple_lt (PySem.F.args_tuple_lt_2 _ _) (mO l b items items2 n n2 dd dd2 sl sl2 ns ms hi hj)
  (ho,ho2,show K5.bool (lexLt ns ms)≠K5.notImplemented/\Q (.bool<|lexLt ns ms) s from((λx=>nomatch x),h)) hu
def cat_tup {vs ws:↑K5}{Q:K5->Ld->Prop}(ht:IsTup s.heap t vs.toArray)(hb:IsTup s.heap b ws.toArray)(hv:vs≠ [])
  (h1:ws=[]->Q (.ref t) s)(h2:ws≠ []->Q (.ref ↥s) {s with heap:=s.heap.push {cls:=.type "tuple",data:=.seq (vs++ws).toArray}})
  (hsz:⇑vs+⇑ws<=sizeLine):Lh (Li prog w) A (LZ .Add (.ref t)<|.ref b) Q E s:=by
 let((cls,dd,data,sl),ho,hc,n,hd):=id ht;let((cls2,dd2,data2,sl2),ho2,hc2,n2,hd2):=id hb;simp only at hc hd hc2 hd2;subst hc hd hc2 hd2;have e:vs.toArray++ws.toArray=(vs++ws).toArray:=⇑_;by_cases hw:ws=[]
 .exact concat_meets (_,ho,rfl) (_,ho2,rfl) noFill_tuple_add seq_tuple_add PySem.F.slot_tuple_add PySem.F.entry_tuple_add (PySem.F.args_tuple_add_2 _ _)
   (tuple_addW1 t b vs.toArray ws.toArray n n2 dd dd2 sl sl2 (by simpa using hv)<|by simp [hw]) (ho,ho2,h1 hw)
 .refine concat_meets (_,ho,rfl) (_,ho2,rfl) noFill_tuple_add seq_tuple_add PySem.F.slot_tuple_add PySem.F.entry_tuple_add (PySem.F.args_tuple_add_2 _ _)
   (tuple_addW2 t b vs.toArray ws.toArray n n2 dd dd2 sl sl2 (by simpa using hv) (by simpa using hw)<|by rw[Ho,Ho];exact hsz) (ho,ho2,?_)
  rw[e];exact h2 hw
noncomputable def sIx (n d:Nat):Option Int->Nat|none=>d|some v=>if v<0 then (v+(n:Int)).toNat else min v.toNat n
def C8 (n d:Nat)(hd:d<=n)(o:Option Int):sIx n d o<=n:=by
 cases o with
 |none=>exact hd
 |some v=>
  show (if v<0 then (v+(n:Int)).toNat else min v.toNat n)<=n;by_cases hv:v<0;rw[bf hv];omega;rw[aZ hv];exact Nat.min_le_right _ _
def uY (v:Int)(n d:Nat):(if v<0 then max (v+(n:Int)) 0 else min v (n:Int))=((sIx n d `v:Nat):Int):=by
 show (if v<0 then max (v+(n:Int)) 0 else min v (n:Int))=(((if v<0 then (v+(n:Int)).toNat else min v.toNat n):Nat):Int);by_cases hv:v<0;simp only[bf hv];omega;simp only[aZ hv];omega
def tQ (lo hi:Option Int)(n:Nat):K6.Slice.sliceAdjust lo hi 1 (n:Int)=(((sIx n 0 lo:Nat):Int) ,((sIx n n hi:Nat):Int)):=by
 have h1:¬((1:Int)<0):=∅;unfold K6.Slice.sliceAdjust;simp only[h1,if_false];refine Prod.ext ?_ ?_
 .cases lo with|none=>rfl|some v=>exact uY v n 0
 .cases hi with|none=>rfl|some v=>exact uY v n n
def sj (i j:Nat):K6.Slice.slicePlaces (i:Int) (j:Int) 1=j-i:=by unfold K6.Slice.slicePlaces;have h1:(1:Int)>0:=∅;simp only[h1,if_true,Int.ediv_one];split<;>omega
def kY {Q:Option Int->Ld->Prop}(p:IsPart v o)(h:Q o s):Lh (Li prog w) A (K6.Slice.slicePartIndex v) Q E s:=by
 cases p with|none=>exact slicePart_none h|int i t=>exact slicePart_int h
def jR {vl vu:K5}{lo hi:Option Int}{n:Nat}{Q:Int×Int×Nat->Ld->Prop}(hs:s.heap.IsSliceOf sl vl vu .none)(pl:IsPart vl lo)(pu:IsPart vu hi)
  (h:Q (((sIx n 0 lo:Nat):Int) ,1,sIx n n hi-sIx n 0 lo) s):Lh (Li prog w) A (K6.Slice.sliceApplied (.ref sl)<|pure (n:Int)) Q E s:=by
 let(os,hos,hcs,hds):=id hs;unfold K6.Slice.sliceApplied K6.Slice.sliceFields;refine Lj<|Lj<|Mb hos hds (x:=vl) rfl<|Lj<|Mb hos hds (x:=vu) rfl<|Lj<|Mb hos hds (x:=.none) rfl<|Lm ?_;refine Lj<|slicePart_none ?_;show Lh _ _ (if ((1:Int)==0)=true then _ else _) _ _ s;rw[aZ ↥_];refine Lj<|kY pl<|Lj<|kY pu<|Lj<|Lm ?_;show Lh _ _ (match K6.Slice.sliceAdjust lo hi 1 (n:Int) with|(lo ,hi)=>pure (lo ,(1:Int),K6.Slice.slicePlaces lo hi 1)) _ _ s;rw[tQ lo hi n];show Lh _ _ (pure (((sIx n 0 lo:Nat):Int) ,(1:Int),K6.Slice.slicePlaces ((sIx n 0 lo:Nat):Int) ((sIx n n hi:Nat):Int) 1)) _ _ s;rw[sj];exact Lm h
def xI (xs:Array K5)(i k:Nat):((List.range k).filterMap λ(m:Nat)=>xs[((i:Int)+(m:Int)*1).toNat]?).toArray=((xs.toList.drop i).take k).toArray:=by
 have e:(λ(m:Nat)=>xs[((i:Int)+(m:Int)*1).toNat]?)=λm=>xs[i+m]?:=by funext m;have:((i:Int)+(m:Int)*1).toNat=i+m:=∅;rw[this]
 rw[e];have:=pick_run xs i k;rw[List.filterMap_map]at this;have e2:((λx=>xs[x]?)∘λx=>i+x)=λm=>xs[i+m]?:=rfl;rw[e2]at this;rw[this]
def getItem_tuple_cut {vl vu:K5}{lo hi:Option Int}{Q:K5->Ld->Prop}(ht:IsTup s.heap t items)(hs:s.heap.IsSliceOf sl vl vu .none)(pl:IsPart vl lo)(pu:IsPart vu hi)
  (hw:¬(sIx items.size 0 lo=0/\sIx items.size items.size hi=items.size))
  (h:Q (.ref ↥s) {s with heap:=s.heap.push {cls:=.type "tuple",data:=.seq ((items.toList.drop<|sIx items.size 0 lo).take<|sIx items.size items.size hi-sIx items.size 0 lo).toArray}})
  (hsz:items.size<=sizeLine):Lh (Li prog w) A (getItem (.ref t)<|.ref sl) Q E s:=by
 have htake:sizeOk (.seq ((items.toList.drop<|sIx items.size 0 lo).take<|sIx items.size items.size hi-sIx items.size 0 lo).toArray):=by show ((items.toList.drop<|sIx items.size 0 lo).take<|sIx items.size items.size hi-sIx items.size 0 lo).toArray.size<=sizeLine;rw[Ho,H9,Ir,HY];omega
 have hj:sIx items.size items.size hi<=items.size:=C8 _ _ (Hc _) hi;let(os,hos,hcs,hds):=id hs;have hTs:s.TypeIs (.ref sl) "slice":=(os,hos,hcs)
 unfold getItem
 try with_reducible refine Lp ?_
 first|refine Lj (Lm ?_)|skip
 refine Lj<|wpAny_sequenceKey ht.typeIs ↥_ ?_
 refine Lj (wpAny_callSpecial?_slot (name:=Str.ofString "__getitem__") ht.typeIs PyProof.Rows.slot_tuple_getitem
  (Ll PyProof.Rows.slot_tuple_getitem ht.typeIs entry_tuple_getitem ?_<|args_tuple_getitem _ _))
 show Lh _ _ (K6.Tuple.tupleItemsOf (.ref t)>>=_) _ _ s;refine Lj<|tupleItemsOf_ ht ?_;refine Lj<|wpAny_typeOf hTs ?_;rw[bf ↥_];refine Lj<|jR hs pl pu ?_;have hno:¬((((sIx items.size 0 lo:Nat):Int)==0 && (1:Int)==1 && (sIx items.size items.size hi-sIx items.size 0 lo)==items.size)=true):=by intro q;rw[HD,HD]at q;have q1:((sIx items.size 0 lo:Nat):Int)=0:=eq_of_beq q.1.1;have q2:sIx items.size items.size hi-sIx items.size 0 lo=items.size:=eq_of_beq q.2;exact hw (∅,∅)
 show Lh _ _ (if (((sIx items.size 0 lo:Nat):Int)==0 && (1:Int)==1 && (sIx items.size items.size hi-sIx items.size 0 lo)==items.size)=true then _ else _) _ _ s;rw[aZ hno,xI]
 first
  |exact Lj (m:=K6.Tuple.tupleExact _)<|Mc (Lm (_,rfl,Lm h)) htake
  |exact Lj (m:=K6.Tuple.tupleExact _)<|Mc (Lj<|Lm<|Lm (_,rfl,Lm h)) htake
  |exact Lj<|Lj (m:=K6.Tuple.tupleExact _)<|Mc (Lm<|Lm (_,rfl,Lm h)) htake
  |exact Lj<|Lj (m:=K6.Tuple.tupleExact _)<|Mc (Lm (_,rfl,Lm h)) htake
end
end HT
namespace L2
open PySem PySem.Spec PyProof.Rows
abbrev TO:=St->Hp->(Option Int->Hp->Prop)->Prop
def PO (X:Cx)(e:Option Expr)(t:TO):Prop:=
 ∀ (gV:↑(Lb×Le)) (s:Ld) (σ:St) (H:Hp) (Q:Option Int->Hp->Prop),Inv X gV σ H s->t σ H Q->
   Lh (Li X.prog X.w) X.A (evalPart e X.env) (λu s'=>∃o H' ,Inv X gV σ H' s'/\IsPart u o/\Q o H') X.xe s
noncomputable def zZ:TO:=λJ H Q=>Q none H
noncomputable def tPart (t:TE):TO:=λσ H Q=>t σ H λx H1=>∃i,x=.int i/\Q `i H1
section
variable {X:Cx}{e:Expr}{te:TE}{lo hi:Option Expr}{tl th:TO}{pos p2:LF}
def Qk:PO X none zZ:=by intro gV s σ H Q I h;rw[evalPart_none];exact Lm (none,H,I,.none,h)
def oQ (h:PE X e te):PO X `e (tPart te):=by intro gV s σ H Q I hw;rw[evalPart_some];refine thn (h gV s σ H _ I hw) λu s1 qz=>?_;let(x,H1,I1,r1,q1):=qz;let(i,rfl,q):=q1;let(t,rfl):=r1;exact(`i,H1,I1,.int i t,q)
def SlR (X:Cx)(r:V->Option Int->Option Int->Hp->VK->Prop):Prop:=
 ∀ (gV:↑(Lb×Le)) (s:Ld) (σ:St) (H:Hp) (x:V) (v vl vu:K5) (lo hi:Option Int) (sl:Lb) (Q:VK),Inv X gV σ H s->RelV x v->s.heap.IsSliceOf sl vl vu .none->IsPart vl lo->IsPart vu hi->r x lo hi H Q->
   ∃T id,typeLookup (.type T) "__getitem__"=pure (some<|.builtin id)/\s.TypeIs v T/\Lh (Li X.prog X.w) X.A (getItem v<|.ref sl) (EP X gV σ Q) X.xe s
def SlR.or {r r':V->Option Int->Option Int->Hp->VK->Prop}(h:SlR X r)(h':SlR X r'):SlR X (λx lo hi H Q=>r x lo hi H Q\/r' x lo hi H Q):=by
 intro gV s σ H x v vl vu lo hi sl Q I rx hs pl pu q;rcases q with q|q
 exact h gV s σ H x v vl vu lo hi sl Q I rx hs pl pu q;exact h' gV s σ H x v vl vu lo hi sl Q I rx hs pl pu q
noncomputable def tSl (r:V->Option Int->Option Int->Hp->VK->Prop)(te:TE)(tl th:TO):TE:=λσ H Q=>te σ H λx H1=>tl σ H1 λl H2=>th σ H2 λu H3=>r x l u H3 Q
def qh {r:V->Option Int->Option Int->Hp->VK->Prop}(hr:SlR X r)(he:PE X e te)(hl:PO X lo tl)(hu:PO X hi th):PE X (.Subscript e (.Slice lo hi none p2) pos) (tSl r te tl th):=by intro gV s σ H Q I h;refine Subscript_ (thn (he gV s σ H _ I h) λv s1 qz=>?_);let(x,H1,I1,r1,q1):=qz;refine wpAny_Slice (thn (hl gV s1 σ H1 _ I1 q1) λvl s2 (l,H2,I2,pl,q2)=>thn (hu gV s2 σ H2 _ I2 q2) λvu s3 qz=>?_);let(u,H3,I3,pu,q3):=qz;rw[evalPart_none];refine Lm ?_;have I4:Inv X gV σ H3 {s3 with heap:=s3.heap.push {cls:=.type "slice",data:=.fields #[vl,vu,.none]}}:=I3.kept (t':=s3.toks) λb ob q=>He _ q;let(T,id,hT,ht,hg):=hr gV {s3 with heap:=s3.heap.push {cls:=.type "slice",data:=.fields #[vl,vu,.none]}} σ H3 x v vl vu l u ↥s3 Q I4 r1 (La.IsSliceOf.new ..) pl pu q3;show Lh (Li X.prog X.w) X.A (subscriptTail e (.Slice lo hi none p2) v<|.ref ↥s3) (EP X gV σ Q) X.xe {s3 with heap:=s3.heap.push {cls:=.type "slice",data:=.fields #[vl,vu,.none]}};exact tail_any (ops:=[.ref ↥s3,v]) ht hT hg (by with_unfolding_all rfl)
noncomputable def Nu (xs:↑V)(lo hi:Option Int):↑V:=(xs.drop<|HT.sIx ⇑xs 0 lo).take<|HT.sIx ⇑xs ⇑xs hi-HT.sIx ⇑xs 0 lo
def ko (xs:↑V)(lo hi:Option Int):⇑(Nu xs lo hi)<=⇑xs:=by unfold Nu;rw[H9,Ir];omega
def rSlT (K:Zf):V->Option Int->Option Int->Hp->VK->Prop:=λx lo hi H Q=>∃a xs,x=.ref a/\SqT K H a xs/\
 ¬(HT.sIx ⇑xs 0 lo=0/\HT.sIx ⇑xs ⇑xs hi=⇑xs)/\∀p,H p=none->Q (.ref p) (upd H p<|.tup<|Nu xs lo hi)
def Rz:SlR X (rSlT X.K):=by
 intro gV s σ H x v vl vu lo hi sl Q I rx hs pl pu h;let(a,xs,rfl,hx,hw,q):=h;cases rx;let(its,r,ht,hz):=I.tuple hx;have hlen:its.toArray.size=⇑xs:=by rw[Ho];exact r.length.symm
 refine("tuple",_,PyProof.Rows.slot_tuple_getitem.lookup,ht.typeIs,?_);refine HT.getItem_tuple_cut ht hs pl pu (by rw[hlen];exact hw) ?_ (by rw[hlen];exact hz);rw[hlen];refine(.ref ↥s,_,I.laid (t':=s.toks) (o:=.tup<|Nu xs lo hi) (λb ob q=>He _ q) (Hc _) ?_,rfl,q _<|I.hok.fresh<|Hc _);exact(HA (ko xs lo hi) hz,_,(r.drop<|HT.sIx ⇑xs 0 lo).take<|HT.sIx ⇑xs ⇑xs hi-HT.sIx ⇑xs 0 lo,IsTupD.new _ _)
noncomputable def Qw (K:Zf):R2:=λx y H Q=>∃a b xs ys,x=.ref a/\y=.ref b/\SqT K H a xs/\SqT K H b ys/\xs≠ []/\⇑xs+⇑ys<=sizeLine/\
 (ys=[]->Q (.ref a) H)/\(ys≠ []->∀p ,H p=none->Q (.ref p) (upd H p<|.tup<|xs++ys))
def Vals.nil_iff (r:Vals xs us):us=[]↔xs=[]:=by
 cases r with|nil=>simp|cons _ _=>simp
def PR:OpR X (LZ .Add) (Qw X.K):=by intro gV s σ H x y v u Q I rx ry h;let(a,b,xs,ys,rfl,rfl,ha,hb,hx,hz,q1,q2):=h;cases rx;cases ry;let(its,r1,p1,_):=I.tuple ha;let(its2,r2,p2,_):=I.tuple hb;refine HT.cat_tup p1 p2 (λz=>hx<|r1.nil_iff.mp z) (λz=>(.ref a,H,I,rfl,q1<|r2.nil_iff.mp z)) (λz=>?_) (by rw[<-⇑r1,<-⇑r2];exact hz);refine(.ref ↥s,_,I.laid (t':=s.toks) (o:=.tup<|xs++ys) (λb ob q=>He _ q) (Hc _) ?_,rfl,q2 (λw=>z<|r2.nil_iff.mpr w) _<|I.hok.fresh<|Hc _);exact(by rw[Hk];exact hz,_,r1.append r2,IsTupD.new _ _)
end
section
noncomputable def ixN (n:Nat)(i:Int):Option Nat:=if 0<=i then (if i<n then some i.toNat else none) else if -(n:Int)<=i then some (i+n).toNat else none
noncomputable def atI {α:Type}(xs:↑α)(i:Int):Option α:=(ixN ⇑xs i).bind λj=>xs[j]?
def uI {n:Nat}{i:Int}{j:Nat}(h:ixN n i=`j):seqIndex? i n=`j/\j<n/\ -(n:Int)<=i/\i<n:=by
 unfold ixN at h;by_cases h0:0<=i
 .rw[bf h0]at h;by_cases h1:i<n;rw[bf h1]at h;have e:i.toNat=j:=Option.some.inj h;exact(by rw[seqIndex_of h0 h1,e],∅,∅,h1);rw[aZ h1]at h;cases h
 .rw[aZ h0]at h;by_cases h1: -(n:Int)<=i;rw[bf h1]at h;have e:(i+n).toNat=j:=Option.some.inj h;exact(by rw[seqIndex_neg ∅ h1,e],∅,h1,∅);rw[aZ h1]at h;cases h
def pL {α:Type}{xs:↑α}{i:Int}{v:α}(h:atI xs i=`v):∃j,seqIndex? i ⇑xs=`j/\xs[j]?=`v/\j<⇑xs/\ -(⇑xs:Int)<=i/\i<⇑xs:=by
 unfold atI at h;cases e:ixN ⇑xs i with
 |none=>rw[e]at h;cases h
 |some j=>
  rw[e]at h;let(h1,h2,h3,h4):=uI e;exact(j,h1,h,h2,h3,h4)
def jG {α:Type}{xs:↑α}{j:Nat}{v:α}(h:xs[j]?=`v):atI xs (j:Int)=`v:=by
 have hj:j<⇑xs:=(Hm.mp h).1;have e:ixN ⇑xs (j:Int)=`j:=by unfold ixN;rw[bf ∅,bf ∅];simp
 unfold atI;rw[e];exact h
def zN {α:Type}(xs:↑α)(v:α):atI (xs++[v]) (-1)=`v:=by
 have hl:⇑(xs++[v])=⇑xs+1:=⇑_;have e:ixN ⇑(xs++[v]) (-1)=some ⇑xs:=by unfold ixN;rw[hl,aZ ↥_,bf ∅];congr 1;omega
 unfold atI;rw[e];show (xs++[v])[⇑xs]?=`v;simp
def kQ (b:Expr):Prop:=∀o i,subscripted b false o i=operate [o,i] (getItem o i)
def IxR (X:Cx)(r:R2):Prop:=
 ∀ (value slice:Expr) (gV:↑(Lb×Le)) (s:Ld) (σ:St) (H:Hp) (x y:V) (v u:K5) (Q:VK),Inv X gV σ H s->RelV x v->RelV y u->r x y H Q->
   subscripted slice false v u=operate [v,u] (getItem v u)->Lh (Li X.prog X.w) X.A (subscriptTail value slice v u) (EP X gV σ Q) X.xe s
def MtR (X:Cx)(id:String)(r:V->↑V->Hp->VK->Prop):Prop:=
 ∀ (gV:↑(Lb×Le)) (s:Ld) (σ:St) (H:Hp) (x:V) (xs:↑V) (v:K5) (us:↑K5) (Q:VK),Inv X gV σ H s->RelV x v->Vals xs us->r x xs H Q->
   Lh (Li X.prog X.w) X.A (call (.builtin id) (v::us)) (EP X gV σ Q) X.xe s
section
variable {X:Cx}{a b:Expr}{ta tb:TE}{pos:LF}
def IxR.or (h:IxR X r)(h':IxR X r'):IxR X (λx y H Q=>r x y H Q\/r' x y H Q):=by
 intro value slice gV s σ H x y v u Q I rx ry q hs;rcases q with q|q
 exact h value slice gV s σ H x y v u Q I rx ry q hs;exact h' value slice gV s σ H x y v u Q I rx ry q hs
def qi (hr:IxR X r)(ha:PE X a ta)(hb:PE X b tb)(hs:kQ b):PE X (.Subscript a b pos) (tOp r ta tb):=by intro gV s σ H Q I h;exact Subscript_ (Nb ha hb I h λv u s2 x y H2 I2 rx ry q=>hr a b gV s2 σ H2 x y v u Q I2 rx ry q<|hs _ _)
noncomputable def rIxL (K:Zf):R2:=λx y H Q=>∃p xs i v,x=.ref p/\y=.int i/\SqL K H p xs/\atI xs i=`v/\Q v H
noncomputable def rIxT (K:Zf):R2:=λx y H Q=>∃p xs i v,x=.ref p/\y=.int i/\SqT K H p xs/\atI xs i=`v/\Q v H
noncomputable def rIxS:R2:=λx y H Q=>∃z i c,x=.str z/\y=.int i/\⇑z<=sizeLine/\atI z.cps.toList i=`c/\Q (.str ⟨#[c]⟩) H
def Oz:IxR X (rIxL X.K):=by
 intro value slice gV s σ H x y v u Q I rx ry h hs;let(p,xs,i,z,rfl,rfl,hq,he,q):=h;cases rx;let(t,rfl):=ry;let(its,r,pl,hz):=I.list hq;let(j,h1,h2,h3,h4,h5):=pL he;let(w,ew,rw'):=r.get h2;have hl:=⇑r;have hn:=g9;have fin:EP X gV σ Q w s:=(z,H,I,rw',q)
 by_cases h0:0<=i
 .have hj:i.toNat=j:=by rw[seqIndex_of h0 h5]at h1;exact Option.some.inj h1
  exact item_listR pl.isList h0 ∅ (by rw[hj];simpa using ew) fin hs
 .have hj:(i+(its.toArray.size:Int)).toNat=j:=by rw[seqIndex_neg ∅ h4]at h1;rw[Ho,<-hl];exact Option.some.inj h1
  exact subscriptTail_builtinR (x:=w) pl.isList.typeIs slot_list_getitem.lookup
   (wpAny_getItem_list_neg (Q:=λr s'=>r=w/\EP X gV σ Q r s') pl.isList ∅ (by rw[Ho]<;>omega) ∅ (by rw[hj];simpa using ew) (rfl,fin)) hs
def OB:IxR X (rIxT X.K):=by
 intro value slice gV s σ H x y v u Q I rx ry h hs;let(p,xs,i,z,rfl,rfl,hq,he,q):=h;cases rx;let(t,rfl):=ry;let(its,r,pl,hz):=I.tuple hq;let(j,h1,h2,h3,h4,h5):=pL he;let(w,ew,rw'):=r.get h2;have hl:=⇑r;have hn:=g9;have fin:EP X gV σ Q w s:=(z,H,I,rw',q)
 exact subscriptTail_builtinR (x:=w) pl.typeIs slot_tuple_getitem.lookup
  (getItem_tuple (j:=j) (Q:=λr s'=>r=w/\EP X gV σ Q r s') pl ∅ ∅ (by rw[Ho,<-hl];exact h1) (by simpa using ew) (rfl,fin)) hs
def o7:IxR X rIxS:=by
 intro value slice gV s σ H x y v u Q I rx ry h hs;let(z,i,c,rfl,rfl,hz,he,q):=h;let(t,rfl):=rx;let(t',rfl):=ry;let(j,h1,h2,h3,h4,h5):=pL he;have hl:⇑z.cps.toList=⇑z:=by simp [Str.length]
 rw[hl]at h1 h4 h5;have hn:=g9
 exact tail_any (Md s z t) slot_str_getitem.lookup (getItem_str (c:=c) (by
  have e1:decide (i< -(2^63:Int))=false:=bg ∅;have e2:decide (i≥2^63)=false:=bg ∅
  rw[e1,e2,Bool.or_false]) (by rw[h1];simpa using h2) (.str ⟨#[c]⟩,H,I.tok _,(_,rfl),q)) hs
noncomputable def rIx (K:Zf):R2:=λx y H Q=>rIxL K x y H Q\/rIxT K x y H Q\/rIxS x y H Q
def OA:IxR X (rIx X.K):=Oz.or<|OB.or o7
def sK (its:↑K5)(n j:Nat)(u:K5):Le.mapSeq (·.setIfInBounds j u) {cls:=.type "list",data:=.seq its.toArray n}={cls:=.type "list",data:=.seq (its.set j u).toArray n}:=by simp [Le.mapSeq]
theorem Inv.lst (I:Inv X gV σ H s)(h:H p=some (.lst xs)):
  ∃ (its:↑K5) (n:Nat),Vals xs its/\s.heap.get? p=some {cls:=.type "list",data:=.seq its.toArray n}/\⇑xs<=sizeLine:=by
 let(z,its,n,r,e):=I.hok p _ h;exact(its,n,r,e,z)
def Inv.lstUpd {gV:↑(Lb×Le)}{σ:St}{H:Hp}{s:Ld}{p:Lb}{xs ys:↑V}{its its':↑K5}{n n':Nat}{f:Le->Le}(I:Inv X gV σ H s)(h:H p=some (.lst xs))
  (ho:s.heap.get? p=some {cls:=.type "list",data:=.seq its.toArray n})(hf:f {cls:=.type "list",data:=.seq its.toArray n}={cls:=.type "list",data:=.seq its'.toArray n'})(r:Vals ys its')(hz:⇑ys<=sizeLine)(t:Nat):
  Inv X gV σ (upd H p<|.lst ys) {s with heap:=s.heap.update p f,toks:=t}:=by
 have e:(s.heap.update p f).get? p=some {cls:=.type "list",data:=.seq its'.toArray n'}:=by rw[Ky f ho (by rw[hf]<;>rfl),hf]
 refine I.write (x:=p) (e:=p) (by rw[h];trivial) (.inl rfl) (λb u hb q=>(Kz _ _<|Ne.symm hb).trans q) (_,e) ?_;exact(hz,its',n',r,e)
def rSetL:V->V->V->Hp->(Hp->Prop)->Prop:=λo i v H Q=>∃p xs k j,o=.ref p/\i=.int k/\H p=some (.lst xs)/\ixN ⇑xs k=`j/\Q (upd H p<|.lst<|xs.set j v)
def Rn:PSet X rSetL:=by
 intro gV s σ H o i v ov iv u Q I ro ri rv h;let(p,xs,k,j,rfl,rfl,hp,hj,q):=h;cases ro;let(t,rfl):=ri;let(its,n,r,ho,hz):=I.lst hp;let(h1,h2,h3,h4):=uI hj;have hl:=⇑r;have hn:=g9;have I':Inv X gV σ (upd H p<|.lst<|xs.set j v) {s with heap:=s.heap.update p (Le.mapSeq (·.setIfInBounds j u))}:=
  I.lstUpd hp ho (sK its n j u) (r.set rv j) (by rw[HP];exact hz) s.toks
 by_cases h0:0<=k
 .have hk:k.toNat=j:=by rw[seqIndex_of h0 h4]at h1;exact Option.some.inj h1
  exact PySem.W.ki_setAt ho h0 ∅ (by rw[Ho,<-hl];exact h4) (by rw[hk];exact(_,I',q))
 .have hk:(k+(its.toArray.size:Int)).toNat=j:=by rw[seqIndex_neg ∅ h3]at h1;rw[Ho,<-hl];exact Option.some.inj h1
  exact PySem.W.ki_setBack ho ∅ (by rw[Ho,<-hl];exact h3) ∅ (by rw[hk];exact(_,I',q))
def oB (lo hi:Option Int)(n:Nat):(Me lo hi none n).1=((HT.sIx n 0 lo:Nat):Int)/\(Me lo hi none n).2.1=((HT.sIx n n hi:Nat):Int)/\(Me lo hi none n).2.2=1:=by
 refine(?_,?_,rfl)
 .cases lo with
  |none=>simp [Me,HT.sIx]
  |some i=>
   simp only[Me,HT.sIx,JY,show (1:Int)>0 by decide,if_true];by_cases h:i<0;simp only[h,if_true]<;>omega;simp only[h,if_false]<;>omega
 .cases hi with
  |none=>simp [Me,HT.sIx]
  |some i=>
   simp only[Me,HT.sIx,JY,show (1:Int)>0 by decide,if_true];by_cases h:i<0;simp only[h,if_true]<;>omega;simp only[h,if_false]<;>omega
def mP (its:↑K5)(lo hi:Option Int):slicePick its.toArray lo hi none=((its.drop<|HT.sIx ⇑its 0 lo).take<|HT.sIx ⇑its ⇑its hi-HT.sIx ⇑its 0 lo).toArray:=by let(h1,h2,h3):=oB lo hi its.toArray.size;unfold slicePick;rw[h1,h2,h3];simp only[sliceRange_one,pick_run,Ho]<;>rfl
def rSlL (K:Zf):V->Option Int->Option Int->Hp->VK->Prop:=λx lo hi H Q=>∃a xs,x=.ref a/\SqL K H a xs/\∀p,H p=none->Q (.ref p) (upd H p<|.lst<|Nu xs lo hi)
def Ac:SlR X (rSlL X.K):=by intro gV s σ H x v vl vu lo hi sl Q I rx hs pl pu h;let(a,xs,rfl,hx,q):=h;cases rx;let(its,r,ht,hz):=I.list hx;have hlen:=⇑r;refine("list",_,slot_list_getitem.lookup,ht.isList.typeIs,?_);refine wpAny_getItem_list_slice ht.isList hs pl pu .none ⇑_ ?_ (by rw[Ho]<;>omega);rw[mP,<-hlen];refine(.ref ↥s,_,I.laid (t':=s.toks) (o:=.lst<|Nu xs lo hi) (λb ob q=>He _ q) (Hc _) ?_,rfl,q _<|I.hok.fresh<|Hc _);exact(HA (ko xs lo hi) hz,_,0,(r.drop<|HT.sIx ⇑xs 0 lo).take<|HT.sIx ⇑xs ⇑xs hi-HT.sIx ⇑xs 0 lo,Hu _ rfl)
noncomputable def NS:V->Bool|.non=>true|.bl _=>true|.int _=>true|.str _=>true|_=>false
noncomputable def eqV:V->V->Bool|.non,.non=>true|.bl a,.bl b=>a==b|.bl a,.int b=>(if a then 1 else 0)==b|.int a,.bl b=>a==(if b then 1 else 0)|.int a,.int b=>a==b|.str a,.str b=>a==b|_,_=>false
def eVs (a b:Str):eqV (.str a) (.str b)=(a==b):=rfl
def eVi (a b:Int):eqV (.int a) (.int b)=(a==b):=rfl
def EN (ry:RelV y u)(rx:RelV x v)(fy:NS y=true)(fx:NS x=true):SeqAt.EqAt A s u v (eqV y x):=by
 cases y with
 |non=>
  cases ry;cases x with|non=>cases rx;exact SeqAt.EqAt.same _|bl b=>cases rx;exact SeqAt.EqAt.none_bool b|int b=>let(t,rfl):=rx;exact SeqAt.EqAt.none_int b t|str b=>let(t,rfl):=rx;exact SeqAt.EqAt.none_str b t|_=>exact absurd (show false=true from fx) Hv
 |bl a=>
  cases ry;cases x with|non=>cases rx;exact SeqAt.EqAt.bool_none a|bl b=>cases rx;exact SeqAt.EqAt.bool_bool a b|int b=>let(t,rfl):=rx;exact SeqAt.EqAt.bool_int a b t|str b=>let(t,rfl):=rx;exact SeqAt.EqAt.bool_str a b t|_=>exact absurd (show false=true from fx) Hv
 |int a=>
  let(t',rfl):=ry;cases x with|non=>cases rx;exact SeqAt.EqAt.int_none a t'|bl b=>cases rx;exact SeqAt.EqAt.int_bool a t' b|int b=>let(t,rfl):=rx;exact SeqAt.EqAt.int_int a t' b t|str b=>let(t,rfl):=rx;exact SeqAt.EqAt.int_str a t' b t|_=>exact absurd (show false=true from fx) Hv
 |str a=>
  let(t',rfl):=ry;cases x with|non=>cases rx;exact SeqAt.EqAt.str_none a t'|bl b=>cases rx;exact SeqAt.EqAt.str_bool a t' b|int b=>let(t,rfl):=rx;exact SeqAt.EqAt.str_int a t' b t|str b=>let(t,rfl):=rx;exact SeqAt.EqAt.str_str a t' b t|_=>exact absurd (show false=true from fx) Hv
 |_=>exact absurd (show false=true from fy) Hv
noncomputable def eqU (x:V)(u:K5):Bool:=match u with|.none=>eqV .non x|.bool b=>eqV (.bl b) x|.int i _=>eqV (.int i) x|.str z _=>eqV (.str z) x|_=>false
def s9 (r:RelV y u)(f:NS y=true):eqU x u=eqV y x:=by
 cases y with|non=>cases r;rfl|bl b=>cases r;rfl|int i=>let(t,rfl):=r;rfl|str z=>let(t,rfl):=r;rfl|_=>exact absurd (show false=true from f) Hv
theorem jH :∀ {xs:↑V}{us:↑K5},Vals xs us->xs.all NS=true->us.any (eqU x)=xs.any λy=>eqV y x|_,_,.nil,_=>rfl|y::xs,u::us,.cons r t,f=>by rw[Je,HD]at f;rw[IJ,IJ,s9 r f.1,jH t f.2]
theorem fu (rx:RelV x v)(fx:NS x=true):∀ {xs:↑V}{us:↑K5},Vals xs us->xs.all NS=true->∀u∈us,SeqAt.EqAt A s u v (eqU x u)
 |_,_,.nil,_=>λu hu=>by cases hu
 |y::xs,u::us,.cons r t,f=>λu' hu=>by
  rw[Je,HD]at f;rcases Hd.mp hu with rfl|hu
  rw[s9 r f.1];exact EN r rx f.1 fx;exact fu rx fx t f.2 u' hu
noncomputable def inV (x:V)(xs:↑V):Bool:=xs.any λy=>eqV y x
noncomputable def rIn (K:Zf)(neg:Bool):R2:=λx y H Q=>∃p xs,y=.ref p/\(SqL K H p xs\/SqT K H p xs)/\NS x=true/\xs.all NS=true/\Q (.bl<|if neg then !inV x xs else inV x xs) H
def PV:OpR X (LK .In) (rIn X.K false):=by
 intro gV s σ H x y v u Q I rx ry h;let(p,xs,rfl,hq,fx,fs,q):=h;cases ry;rcases hq with hq|hq
 let(its,r,pl,hz):=I.list hq;refine SeqAt.in_listAt (eqU x) pl.isList (λw hw=>fu rx fx r fs w<|by simpa using hw) (.bl _,H,I,rfl,?_);rw[show its.toArray.any (eqU x)=its.any (eqU x) by simp,jH r fs];exact q;let(its,r,pl,hz):=I.tuple hq;refine SeqAt.in_tupleAt (eqU x) pl (λw hw=>fu rx fx r fs w<|by simpa using hw) (.bl _,H,I,rfl,?_);rw[show its.toArray.any (eqU x)=its.any (eqU x) by simp,jH r fs];exact q
def P1:OpR X (LK .NotIn) (rIn X.K true):=by
 intro gV s σ H x y v u Q I rx ry h;let(p,xs,rfl,hq,fx,fs,q):=h;cases ry;rcases hq with hq|hq
 let(its,r,pl,hz):=I.list hq;refine SeqAt.notIn_listAt (eqU x) pl.isList (λw hw=>fu rx fx r fs w<|by simpa using hw) (.bl _,H,I,rfl,?_);rw[show its.toArray.any (eqU x)=its.any (eqU x) by simp,jH r fs];exact q;let(its,r,pl,hz):=I.tuple hq;refine SeqAt.notIn_tupleAt (eqU x) pl (λw hw=>fu rx fx r fs w<|by simpa using hw) (.bl _,H,I,rfl,?_);rw[show its.toArray.any (eqU x)=its.any (eqU x) by simp,jH r fs];exact q
def P2:OpR X (LK .NotIn) (λx y H Q=>∃i j ,x=.str i/\y=.str j/\Q (.bl<|!(!(K6.Str.occurrences j i 0 ⇑j 1).isEmpty)) H):=by intro gV s σ H x y v u Q I rx ry h;let(i,j,rfl,rfl,q):=h;let(t,rfl):=rx;let(t',rfl):=ry;exact notIn_str (.bl _,H,I,rfl,q)
def pJ:CallR X (.builtin "len") (λxs H Q=>∃p ys ,xs=[.ref p]/\(SqL X.K H p ys\/SqT X.K H p ys)/\Q (.int ⇑ys) H):=by
 intro gV s σ H xs us Q I r h;let(p,ys,rfl,hq,q):=h;let(u,rfl,rx):=Sk r;cases rx;have hn:=g9;rcases hq with hq|hq
 let(its,r',pl,hz):=I.list hq;have hlen:=⇑r';exact Calls.call_len_list pl.isList (by simp only[Ho]<;>omega) (.int ⇑ys,H,I.tok _,(s.toks+1,by rw[Ho,hlen]),q);let(its,r',pl,hz):=I.tuple hq;have hlen:=⇑r';exact len_tuple pl (by simp only[Ho]<;>omega) (.int ⇑ys,H,I.tok _,(s.toks+1,by rw[Ho,hlen]),q)
def Nj:CallR X (.builtin "len") (λxs H Q=>∃z ,xs=[.str z]/\⇑z<=sizeLine/\Q (.int ⇑z) H):=by intro gV s σ H xs us Q I r h;let(z,rfl,hz,q):=h;let(u,rfl,t,rfl):=Sk r;have hn:=g9;exact len_str ∅ (.int ⇑z,H,I.tok _,(_,rfl),q)
def CallR.or {r r':↑V->Hp->VK->Prop}(h:CallR X f r)(h':CallR X f r'):CallR X f (λxs H Q=>r xs H Q\/r' xs H Q):=by
 intro gV s σ H xs us Q I rs q;rcases q with q|q
 exact h gV s σ H xs us Q I rs q;exact h' gV s σ H xs us Q I rs q
def pI:CallR X (.type "list") (λxs H Q=>∃p ys ,xs=[.ref p]/\(SqL X.K H p ys\/SqT X.K H p ys)/\∀l,H l=none->Q (.ref l) (upd H l<|.lst ys)):=by
 intro gV s σ H xs us Q I r h;let(p,ys,rfl,hq,q):=h;let(u,rfl,rx):=Sk r;cases rx;have fin:∀ (its:↑K5),Vals ys its->⇑ys<=sizeLine->∀ (h':La) (c':Nat),(∀b o' ,s.heap.get? b=`o'->h'.get? b=`o')->
   h'.get? ↥s=some {cls:=.type "list",dict:=none,data:=.seq its.toArray c',slots:= #[]}->EP X gV σ Q (.ref ↥s) {s with heap:=h'}:=λits r' hz h' c' kp e=>
  (.ref ↥s,_,I.laid (t':=s.toks) kp (Hc _) (show ObjOk X.prog X.w _ h' _ (.lst ys) from(hz,its,c',r',e)),rfl,q _<|I.hok.fresh<|Hc _)
 rcases hq with hq|hq
 let(its,r',pl,hz):=I.list hq;have hlen:=⇑r';let(o,ho,hc,n,hd):=pl.isList;exact call_list_seq p (.inl rfl) ho hc hd (λh' c' kp e=>fin its r' hz h' c' kp e) (by simp only[Ho]<;>omega);let(its,r',pl,hz):=I.tuple hq;have hlen:=⇑r';let(o,ho,hc,n,hd):=pl;exact call_list_seq p (.inr rfl) ho hc hd (λh' c' kp e=>fin its r' hz h' c' kp e) (by simp only[Ho]<;>omega)
def mX:CallR X (.type "tuple") (λxs H Q=>∃p ys ,xs=[.ref p]/\((SqL X.K H p ys/\∀l ,H l=none->Q (.ref l) (upd H l<|.tup ys))\/(SqT X.K H p ys/\Q (.ref p) H))):=by
 intro gV s σ H xs us Q I r h;let(p,ys,rfl,h):=h;let(u,rfl,rx):=Sk r;cases rx;rcases h with⟨hq,q⟩|⟨hq,q⟩
 .let(its,r',pl,hz):=I.list hq;have hlen:=⇑r';refine call_tuple_list pl.isList (λh' kp=>?_) (by simp only[Ho]<;>omega);have I1:Inv X gV σ H {s with heap:=h'}:=I.kept (t':=s.toks) kp;have I2:Inv X gV σ (upd H h'.objs.size<|.tup ys) {s with heap:=h'.push {cls:=.type "tuple",data:=.seq its.toArray}}:=
   I1.laid (t':=s.toks) (λb o e=>He _ e) (Hc _) (show ObjOk X.prog X.w _ _ _ (.tup ys) from(hz,its,r',IsTupD.new _ _))
  exact(.ref h'.objs.size,_,I2,rfl,q _<|I1.hok.fresh<|Hc _)
 let(its,r',pl,hz):=I.tuple hq;exact call_tuple_same pl (.ref p,H,I,rfl,q)
def tyV (K:Zf)(T:String)(x:V)(H:Hp):Prop:=match x with
 |.str _=>T="str"
 |.int _=>T="int"
 |.ref p=>(T="list"/\∃xs ,SqL K H p xs)\/(T="tuple"/\∃o ,K.lookup p=`o/\o.cls=.type "tuple"/\o.dict=none)\/
  (T="dict"/\((∃kvs ,H p=some (.dK kvs))\/ ∃kvs ,H p=some (.dT kvs)))\/(T="set"/\∃S n ,H p=some (.set S n))
 |_=>False
def Cv (I:Inv X gV σ H s)(r:RelV x v)(ty:tyV X.K T x H):
  s.TypeIs v T/\∀a,v=.ref a->∃ob,s.heap.get? a=`ob/\ob.dict=none:=by
 cases x with
 |str z=>
  let(t,rfl):=r;cases (show T="str" from ty);exact(Md s z t,λJ e=>nomatch e)
 |int i=>
  let(t,rfl):=r;cases (show T="int" from ty);exact(typeIs_int s i t,λJ e=>nomatch e)
 |ref p=>
  cases r;rcases ty with⟨rfl,xs,hq⟩|⟨rfl,o,hk,hc,hd⟩|⟨rfl,hk⟩|⟨rfl,S,n,hk⟩
  let(its,_,pl,_):=I.list hq;refine(pl.isList.typeIs,λa e=>?_);cases e;let(o,n,e,c,hd,_):=pl;exact(o,e,hd);refine((o,I.kIn p o hk,hc),λa e=>?_);cases e;exact(o,I.kIn _ o hk,hd)
  .have z:∃o,s.heap.get? p=`o/\o.ExactDict:=by
    rcases hk with⟨kvs,hk⟩|⟨kvs,hk⟩
    let(_,_,_,_,o,_,_,e,ex,_):=I.hok p _ hk;exact(o,e,ex);let(_,_,_,_,o,_,_,e,ex,_):=I.hok p _ hk;exact(o,e,ex)
   let(o,e,ex):=z;refine((o,e,ex.1),λa e2=>?_);cases e2;exact(o,e,ex.2.1)
  let(o,_,_,_,e,ex,_):=I.hok p _ hk;refine((o,e,ex.1),λa e2=>?_);cases e2;exact(o,e,ex.2.1)
 |_=>exact False.elim ty
noncomputable def tBM (K:Zf)(T:String)(r:V->↑V->Hp->VK->Prop)(to:TE)(t:TA):TE:=λσ H Q=>to σ H λx H1=>tyV K T x H1/\t σ H1 λxs H2=>r x xs H2 Q
variable {o e:Expr}{es:↑Expr}{to:TE}{t:TA}{name:Str}{apos cpos:LF}{T id:String}{r:V->↑V->Hp->VK->Prop}
def uu (pa:PlainAttrs T)(slot:Slot T name id)(hty:typeOf (.builtin id)=pure (.type "method_descriptor"))(hm:MtR X id r)(ho:PE X o to)(ha:PA X (e::es) t)
  (hbase:L1 o name X.env (LD o X.env)=LD o X.env)
  (hfew:((LG cpos<|LH (e::es) X.env).all (λx=>!x.1)&&(L3 cpos<|L4 [] X.env).all (λx=>x.1.isSome)
   && decide (⇑(e::es)+⇑([]:↑L8)+(if ([]:↑L8).isEmpty then 0 else 1)<30))=true)
  (hline:(apos.endLine==cpos.line)=true)(hs:LH (e::es) X.env=(false ,LD e X.env)::LH es X.env)(hplain:(LG cpos<|LH es X.env).any (·.1)=false):
  PE X (.Call (.Attribute o name apos) (e::es) [] cpos) (tBM X.K T r to t):=by
 intro gV s σ H Q I h;refine wpAny_Call_method_late hbase hfew hline rfl (thn (ho gV s σ H _ I h) λv s1 qz=>?_);let(x,H1,I1,r1,ty,q1):=qz;let(h1,h2):=Cv I1 r1 ty;refine(T,id,pa,slot,hty,h1,h2,?_);have hA:=ha cpos gV s1 σ H1 _ I1 q1;rw[hs]at hA ⊢;refine Calls.callWith_builtin (by show (false||(LG cpos<|LH es X.env).any (·.1))=false;rw[hplain]<;>rfl)<|Calls.evalArgs_plain ?_;exact thn hA λus s2 (vs,H2,I2,r2,q2)=>hm gV s2 σ H2 x vs v us Q I2 r1 r2 q2
end
end
section
def MtM (X:Cx)(id:String)(r:V->↑V->Hp->VK->Prop):Prop:=
 ∀ (gV:↑(Lb×Le)) (s:Ld) (σ:St) (H:Hp) (x:V) (xs:↑V) (v:K5) (us:↑K5) (Q:VK),Inv X gV σ H s->RelV x v->Vals xs us->r x xs H Q->
   Lh (Li X.prog X.w) X.A (call (.builtin id) (v::us)) (EP X gV σ Q) X.xe s
def Vals.one:∀ {x:V}{us:↑K5},Vals [x] us->∃u,us=[u]/\RelV x u
 :=by
 intro x us h;cases h with|cons r q=>cases q;exact(_,rfl,r)
def Vals.two:∀ {x y:V}{us:↑K5},Vals [x,y] us->∃u v,us=[u,v]/\RelV x u/\RelV y v
 :=by
 intro x y us h;cases h with
 |cons r q=>
  cases q with|cons q z=>cases z;exact(_,_,rfl,r,q)
theorem Vals.reverse (h:Vals xs us):Vals xs.reverse us.reverse:=by
 induction h with|nil=>exact .nil|cons r t ih=>rw[Jr,Jr];exact Vals.append ih<|.cons r .nil
theorem Vals.rep (h:Vals xs us):∀k:Nat,Vals (List.replicate k xs).flatten (List.replicate k us).flatten|0=>.nil|k+1=>by rw[IK,IK,IS,IS];exact Vals.append h<|Vals.rep h k
theorem nX (its:↑K5):∀ (k:Nat) (acc:↑K5),
  Js (λx1 x2=>x1++x2) acc.toArray (List.replicate k its.toArray)=(acc++(List.replicate k its).flatten).toArray
 |0,acc=>⇑_
 |k+1,acc=>by
  have e:acc.toArray++its.toArray=(acc++its).toArray:=⇑_;have e2:(acc++its)++(List.replicate k its).flatten=acc++(List.replicate (k+1) its).flatten:=by rw[IK,IS,HF]
  rw[<-e2,<-nX its k (acc++its),<-e,IK,IT]
section
variable {X:Cx}{gV:↑(Lb×Le)}{σ:St}{H:Hp}{s:Ld}{l:Lb}{xs ys:↑V}
def Inv.lset {its its':↑K5}{n:Nat}{f:Array K5->Array K5}{t':Nat}(I:Inv X gV σ H s)(hH:H l=some (.lst xs))
  (e:s.heap.get? l=some {cls:=.type "list",data:=.seq its.toArray n})(hf:f its.toArray=its'.toArray)(hv:Vals ys its')(hz:⇑ys<=sizeLine):
  Inv X gV σ (upd H l<|.lst ys) {s with heap:=s.heap.update l<|Le.mapSeq f,toks:=t'}:=by
 have q:=PySem.IsL.update e f;rw[hf]at q;refine I.write (x:=l) (e:=l) (by rw[hH];exact trivial) (.inl rfl) (λb' u hb hu=>(Kz s.heap (Le.mapSeq f)<|Ne.symm hb).trans hu) (_,q) ?_;exact(hz,its',_,hv,q)
def Inv.lnew {t':Nat}(I:Inv X gV σ H s)(hv:Vals ys its)(hz:⇑ys<=sizeLine):
  Inv X gV σ (upd H ↥s (.lst ys)) {s with heap:=s.heap.push {cls:=.type "list",data:=.seq its.toArray},toks:=t'}:=
 I.laid (λJ J q=>He _ q) (Hc _) (hz,its,0,hv,Hu _ rfl)
theorem Inv.fresh (I:Inv X gV σ H s):H ↥s=none:=I.hok.fresh<|Hc _
def Inv.lstM (I:Inv X gV σ H s)(hH:H l=some (.lst xs)):⇑xs<=sizeLine/\∃ (its:↑K5) (n:Nat),Vals xs its/\⇑xs=⇑its/\s.heap.get? l=some {cls:=.type "list",data:=.seq its.toArray n}:=by let(z,its,n,r,e):=I.hok l _ hH;exact(z,its,n,r,⇑r,e)
def qy {n:Nat}(h:n<=sizeLine):K6.List.listTooLong n=false:=by unfold K6.List.listTooLong;exact bg ∅
end
section
variable {X:Cx}
def Aq:V->↑V->Hp->VK->Prop:=λx vs H Q=>∃l xs y,x=.ref l/\vs=[y]/\H l=some (.lst xs)/\⇑xs<sizeLine/\Q .non (upd H l<|.lst<|xs++[y])
def vU:MtM X "list.append" Aq:=by intro gV s σ H x vs v us Q I rx rv h;let(l,xs,y,rfl,rfl,hH,hz,q):=h;cases rx;let(u,rfl,ru):=rv.one;let(z,its,n,r,hl,e):=I.lstM hH;refine Mh F.slot_list_append (_,e,rfl) F.entry_list_append (F.args_list_append_2 _ _) (PySem.list_append l its.toArray n u<|by rw[Ho];omega) (e,?_);refine(.non,_,I.lset (its':=its++[u]) hH e ⇑_ (r.append<|.cons ru .nil) ?_,rfl,q);rw[Hk,HI];omega
def Ap:V->↑V->Hp->VK->Prop:=λx vs H Q=>∃l b xs zs,x=.ref l/\vs=[.ref b]/\H l=some (.lst xs)/\H b=some (.lst zs)/\⇑xs+⇑zs<=sizeLine/\Q .non (upd H l<|.lst<|xs++zs)
def Fb:MtM X "list.extend" Ap:=by
 intro gV s σ H x vs v us Q I rx rv h;let(l,b,xs,zs,rfl,rfl,hH,hB,hz,q):=h;cases rx;let(u,rfl,ru):=rv.one;cases ru;let(z,its,n,r,hl,e):=I.lstM hH;let(z2,its2,n2,r2,hl2,e2):=I.lstM hB;have hsz:its.toArray.size+its2.toArray.size<=sizeLine:=by rw[Ho,Ho];omega
 have hlong:¬(!its.toArray.isEmpty && K6.List.listTooLong (its.toArray.size+its2.toArray.size))=true:=by rw[qy hsz,Bool.and_false];exact Hv
 refine Mh F.slot_list_extend (_,e,rfl) F.entry_list_extend (F.args_list_extend_2 _ _)
  (AutoSeq1.list_extend_list_list_0 l its.toArray n b its2.toArray n2 hlong (by rw[Ho];omega) ∅) (e,e2,?_)
 refine(.non,_,I.lset (its':=its++its2) hH e ⇑_ (r.append r2) ?_,rfl,q);rw[Hk];omega
noncomputable def rCat:R2:=λx y H Q=>∃l b xs zs,x=.ref l/\y=.ref b/\H l=some (.lst xs)/\H b=some (.lst zs)/\⇑xs+⇑zs<=sizeLine/\∀p,H p=none->Q (.ref p) (upd H p<|.lst<|xs++zs)
def xY:OpR X (LZ .Add) rCat:=by intro gV s σ H x y v u Q I rx ry h;let(l,b,xs,zs,rfl,rfl,hH,hB,hz,q):=h;cases rx;cases ry;let(z,its,n,r,hl,e):=I.lstM hH;let(z2,its2,n2,r2,hl2,e2):=I.lstM hB;refine PySem.P.add_list e e2 ?_ (by rw[Ho,Ho];omega);have ea:its.toArray++its2.toArray=(its++its2).toArray:=⇑_;rw[ea];exact(.ref _,_,I.lnew (t':=s.toks) (r.append r2) (by rw[Hk];omega),rfl,q _ I.fresh)
noncomputable def rRep:R2:=λx y H Q=>∃l k xs,x=.ref l/\y=.int k/\H l=some (.lst xs)/\ -(2^63)<=k/\k<2^63/\⇑xs*k.toNat<=sizeLine/\
 ∀p,H p=none->Q (.ref p) (upd H p<|.lst (List.replicate k.toNat xs).flatten)
def Bk {α:Type}(xs:↑α)(k:Nat):(List.replicate k xs).flatten.length=k*⇑xs:=by
 induction k with|zero=>simp|succ k ih=>rw[IK,IS,Hk,ih,Nat.succ_mul,Ja]
def DA:OpR X (LZ .Mult) rRep:=by
 intro gV s σ H x y v u Q I rx ry h;let(l,k,xs,rfl,rfl,hH,h1,h2,hz,q):=h;cases rx;let(t,rfl):=ry;let(z,its,n,r,hl,e):=I.lstM hH;have hlen:its.toArray.size*k.toNat<=sizeLine:=by rw[Ho,<-hl];exact hz
 have hcap:¬its.toArray.size*k.toNat>(2^63-1) / 8:=by have:(sizeLine:Nat)<=(2^63-1) / 8:=↥_;omega
 have hfit:¬(!K6.List.listFitsIndex k)=true:=by rw[fitsIndex_both h1 h2];exact Hv
 have hlong:¬K6.List.listTooLong (its.toArray.size*k.toNat)=true:=by rw[qy hlen];exact Hv
 have hnew:Js (λx1 x2=>x1++x2) #[] (List.replicate (if its.toArray.isEmpty=true then 0 else k.toNat) its.toArray)=(List.replicate k.toNat its).flatten.toArray:=by
  have f0:∀m:Nat,Js (λx1 x2=>x1++x2) #[] (List.replicate m its.toArray)=(List.replicate m its).flatten.toArray:=λm=>by have:=nX its m [];rw[HS]at this;exact this
  rw[f0];cases its with|nil=>simp|cons a r'=>rw[aZ ⇑_]
 refine wpAny_binaryOp_repeat_ref (T:="list") (U:="int") ↥_ (_,e,rfl) (λs'=>typeIs_int s' k t) noFill_list_mul F.fills_int_mul F.slot_int_rmul repeat_list F.slot_int_index.lookup
  (Mh F.slot_int_rmul (typeIs_int s k t) F.entry_int_rmul (F.args_int_rmul_2 _ _) (int___rmul___int_list k t l its.toArray n)
   (e,rfl,(_,e,rfl),Mh F.slot_list_mul (_,e,rfl) F.entry_list_mul (F.args_list_mul_2 _ _) (AutoListH.list___mul___list_int_3 l its.toArray n k t hfit hcap hlong) (e,?_)))
 rw[hnew];exact(.ref _,_,I.lnew (t':=s.toks) (r.rep k.toNat) (by rw[Bk,Nat.mul_comm];exact hz),rfl,q _ I.fresh)
end
end
section
section
variable {κ:Type} [DecidableEq κ]
noncomputable def Sj (kvs:↑(κ×V))(k:κ):Option V:=(kvs.find? λkv=>decide<|kv.1=k).map (·.2)
noncomputable def Qs (kvs:↑(κ×V))(k:κ)(v:V):↑(κ×V):=
 if (kvs.any λkv=>decide<|kv.1=k)=true then kvs.map (λkv=>if kv.1=k then (kv.1 ,v) else kv) else kvs++[(k ,v)]
def i7 {p:κ×V}{r:↑(κ×V)}{k:κ}(e:p.1=k):Sj (p::r) k=some p.2:=by simp [Sj,ID,e]
def i8 {p:κ×V}{r:↑(κ×V)}{k:κ}(e:¬p.1=k):Sj (p::r) k=Sj r k:=by simp [Sj,ID,e]
theorem kT (k:κ):∀kvs:↑(κ×V),(kvs.any λkv=>decide<|kv.1=k)=(Sj kvs k).isSome
 |[]=>rfl
 |p::r=>by
  rw[IJ];by_cases e:p.1=k;simp only[i7 e,bN e,Bool.true_or,Option.isSome_some];rw[i8 e,bg e,Bool.false_or];exact kT k r
def hJ (kvs:↑(κ×V))(k:κ)(v:V):⇑(Qs kvs k v)<=⇑kvs+1:=by
 unfold Qs;split;rw[Hb];omega;rw[Hk,Hf,Ig];omega
def RelO.isSome_eq (r:RelO o u):o.isSome=u.isSome:=by
 cases o with
 |none=>cases u with|none=>rfl|some _=>exact (show False from r).elim
 |some _=>cases u with|none=>exact (show False from r).elim|some _=>rfl
theorem RelO.getD (r:RelO o u)(rd:RelV d d'):RelV (o.getD d) (u.getD d'):=by
 cases o with
 |none=>cases u with|none=>exact rd|some _=>exact (show False from r).elim
 |some _=>cases u with|none=>exact (show False from r).elim|some _=>exact r
def KV.val (r:KV kvs vs)(k:κ):RelO (Sj kvs k) (valueAt vs k):=by
 unfold KV at r
 induction r with
 |nil=>exact True.intro
 | @cons p q ps qs h t ih=>
   let(h1,h2):=h;by_cases e:p.1=k
   .have e':q.1=k:=h1.symm.trans e;have b:valueAt (q::qs) k=some q.2:=by simp [valueAt,ID,e']
    rw[i7 e,b];exact h2
   .have e':¬q.1=k:=λz=>e<|h1.trans z;have b:valueAt (q::qs) k=valueAt qs k:=by simp [valueAt,ID,e']
    rw[i8 e,b];exact ih
theorem KV.any (r:KV kvs vs)(k:κ):(kvs.any λkv=>decide<|kv.1=k)=vs.any λkv=>decide (kv.1=k):=by
 unfold KV at r
 induction r with|nil=>rfl|cons h t ih=>rw[IJ,IJ,ih,h.1]
def KV.repl (r:KV kvs vs)(k:κ)(ry:RelV y u):
  KV (kvs.map λkv=>if kv.1=k then (kv.1 ,y) else kv) (vs.map λkv=>if kv.1=k then (kv.1 ,u) else kv):=by
 unfold KV at r ⊢
 induction r with
 |nil=>exact .nil
 | @cons p q ps qs h t ih=>
   rw[Hg,Hg];refine .cons ?_ ih;let(h1,h2):=h;by_cases e:p.1=k;rw[bf e,bf<|h1.symm.trans e];exact(h1,ry);rw[aZ e,aZ<|λz=>e<|h1.trans z];exact(h1,h2)
def KV.put (r:KV kvs vs)(k:κ)(ry:RelV y u):KV (Qs kvs k y) (stored vs k u):=by
 unfold Qs stored;rw[r.any k];by_cases e:(vs.any λkv=>decide<|kv.1=k)=true;rw[bf e,bf e];exact r.repl k ry;rw[aZ e,aZ e];exact Paired.snoc r (rfl,ry)
theorem KV.length (r:KV kvs vs):⇑kvs=⇑vs:=Paired.length r
end
def qJ {w:K9}(r:RelV (kV k) u):(cA P w).is k u=true:=by
 cases k with|inl i=>let(t,e):=(show∃t ,u=K5.int i t from r);subst e;exact qC P w i t|inr x=>let(t,e):=(show∃t ,u=K5.str x t from r);subst e;exact qB P w x t
theorem j1 {w:K9}:∀ {ks:↑Key}{us:↑K5},Vals (ks.map kV) us->ItemsAre (cA P w) ks us
 |[],_,r=>by rw[HM]at r;cases r;exact .nil
 |k::ks,_,r=>by
  rw[Hg]at r;cases r with|cons h t=>exact .cons (qJ h)<|j1 t
abbrev KT (H:Hp):↑(↑Key×V)->↑(↑Key×Lb×K5)->Prop:=Paired λp q=>p.1=q.1/\H q.2.1=some (.tup<|p.1.map kV)/\RelV p.2 q.2.2
def KT.val (r:KT H kvs xs)(k:↑Key):RelO (Sj kvs k) ((Mi xs k).map (·.2)):=by
 induction r with
 |nil=>exact True.intro
 | @cons p q ps qs h t ih=>
   let(h1,_,h2):=h;by_cases e:p.1=k
   .have e':q.1=k:=h1.symm.trans e;have b:Mi (q::qs) k=some q.2:=by simp [Mi,ID,e']
    rw[i7 e,b];exact h2
   .have e':¬q.1=k:=λz=>e<|h1.trans z;have b:Mi (q::qs) k=Mi qs k:=by simp [Mi,ID,e']
    rw[i8 e,b];exact ih
def KT.repl (r:KT H kvs xs)(k:↑Key)(ry:RelV y u):
  KT H (kvs.map λkv=>if kv.1=k then (kv.1 ,y) else kv) (xs.map<|putAt k u):=by
 induction r with
 |nil=>exact .nil
 | @cons p q ps qs h t ih=>
   rw[Hg,Hg];refine .cons ?_ ih;let(h1,h2,h3):=h;unfold putAt;by_cases e:p.1=k;rw[bf e,bf<|h1.symm.trans e];exact(h1,h2,ry);rw[aZ e,aZ<|λz=>e<|h1.trans z];exact(h1,h2,h3)
def KT.put (r:KT H kvs xs)(k:↑Key)(hb:H b=some (.tup<|k.map kV))(ry:RelV y u):
  KT H (Qs kvs k y) (storedH xs k b u):=by
 have e:(kvs.any λkv=>decide<|kv.1=k)=(Mi xs k).isSome:=by rw[kT,(r.val k).isSome_eq,IL]
 unfold Qs storedH;rw[e];by_cases q:(Mi xs k).isSome=true;rw[bf q,bf q];exact r.repl k ry;rw[aZ q,aZ q];exact Paired.snoc r (rfl,hb,ry)
def KT.keeps (r:KT H kvs xs)(ht:∀b ys ,H b=some (.tup ys)->H' b=some (.tup ys)):KT H' kvs xs:=
 Paired.mapP r λJ J z=>(z.1,ht _ _ z.2.1,z.2.2)
section
variable {P:K8}{w:K9}{H:Hp}{h:La}{a:Lb}
def B8 (ok:HOk P w H h)(e:Rd H a u):ObjOk P w H h a u:=e.ok ok
def nZ (ok:HOk P w H h)(e:Rd H a (.dK kvs)):⇑kvs<=sizeLine/\(a==Ls)=false/\∃vs,KV kvs vs/\h.DictOf (cA P w) a vs:=
 show ObjOk P w H h a (.dK kvs) from B8 ok e
def Gy (ok:HOk P w H h)(e:H a=some (.dK kvs)):⇑kvs<=sizeLine/\(a==Ls)=false/\∃vs,KV kvs vs/\h.DictOf (cA P w) a vs:=nZ ok<|.inl e
def lW (ok:HOk P w H h)(e:H a=some (.tup<|ks.map kV)):(Lu<|cA P w).is h ks a:=by
 let(_,its,r,(o,h1,h2,n,h3),_):=(show ObjOk P w H h a (.tup<|ks.map kV) from ok a _ e)
 exact(o,its.toArray,n,h1,h2,h3,by simpa using j1 r)
def mq (ok:HOk P w H h)(e:Rd H a (.dT kvs)):⇑kvs<=sizeLine/\(a==Ls)=false/\
  ∃xs,KT H kvs xs/\h.DictOfH (Lu<|cA P w) a xs:=by
 let(z,y,xs,r,o,es,ep,h1,h2,h3,h4,h5):=(show ObjOk P w H h a (.dT kvs) from B8 ok e)
 refine(z,y,xs,r,o,es,ep,h1,h2,h3,h4,λx hx=>?_,h5);have all:∀ {l:↑(↑Key×V)}{m:↑(↑Key×Lb×K5)},KT H l m->∀x∈m,(Lu<|cA P w).is h x.1 x.2.1:=by
  intro l m q
  induction q with
  |nil=>intro x hx;exact nomatch hx
  | @cons p q ps qs hq t ih=>
    intro x hx;rcases Hd.mp hx with e|hx
    subst e;exact lW ok (by rw[<-hq.1];exact hq.2.1);exact ih x hx
 exact all r x hx
def Gw (ok:HOk P w H h)(e:H a=some (.dT kvs)):⇑kvs<=sizeLine/\(a==Ls)=false/\
 ∃xs,KT H kvs xs/\h.DictOfH (Lu<|cA P w) a xs:=mq ok<|.inl e
end
def MB (H:Hp)(a:Lb)(y:V)(r:Option V):Prop:=
 (∃kvs k ,Rd H a (.dK kvs)/\y=kV k/\r=Sj kvs k)\/ ∃kvs k b,Rd H a (.dT kvs)/\y=.ref b/\H b=some (.tup<|k.map kV)/\r=Sj kvs k
def DPut (H:Hp)(a:Lb)(y v:V)(H':Hp):Prop:=
 (∃kvs k ,H a=some (.dK kvs)/\y=kV k/\⇑kvs<sizeLine/\H'=upd H a (.dK<|Qs kvs k v))\/
 ∃kvs k b,H a=some (.dT kvs)/\y=.ref b/\H b=some (.tup<|k.map kV)/\⇑kvs<sizeLine/\H'=upd H a (.dT<|Qs kvs k v)
section
variable {X:Cx}{gV:↑(Lb×Le)}{σ:St}{H:Hp}{s:Ld}{a:Lb}{y v:V}{u r:K5}{o:Option V}{A:Lf}{E:K5->Ld->Prop}
def Inv.big (I:Inv X gV σ H s):Ls<↥s:=by have h:Lx<↥s:=(I.mod.glob.keeps I.bk).lt;exact Jt ↥_ h
def wC {Q:K5->Ld->Prop}(hu:A.units+1<Lg)(I:Inv X gV σ H s)(g:MB H a y `v)(ry:RelV y u)(h:∀w' s' ,Inv X gV σ H s'->RelV v w'->Q w' s'):
  Lh (Li X.prog X.w) A (getItem (.ref a) u) Q E s:=by
 rcases g with⟨kvs,k,e,ey,l⟩|⟨kvs,k,b,e,ey,eb,l⟩
 subst ey;let(z,hd,vs,rel,dd):=nZ I.hok e;let(w',hw,rw'):=RelO.some_of (v:=v) (o:=valueAt vs k) (by rw[l];exact rel.val k);exact wpAny_getItem_of (qJ ry) dd.mapOf hw<|h w' _ (I.tok _) rw';subst ey;cases (show u=K5.ref b from ry);let(z,hd,xs,rel,dd):=mq I.hok e;let(w',hw,rw'):=RelO.some_of (v:=v) (o:=(Mi xs k).map (·.2)) (by rw[l];exact rel.val k);let(p,hp,hp2):=Hn.mp hw;refine wpAny_getItem_heap (Mj hu) (lW I.hok eb) dd hp ?_;rw[hp2];exact h w' _ (I.tok _) rw'
def G9 {Q:K5->Ld->Prop}(hu:A.units+1<Lg)(I:Inv X gV σ H s)(g:MB H a y o)(ry:RelV y u)(h:∀s' ,Inv X gV σ H s'->Q (.bool o.isSome) s'):
  Lh (Li X.prog X.w) A (LK .In u<|.ref a) Q E s:=by
 rcases g with⟨kvs,k,e,ey,l⟩|⟨kvs,k,b,e,ey,eb,l⟩
 subst ey;let(z,hd,vs,rel,dd):=nZ I.hok e;refine wpAny_in_of (qJ ry) hd dd.mapOf ?_;rw[<-(rel.val k).isSome_eq,<-l];exact h _<|I.tok _;subst ey;cases (show u=K5.ref b from ry);let(z,hd,xs,rel,dd):=mq I.hok e;refine wpAny_in_heap (Mj hu) (lW I.hok eb) hd dd ?_;have q:=(rel.val k).isSome_eq;rw[IL]at q;rw[<-q,<-l];exact h _<|I.tok _
def BI {Q:K5->Ld->Prop}(hu:A.units+1<Lg)(I:Inv X gV σ H s)(g:MB H a y o)(ry:RelV y u)(h:∀s' ,Inv X gV σ H s'->Q (.bool<|!o.isSome) s'):
  Lh (Li X.prog X.w) A (LK .NotIn u<|.ref a) Q E s:=by
 rcases g with⟨kvs,k,e,ey,l⟩|⟨kvs,k,b,e,ey,eb,l⟩
 subst ey;let(z,hd,vs,rel,dd):=nZ I.hok e;refine wpAny_notIn_of (qJ ry) hd dd.mapOf ?_;rw[<-(rel.val k).isSome_eq,<-l];exact h _<|I.tok _;subst ey;cases (show u=K5.ref b from ry);let(z,hd,xs,rel,dd):=mq I.hok e;refine wpAny_notIn_heap (Mj hu) (lW I.hok eb) hd dd ?_;have q:=(rel.val k).isSome_eq;rw[IL]at q;rw[<-q,<-l];exact h _<|I.tok _
def pC {t':Nat}(I:Inv X gV σ H s)(mu:Mut (H a))(hs:Ia a s.heap h')(he:∃q ,h'.get? a=`q)(new:ObjOk X.prog X.w (upd H a ob) h' a ob):
  Inv X gV σ (upd H a ob) {s with heap:=h',toks:=t'}:=
 I.write (x:=a) (e:=a) mu (.inl rfl) (λb q hb z=>(hs.2 b hb).trans z) he new
def EO {w:K9}(z:⇑kvs<=sizeLine)(hd:(a==Ls)=false)(rel:KV kvs vs)(dd:h'.DictOf (cA P w) a vs):
 ObjOk P w H' h' a (.dK kvs):=(z,hd,vs,rel,dd)
def wB {Q:Unit->Ld->Prop}(hu:A.units+1<Lg)(I:Inv X gV σ H s)(g:DPut H a y v H')(ry:RelV y u)(rv:RelV v r)(h:∀s' ,Inv X gV σ H' s'->Q () s'):
  Lh (Li X.prog X.w) A (setItem (.ref a) u r) Q E s:=by
 rcases g with⟨kvs,k,e,ey,l,eH⟩|⟨kvs,k,b,e,ey,eb,l,eH⟩
 .subst ey eH;let(z,hd,vs,rel,dd):=Gy I.hok e;have hz:⇑vs<=sizeLine:=by rw[<-⇑rel];exact z
  have hl:⇑(Qs kvs k v)<=sizeLine:=by have:=hJ kvs k v;omega
  refine wpAny_setItem_pairs (hsz:=hz) (qJ ry) dd λh' dd' hs=>h _ ?_;have he:∃q,h'.get? a=`q:=let (q,_,_,hq,_):=dd';(q,hq);exact pC I (by rw[e];exact True.intro) hs he<|EO hl hd (rel.put k rv) dd'
 .subst ey eH;cases (show u=K5.ref b from ry);let(z,hd,xs,rel,dd):=Gw I.hok e;have hz:⇑xs<=sizeLine:=by rw[<-Paired.length rel];exact z
  have hl:⇑(Qs kvs k v)<=sizeLine:=by have:=hJ kvs k v;omega
  refine wpAny_setItem_heap (hsz:=hz) (Mj hu) (lW I.hok eb) dd λh' dd' hs=>h _ ?_;let(q,es,ep,hq,h2,h3,h4,_,h5):=dd';refine pC I (by rw[e];exact True.intro) hs (q,hq) (hl,hd,_,(rel.put k eb rv).keeps λc ys ec=>?_,q,es,ep,hq,h2,h3,h4,h5);rw[af<|FY ec e<|λz=>nomatch z];exact ec
end
def qU (I:Inv X gV σ H s)(g:MB H a y o):s.TypeIs (.ref a) "dict":=by
 rcases g with⟨kvs,k,e,_,_⟩|⟨kvs,k,b,e,_,_,_⟩
 let(_,_,vs,_,dd):=nZ I.hok e;exact dd.typeIs;let(_,_,xs,_,dd):=mq I.hok e;exact dd.typeIs
def zp {w:K9}(h:La)(hb:Ls<h.objs.size):ObjOk P w H (h.push {cls:=.type "dict",data:=.dict #[]}) h.objs.size (.dT []):=
 (Hy _,beq_eq_false_iff_ne.mpr<|Ne.symm<|Hs hb,[],.nil,_,#[],0,Hu _ rfl,(rfl,rfl,rfl),rfl,rfl,JZ)
noncomputable def CL:TE:=λJ H Q=>∀p,H p=none->Q (.ref p) (upd H p<|.dT [])
section
variable {X:Cx}{pos:LF}
def Qe:PE X (.Dict [] [] pos) CL:=λgV s σ H Q I h=>
 wpAny_Dict_empty (.ref ↥s,_,I.laid (a:=↥s) (o:=.dT []) (t':=s.toks) (λJ J q=>He _ q) (Hc _)<|zp s.heap I.big,rfl,h _<|I.hok.fresh<|Hc _)
end
structure M2 (X:Cx)(o:Expr)(m:Str)(apos:LF)(e f:Expr)(cpos:LF):Prop where
 base:L1 o m X.env (LD o X.env)=LD o X.env
 few:((LG cpos<|LH [e,f] X.env).all (λx=>!x.1)&&(L3 cpos<|L4 [] X.env).all (λx=>x.1.isSome)
  && decide (⇑([e,f]:↑Expr)+⇑([]:↑L8)+(if ([]:↑L8).isEmpty then 0 else 1)<30))=true
 line:(apos.endLine==cpos.line)=true
 trees:LG cpos (LH [e,f] X.env)=[(false ,LD e X.env),(false ,LD f X.env)]
def IsD (H:Hp)(a:Lb):Prop:=(∃kvs ,Rd H a<|.dK kvs)\/ ∃kvs,Rd H a<|.dT kvs
def EK (I:Inv X gV σ H s)(d:IsD H a):
  s.TypeIs (.ref a) "dict"/\(∀b ,K5.ref a=.ref b->∃ob,s.heap.get? b=`ob/\ob.dict=none)/\(a==Ls)=false:=by
 rcases d with⟨kvs,e⟩|⟨kvs,e⟩
 let(_,hd,vs,_,dd):=nZ I.hok e;refine(dd.typeIs,λb q=>?_,hd);cases q;let(ob,_,_,h1,h2,_):=dd;exact(ob,h1,h2.2.1);let(_,hd,xs,_,dd):=mq I.hok e;refine(dd.typeIs,λb q=>?_,hd);cases q;let(ob,_,_,h1,h2,_):=dd;exact(ob,h1,h2.2.1)
end
end L2
namespace Att
open PySem PySem.W PySem.Calls PyProof.Rows
def ky :∀ (ns:↑Int) (vs:↑K5),WellAll P h vs (ns.map WData.int)->IntsAre vs ns:=by
 intro ns
 induction ns with
 |nil=>
  intro vs w;rw[HM]at w;cases w;exact .nil
 |cons n ns ih=>
  intro vs w;rw[Hg]at w;cases w with
  |cons a b=>
   cases a;exact .cons _ _<|ih _ b
def vn {l:OpenLaw}{n:Nat}(hn:l.most=`n){P:Params}{h:La}{args:↑WData}{vals:↑K5}
  (hpre:l.row.toRowW.claim.pre args=true)(hwl:WellAll P h vals args):
  ∃a vs ns,vals=[K5.ref a]/\args=[WData.list<|ns.map WData.int]/\h.get? a=some {cls:=.type "list",data:=.seq vs.toArray}/\IntsAre vs ns/\⇑ns<=n:=by
 have hsh:WShape.hasAll [] args [.list .int]=true:=(pre_splitW hpre).1;have hc:l.pre.holds [] {args:=args}=true:=(pre_splitW hpre).2;let(d,r,rfl,h1,h2):=hasAllW_cons hsh;obtain rfl:=hasAllW_nil h2;let(xs,rfl,h3):=hasW_list h1;let(ns,rfl):=items_int h3;have hlen:⇑ns<=n:=by
  unfold OpenLaw.pre at hc;have h4:(WTm.not<|.lt (.lit<|.int (n:Int))<|.len<|.arg 0).holds [] {args:=[.list<|ns.map .int]}=true:=by have h4:=(holds_andW hc).1;rw[hn]at h4;exact h4
  have h5:=condW_of h4<|w_not<|w_lt w_lit<|w_len_list<|w_arg rfl;rw[Hb]at h5;refine Nat.le_of_not_lt λq=>?_;have q':(n:Int)<((⇑ns:Nat):Int):=∅
  first
   |(rw[bN q']at h5;exact absurd h5 ↥_)
   |(simp at h5;omega)
 cases hwl with
 |cons w1 w2=>
  cases w2;cases w1 with|list ho hall=>exact(_,_,ns,rfl,rfl,ho,ky ns _ hall,hlen)
def vE (l:OpenLaw)(args:↑WData):l.row.toRowW.claim.post args (.bool true) args=true:=
 postW_of (r:=l.row.toRowW) (X:=(true==true))
  (show WShape.has [] (.bool true) .bool=true by first|rfl|decide|simp [WShape.has,WShape.arms,WShape.armsAll])
  (show (WTm.eq .res<|.lit<|.bool true).value [] {args:=args,res:=some<|.bool true,after:=args}=some (.bool<|true==true) from w_eq_bool (w_res rfl) w_lit) rfl
def attach_call {l:OpenLaw}{n:Nat}{q:K8}{loose:↑Str}{XP:(Str->Option K5)->La->Prop}{YP:K9->La->Prop}{d:DefRec}
  (hn:l.most=`n)(hdf:d.params.defaults=[])
  (call:∀ (w:K9) (s₀ s₁:Ld) (mg mb:Str->Option K5) (fa:Lb) (o:Le) (pm cd doc:K5) (a:Lb) (vs:↑K5) (ns:↑Int) ,
   Ground q loose [] XP w s₀ mg mb s₁.heap->YP w s₁.heap->
   s₁.heap.get? fa=`o->o.data=.func (docDef d.name d.params d.body d.scope pm cd doc)->s₁.heap.CodeRec cd d.name->mg d.name=some (.ref fa)->
   s₁.heap.get? a=some {cls:=.type "list",data:=.seq vs.toArray}->IntsAre vs ns->⇑ns<=n->s₁.gens= #[]->
   codeAny (Li l.prog w) callerA (.call (.ref fa) ([.ref a],[])) (λr s'=>r=.ok (.ret<|.bool true)/\OldK s₁.heap s'.heap/\s'.os=s₁.os/\LC s'.gens) s₁):
  WalkO q loose XP YP l.row.toRowW d [] (λf vs=>PySem.call f vs):=by
 intro w s₀ s₁ mg mb G Y fa o pm cd doc dV kV ho hd hcd hD hmg hg args vals as hpre hlay hrd hwl hlo;obtain rfl:dV=.none:=Dflts.none hD hdf;obtain rfl:kV=.none:=Dflts.noKw hD;let(a,vs,ns,rfl,rfl,hobj,hints,hlen):=vn hn hpre hwl;refine enter_call (L6 (call w s₀ s₁ mg mb fa o pm cd doc a vs ns G Y ho (fd_plain hd) hcd hmg hobj hints hlen hg) λr s' hq=>?_);let(rfl,h2,h3,h4):=hq;exact(.inl (.bool true,.bool true,[],rfl,λJ=>rfl,.bool true,vE l _,λJ=>(J1.nil,λJ hm=>(nomatch hm))),h2,h3,h4)
section
end
end Att
namespace L2
open PySem PySem.Spec PyProof.Rows
theorem nr:∀ {vs:↑K5}{ns:↑Int},IntsAre vs ns->Vals (ns.map V.int) vs|_,_,.nil=>.nil|_,_,.cons n t h=>.cons (t,rfl)<|nr h
def MN (H:Hp):Prop:=∀b,H b=none\/ ∃o xs,H b=some (.frz o<|.lst xs)
def yU {w:K9}{K:Zf}{mg mb:Str->Option K5}{k:Nat}{x:Str}
  (KX:K.In s₁.heap)(hns:s₁.heap.Ns Lx mg)(hb:s₁.heap.Ns builtinsNs mb)(hbb:∀x:Str ,x≠"__name__"->mb x=Ly x)(hlim:s₁.heap.NoLimit)(hg:s₁.gens= #[])
  (ha:s₁.heap.get? a=some {cls:=.type "list",data:=.seq vs.toArray})(hi:IntsAre vs ns)(hl:⇑ns<=sizeLine)(hr:Room k callerA)
  (F:∀base:La ,K.In base->base.Ns Lx mg->FnOk P w K mg base CX k fa fd [x] sp)(hbind:∀ (s:Ld) (u:K5) ,BindsTo s fd ([u],[]) [(x ,u)])
  (hsp:∀H:Hp ,MN H->SqL K H a (ns.map V.int)->sp [.ref a] H (λv J=>v=.bl true) λJ J J=>False)
  (hCX:∀H e s' ,CX [] H s₁ (λJ J J=>False) e s'->False):
  codeAny (Li P w) callerA (.call (.ref fa) ([.ref a],[])) (λr s'=>r=.ok (.ret<|.bool true)/\OldK s₁.heap s'.heap/\s'.os=s₁.os/\LC s'.gens) s₁:=by
 have rv:=nr hi;have lenV:=⇑hi;have core:∀H:Hp,MN H->SqL K H a (ns.map V.int)->HOk P w H s₁.heap->(∀b ,H b≠none->b=a)->(H a≠none->K.lookup a=none)->
   codeAny (Li P w) callerA (.call (.ref fa) ([.ref a],[])) (λr s'=>r=.ok (.ret<|.bool true)/\OldK s₁.heap s'.heap/\s'.os=s₁.os/\LC s'.gens) s₁:=by
  intro H hO hS hok hA hK;have base_of:∀ {b:Lb}{o:Le},s₁.heap.get? b=`o->H b=none->(N6 s₁.heap H).get? b=`o:=λe n=>za e n;have noA:∀ {b:Lb}{o:Le}{es:Array DictEntry}{ep:Nat},s₁.heap.get? b=`o->o.data=.dict es ep->H b=none:=λ{b o es ep} e d=>by
   cases q:H b with
   |none=>rfl
   |some u=>
    have e':b=a:=hA b (by rw[q];simp);subst e';rw[ha]at e;cases e;have d':Data.seq vs.toArray _=Data.dict es ep:=d;cases d'
  have nsK:∀ {b:Lb}{m:Str->Option K5},s₁.heap.Ns b m->(N6 s₁.heap H).Ns b m:=λ{b m} (o,es,ep,e,d,r)=>(o,es,ep,base_of e<|noA e d,d,r)
  have hKb:K.In (N6 s₁.heap H):=λb o e=>base_of (KX b o e) (by
   cases q:H b with
   |none=>rfl
   |some u=>
    have e':b=a:=hA b (by rw[q];simp);subst e'
    rw[hK<|by rw[q];simp]at e;cases e)
  have hM:Mod K mg (N6 s₁.heap H):=(hKb,nsK hns,(mb,nsK hb,hbb),let (mc,h1,h2):=hlim;(mc,nsK h1,h2))
  have e0:Env0 P w K mg (N6 s₁.heap H) callerA [] s₁ H:=(rfl,hM,λb o e=>AM e,IR<|wu _ _,trivial,λb hb=>absurd (show b∈([]:↑Lb) from hb) ⇑_,hok,.of_eq hg)
  refine L6 ((F _ hKb<|nsK hns).run callerA [] s₁ H ([.ref a],[]) [.ref a] [.ref a] _ _ hr e0 (hbind s₁<|.ref a) (.cons rfl .nil)<|hsp H hO hS) λr s' h=>?_;cases r with
  |error e=>exact (hCX H e s' h).elim
  |ok fl=>
   cases fl with
   |next=>exact False.elim h
   |brk=>exact False.elim h
   |cont=>exact False.elim h
   |ret u=>
    let(v,H',os,bare,un,hok',r',q):=h;have q':v=.bl true:=q;subst q';obtain rfl:u=K5.bool true:=r';refine(rfl,OldK.of_keep λb o e=>?_,os,bare);cases q:H b with
    |none=>exact un.keep b o e q (by intro z;exact absurd (show b∈([]:↑Lb) from z) ⇑_) ⇑_
    |some u=>
     rcases hO b with z|⟨ob,xs,z⟩
     rw[q]at z;cases z;have z2:=un.frzs b ob _ z;let(e1,_):=hok b _ z;let(e2,_):=hok' b _ z2;rw[e]at e1;cases e1;exact e2
 cases hk:K.lookup a with
 |some o=>
  have e:=KX a o hk;rw[ha]at e;cases e;refine core (λJ=>none) (λJ=>.inl rfl) (.inr (_,vs.toArray,_,hk,rfl,rfl,rfl,by rw[Ho,lenV];exact hl,by simpa using rv)) (λb u z=>by have z':(none:Option HO)=`u:=z;cases z') (λb z=>absurd rfl z) λz=>absurd rfl z
 |none=>
  refine core (λb=>if b=a then some (.frz {cls:=.type "list",data:=.seq vs.toArray} (.lst<|ns.map V.int)) else none) (λb=>?_) (.inl<|.inr ({cls:=.type "list",data:=.seq vs.toArray},bf rfl)) (λb u z=>?_) (λb z=>?_) λJ=>hk
  .by_cases hb:b=a;exact .inr (_,_,bf hb);exact .inl<|aZ hb
  .by_cases hb:b=a;have z':=(bf hb).symm.trans z;cases z';subst hb;exact(ha,by rw[Hb];exact hl,vs,_,rv,ha);have z':=(aZ hb).symm.trans z;cases z'
  .by_cases hb:b=a;exact hb;exact absurd (aZ hb) z
section
def walk_of {l:PySem.W.OpenLaw}{n k:Nat}{q:K8}{loose:↑Str}{XP:(Str->Option K5)->La->Prop}{YP:K9->La->Prop}{d:DefRec}{K:Params->Zf}{CX:K9->CXT}{sp:K9->Sp}{x:Str}
  (hn:l.most=`n)(hn2:n<=sizeLine)(hdf:d.params.defaults=[])(hr:Room k callerA)
  (hY:∀ (w:K9) (h:La) ,YP w h->(K w.params).In h)
  (F:∀ (w:K9) (mg:Str->Option K5) (fa:Lb) (h:La) ,(K w.params).In h->h.Ns Lx mg->mg d.name=some (.ref fa)->
    ∃fd:L5,(∀ (s:Ld) (u:K5) ,BindsTo s fd ([u],[]) [(x ,u)])/\
     ∀base:La,(K w.params).In base->base.Ns Lx mg->FnOk l.prog w (K w.params) mg base (CX w) k fa fd [x] (sp w))
  (hsp:∀ (w:K9) (H:Hp) (a:Lb) (ns:↑Int) ,⇑ns<=n->MN H->SqL (K w.params) H a (ns.map V.int)->sp w [.ref a] H (λv J=>v=.bl true) λJ J J=>False)
  (hCX:∀ (w:K9) (H:Hp) (s:Ld) (e:K5) (s':Ld) ,CX w [] H s (λJ J J=>False) e s'->False):
  PySem.W.WalkO q loose XP YP l.row.toRowW d [] (λf vs=>PySem.call f vs):=by
 refine Att.attach_call hn hdf λw s₀ s₁ mg mb fa o pm cd doc a vs ns G Y ho hd hcd hmg hobj hints hlen hg=>?_;have KX:=hY w _ Y;let(fd,hb,hF):=F w mg fa _ KX G.T.g hmg;exact yU KX G.T.g G.T.b G.T.builtins G.T.nolimit hg hobj hints (HA hlen hn2) hr hF hb (λH hO hS=>hsp w H a ns hlen hO hS) λH e s'=>hCX w H s₁ e s'
end
section
noncomputable def cB (s:LI)(j:Nat):LI:=match s with|.ClassDef _ _ _ body _ _ _ _ _ _ _=>body.getD j (.Pass (0,0,0,0))|_=>.Pass (0,0,0,0)
noncomputable def cZ (s:LI):Arguments:=match s with
 |.FunctionDef _ a _ _ _ _ _ _ _ _=>a
 |_=>{posonlyargs:=[],args:=[],vararg:=none,kwonlyargs:=[],kw_defaults:=[],kwarg:=none,defaults:=[]}
noncomputable def bM (s:LI):↑LI:=match s with
 |.FunctionDef _ _ b _ _ _ _ _ _ _=>b
 |_=>[]
noncomputable def ae (s:LI):Lz:=match s with
 |.FunctionDef _ _ _ _ _ _ sc _ _ _=>sc
 |_=>{kind:=.function,names:=[],isGenerator:=false,isCoroutine:=false}
abbrev CX0:CXT:=λJ J J J J J=>False
abbrev E0:XK:=λJ J J=>False
def Qc :gB CX0 X E0:=λJ J J J J J J h=>h.elim
structure Fun (K:Zf)(x qual:Str)(st:LI)(f:Lb)(fd:L5):Prop where
 ex:∃ (oc:K5) (od:Option Lb) (kV doc pm:K5) (an:Option Lb) (cdv ct:K5) (osl:Array (Option K5)),
  fd=fnOf x qual (cZ st) (bM st) (ae st) .none kV doc pm an cdv ct/\K.lookup f=some (oc,od,.func fd,osl)/\codeIn K cdv qual=true
 kp:K2 K (.ref f)=true
section
variable {P:K8}{w:K9}{K:Zf}{mg:Str->Option K5}{base:La}
def Fun.ok {x qual:Str}{st:LI}{N ps:↑Str}{k:Nat}(F:Fun K x qual st f fd)(S:MH N ps (ae st))(len:∀vs H Q E ,sp vs H Q E->⇑vs=⇑ps)
  (hbody:∀ (cdv:K5) (A:Lf) (outer:↑Env) (s:Ld) (H:Hp) (vs:↑V) (Q:VK) (E:XK) ,Room k (A.deeper<|Ma qual (ae st) ↥s f cdv)->sp vs H Q E->
   ∃t,PSs (Nx CX0 P w K mg base N qual (ae st) f cdv A outer s H E).nox (bM st) t/\t {nx:=λJ H'=>Q .non H',rt:=Q} (RP N vs) H):FnOk P w K mg base CX0 (k+1) f fd ps sp:=by
 let(oc,od,kV,doc,pm,an,cdv,ct,osl,rfl,lk,hcd):=F.ex;refine Cj lk hcd S len λA outer s H vs Q E hr hsp=>?_;let(t,h,q):=hbody cdv A outer s H vs Q E hr hsp;exact(t,h.nox,q)
def Fun.binds {x qual:Str}{st:LI}{ps:↑Str}(F:Fun K x qual st f fd)
  (h:∀ (kV doc pm:K5) (an:Option Lb) (cdv ct:K5) (us:↑K5) ,⇑us=⇑ps->bindArgs (fnOf x qual (cZ st) (bM st) (ae st) .none kV doc pm an cdv ct) (us,[])=pure (ps.zip us)):Binds K fd ps []:=by
 let(oc,od,kV,doc,pm,an,cdv,ct,osl,rfl,lk,hcd):=F.ex;exact .all<|h kV doc pm an cdv ct
def ze {x qual:Str}{st:LI}{kV doc pm cdv ct:K5}(l:K.lookup f=some (oc,od,.func<|fnOf x qual (cZ st) (bM st) (ae st) .none kV doc pm an cdv ct,osl))
 (c:codeIn K cdv qual=true)(k:K2 K (.ref f)=true):Fun K x qual st f (fnOf x qual (cZ st) (bM st) (ae st) .none kV doc pm an cdv ct):=((oc,od,kV,doc,pm,an,cdv,ct,osl,rfl,l,c),k)
end
def Ci {k:Nat}(hr:Room k A):A.units+1<Lg:=HQ (J2 (by decide:1<=64) _) hr.units
def jQ {n:Nat}(h:n<=1000):n<sizeLine:=HQ h ↥_
section
variable {X:Cx}
def pv (i:Nat){x:Str}(hN:X.N[i]?=`x:=by rfl)(hv:Vis X.env.scope x:=by trace_state)(hd:(x==("__debug__":Str))=false:=by decide)
 (hcd:(x==("__classdict__":Str))=false:=by decide):PE X (.Name x pos) (R7 i):=Dj hN hv hd hcd
end
def Ov {A B:Prop}(h:B):if false=true then A else B:=by rw[aZ Hv];exact h
def Ow {A B:Prop}(h:A):if true=true then A else B:=by rw[bf rfl];exact h
def Ou {c A B:Prop} [Decidable c] (h1:c->A)(h2:¬c->B):if c then A else B:=by
 by_cases h:c;rw[bf h];exact h1 h;rw[aZ h];exact h2 h
def Same (H H':Hp):Prop:=∀b o,H b=`o->H' b=`o
def Same.refl (H:Hp):Same H H:=λJ J h=>h
end
section
theorem mf {α β:Type}{f:α->β->Sem (ForInStep β)}(g:α->β->β):∀ (l:↑α) (c:β),(∀x∈l ,∀c,f x c=pure (.yield<|g x c))->forIn l c f=pure (l.foldl (λc x=>g x c) c)|[],_,_=>rfl|x::l,c,h=>by rw[HX,h x Hi,pure_bind];exact mf g l (g x c) λy hy=>h y<|Ht _ hy
noncomputable def cS (env:Env)(p:Str×L9)(cs:↑(Str×Lb)):↑(Str×Lb):=if (p.2==L9.free)=true then (p.1 ,(env.cells.lookup p.1).getD 0)::cs else cs
noncomputable def Np (scope:Lz)(env:Env):↑(Str×Lb):=scope.names.foldl (λc x=>cS env x c) []
def tj (h:∀p∈scope.names ,p.2=.free->∃c,env.cells.lookup p.1=`c):closureFor scope env=pure (Np scope env):=by
 unfold Np;simp only[closureFor];rw[mf<|cS env];rfl
 .intro x hx c;let(n,k):=x;by_cases hk:k=.free;subst hk;let(a,ha):=h _ hx rfl;have ha:env.cells.lookup n=`a:=ha;simp [cS,cellOf,ha]
  .have:(k==L9.free)=false:=by simpa using hk
   simp [cS,this]
set_option tactic.hygienic true in
theorem mw (env:Env):∀ (l:↑(Str×L9)) (c:↑(Str×Lb)),(∀p∈l ,p.2=.free->∃a,env.cells.lookup p.1=`a)->
  (∀y a ,c.lookup y=`a->env.cells.lookup y=`a)->∀y a,(l.foldl (λc x=>cS env x c) c).lookup y=`a->env.cells.lookup y=`a
 |[],_,_,h,y,a,e=>h y a e
 |(n ,k)::r,c,hf,h,y,a,e=>by
  refine mw env r (cS env (n ,k) c) (λp hp=>hf p<|Ht _ hp) (λz b q=>?_) y a e;unfold cS at q;split at q
  .rename_i hk;let(d,hd):=hf (n ,k) Hi (by simpa using hk);have hd:env.cells.lookup n=`d:=hd;rw[Ik]at q;split at q
   .rename_i hz;have:z=n:=by simpa using hz
    subst this;rw[hd]at q ⊢;simpa using q
   exact h z b q
  exact h z b q
theorem qZ (env:Env):∀ (l:↑(Str×L9)) (c:↑(Str×Lb)) (y:Str),(∃a ,c.lookup y=`a)->∃a,(l.foldl (λc x=>cS env x c) c).lookup y=`a
 |[],_,_,h=>h
 |(n ,k)::r,c,y,h=>by
  refine qZ env r _ y ?_;show∃a,(cS env (n ,k) c).lookup y=`a;unfold cS;split
  .rw[Ik];split;exact(_,rfl);exact h
  exact h
theorem uX (env:Env):∀ (l:↑(Str×L9)) (c:↑(Str×Lb)) (y:Str),(y ,L9.free)∈l->∃a,(l.foldl (λc x=>cS env x c) c).lookup y=`a
 |(n ,k)::r,c,y,h=>by
  rcases Hd.mp h with e|h
  let(rfl,rfl):=Prod.mk.inj e;refine qZ env r _ y ((env.cells.lookup y).getD 0,?_);show (cS env (y ,.free) c).lookup y=_;unfold cS;rw[bf (by rfl),Ik];simp;exact uX env r _ y h
structure CScope (X:Cx)(ls:↑Str)(scope:Lz):Prop where
 kind:scope.kind=.function
 nocell:∀y∈scope.names,y.2≠.cell
 names:∀y∈scope.names,y.2=.local ->scope.names.lookup y.1=some .local
 loc:∀y,scope.names.lookup y=some .local ->y∈ls
 free:∀y∈scope.names,y.2=.free->X.env.kindOf y.1=some .cell\/X.env.kindOf y.1=some .free
 noq:∀y∈ls,∀k,scope.names.lookup ⟨#[63]++y.cps⟩≠`k
noncomputable def hid (ls:↑Str)(y:Str):Str:=if ls.contains y then⟨#[63]++y.cps⟩ else y
noncomputable def cxC (X:Cx)(ls:↑Str)(scope:Lz)(C:Lb)(s2:Ld)(H2:Hp)(fp:↑Lb):Cx where
 prog:=X.prog
 w:=X.w
 K:=X.K
 mg:=X.mg
 base:=X.base
 A:=X.A
 N:=ls++X.N.map (hid ls)
 s₀:=s2
 H₀:=H2
 env:=compEnvC scope (Np scope X.env) C X.env
 outer:=X.stack
 stack:=X.stack
 ex:=fp
 calm:=X.calm
 fn:=λJ=>false
 pn:=[]
 xe:=λJ J=>False
theorem cJ {env:Env}{y:Str}:∀ {names:↑(Str×L9)}{k:L9},(names.map λ(n ,k)=>if (k==L9.free && env.scope.kind==.function && env.kindOf n==some .cell) then (n ,L9.cell) else (n ,k)).lookup y=`k->
  names.lookup y=`k\/(names.lookup y=some .free/\k=.cell)
 |[],_,h=>by simp at h
 |(n ,j)::r,k,h=>by
  have ih:= @cJ env y r k
  replace h:IB y ((if (j==L9.free && env.scope.kind==.function && env.kindOf n==some .cell)=true then (n ,L9.cell) else (n ,j))::(r.map λ(n ,k)=>if (k==L9.free && env.scope.kind==.function && env.kindOf n==some .cell) then (n ,L9.cell) else (n ,k)))=`k:=h
  by_cases hc:(j==L9.free && env.scope.kind==.function && env.kindOf n==some .cell)=true
  .rw[bf hc,Ik]at h;rw[Ik];cases hx:y==n with
   |true=>
    rw[hx]at h;simp only[HD]at hc;have hj:j=.free:=by simpa using hc.1.1
    subst hj;have h:some L9.cell=`k:=h;cases h;exact .inr (rfl,rfl)
   |false=>
    rw[hx]at h;exact ih h
  .rw[aZ hc,Ik]at h;rw[Ik];cases hx:y==n with|true=>rw[hx]at h;exact .inl h|false=>rw[hx]at h;exact ih h
noncomputable def Oa (N ls:↑Str)(σ:St):Bool:=true
def wq {ls:↑Str}{m:Str->Option K5}{tk:Nat}
  (I:Inv X gV σ H2 s2)(S:CScope X ls scope)(hh:Oa X.N ls σ=true)(f2:∀b∈fp ,MI X gV H2 b)(ho:∀b∈fp ,∃o,s2.heap.get? b=`o)(hC:↥s2<=C)(hn:h1.Ns C m)
  (old:∀b o ,s2.heap.get? b=`o->h1.get? b=`o):
  Inv (cxC X ls scope C s2 H2 fp) [] (List.replicate ⇑ls none++σ) H2 {s2 with heap:=h1,toks:=tk}:=by
 have cf:∀p∈scope.names,p.2=.free->∃c,X.env.cells.lookup p.1=`c:=λp hp e=>I.ok.has _<|S.free p hp e;have c1:∀y a,(Np scope X.env).lookup y=`a->X.env.cells.lookup y=`a:=mw X.env scope.names [] cf (λy a e=>by simp at e);have c2:∀y,scope.names.lookup y=some .free->∃a,(Np scope X.env).lookup y=`a:=λy hy=>uX X.env scope.names [] y<|PySem.mem_of_lookup hy;have lt2:∀b∈fp,b<↥s2:=λb hb=>let (o,e):=ho b hb;Hj e;have kinds:∀y k,(Ml scope X.env).names.lookup y=`k->k=.cell\/k=.free->scope.names.lookup y=some .free:=λy k h hk=>by
  rcases cJ (env:=X.env) h with q|⟨q,_⟩
  .rcases hk with rfl|rfl
   exact absurd rfl<|S.nocell _<|PySem.mem_of_lookup q;exact q
  exact q
 refine((I.ok.mod,S.kind,I.ok.glob,I.ok.blt,hC,λx y c e1 e2=>I.ok.inj x y c (c1 x c e1)<|c1 y c e2,λx hx=>?_,λx c h=>absurd h Hv,I.ok.hd,I.ok.frames,.inl rfl,λb hb=>(?_,λx c e=>(f2 b hb).2.2.2.2.1 x c<|c1 x c e),I.bs,HA I.ok.bsz I.sz,λb o e hb=>?_,λb hb hz=>?_,I.stack,I.stkFree),
  rfl,I.bare,Un.kept old,(m,hn,λi y v e1 e2 e3=>?_),λx c e=>?_,I.hok.fresh hC,λx c e=>I.freeC x c<|c1 x c e,λp hp=>absurd (show p∈([]:↑(Lb×Le)) from hp) ⇑_,I.hok.kept old,?_)
 .have hx:(Ml scope X.env).names.lookup x=some .cell\/(Ml scope X.env).names.lookup x=some .free:=hx;rcases hx with hx|hx
  exact c2 x<|kinds x _ hx<|.inl rfl;exact c2 x<|kinds x _ hx<|.inr rfl
 exact Hs<|HE (lt2 b hb) hC
 .rcases (f2 b hb).2.2.2.1 with z|z
  exact I.ok.noex b o e z;exact absurd (HE (Hj e)<|HA I.ok.bsz z)<|IF _
 .rcases Hd.mp (I.stkSub b hz) with z|z
  exact (f2 b hb).2.1 z;exact (f2 b hb).2.2.1 z
 .have e1:(ls++X.N.map (hid ls))[i]?=`y:=e1;by_cases hi:i<⇑ls;rw[HN (by simpa using hi),JX]at e2;rw[bf hi]at e2;cases e2
  .rw[Iq ∅]at e1;rw[Iq (by simpa using hi),II]at e2;rw[Hl]at e1;let(y0,e1',ey):=Hn.mp e1;have e3:(Ml scope X.env).names.lookup y=some .local \/(Ml scope X.env).names.lookup y=some .cell\/(Ml scope X.env).names.lookup y=some .free:=e3;have ny:y0 ∉ls:=λhm=>by
    unfold hid at ey;rw[bf<|by simpa using hm]at ey;subst ey;have no:∀k,(Ml scope X.env).names.lookup ⟨#[63]++y0.cps⟩=`k->False:=λk q=>by
     rcases cJ (env:=X.env) q with z|⟨z,_⟩
     exact S.noq y0 hm _ z;exact S.noq y0 hm _ z
    rcases e3 with q|q|q<;>exact no _ q
   unfold hid at ey;rw[aZ<|by simpa using ny]at ey;rw[ey]at e1' ny;have e1:=e1';have fr:scope.names.lookup y=some .free:=by
    rcases e3 with q|q|q
    .rcases cJ (env:=X.env) q with z|⟨_,z⟩
     exact absurd (S.loc y z) ny;cases z
    exact kinds y _ q<|.inl rfl;exact kinds y _ q<|.inr rfl
   have kx:=S.free _ (PySem.mem_of_lookup fr) rfl;let(m2,_,hl):=I.loc;let(u,r,l):=hl _ y v e1 e2<|.inr kx;refine(u,r,?_);have knd:(Ml scope X.env).names.lookup y=some .cell\/(Ml scope X.env).names.lookup y=some .free:=by
    rcases e3 with q|q
    .rcases cJ (env:=X.env) q with z|⟨_,z⟩
     exact absurd (S.loc y z) ny;cases z
    exact q
   rcases l with⟨k1,_⟩|⟨_,c,hc,hcell⟩
   have kx:X.env.kindOf y=some .cell\/X.env.kindOf y=some .free:=kx;rcases kx with z|z<;>(rw[k1]at z;cases z)
   let(c',hc'):=c2 y fr;have:=c1 y c' hc';rw[hc]at this;cases this;refine .inr (knd,c,hc',?_);let(o,ho,hd):=hcell;exact(o,old _ _ ho,hd)
 let(v,o,ho,hd):=I.cell x c<|c1 x c e;exact(v,o,old _ _ ho,hd);show ⇑(List.replicate ⇑ls none++σ)=⇑(ls++X.N.map (hid ls));rw[Hk,Hk,II,Hb,I.len]
def y6 {ls:↑Str}{n:Nat}
  (I:Inv X gV σ H2 s2)(f2:∀b∈fp ,MI X gV H2 b)(J:Inv (cxC X ls scope C s2 H2 fp) pl σ' H3 s')(hD:↥s2<=D)(hC:↥s2<=C)(hDC:D≠C)
  (sb:Ia C s'.heap h')(hD3:H3 D=none)(e:s'.heap.get? D=some {cls:=.type "list",data:=.seq its.toArray n})(r:Vals ys its)(z:⇑ys<=sizeLine):Inv X gV σ (upd H3 D<|.lst ys) {s' with heap:=h'}:=by
 have ext:∀b o,b≠C->s'.heap.get? b=`o->h'.get? b=`o:=λb o hb e=>sb.extBut b o hb e;have neD:∀b,b<↥s2->b≠D:=λb hb=>Hs<|HE hb hD;have neC:∀b,b<↥s2->b≠C:=λb hb=>Hs<|HE hb hC;have lt:∀b u,H2 b=`u->b<↥s2:=λb u q=>by apply Classical.byContradiction;intro hb;have:=I.hok.fresh<|Nat.le_of_not_lt hb;rw[this]at q;cases q
 have fC:H3 C=none:=J.free;refine I.call' (s':={s' with heap:=h'}) (ch:=fp) J.os (λb o q n hb hx=>?_,λb o q n hb hx=>?_,λb o q n hx=>?_,λb o q hx=>?_,λb xs q=>?_,λb o u q=>?_,λb ps q=>?_) (λb u q=>?_) J.bare λb hb=>?_;exact ext b o (neC b<|Hj q) (J.base.keep b o q n hb hx);let(sl,w):=J.base.slot b o q n hb hx;exact(sl,ext b _ (neC b<|Hj q) w);rw[af<|neD b<|Hj q];exact J.base.free b o q n hx;let(o',w):=J.base.there b o q hx;exact(o',ext b _ (neC b<|Hj q) w);rw[af<|neD b<|lt b _ q];exact J.base.tups b xs q;rw[af<|neD b<|lt b _ q];exact J.base.frzs b o u q;rw[af<|neD b<|lt b _ q];exact J.base.tbls b ps q
 .by_cases hb:b=D;subst hb;rw[aq]at q;cases q;exact(z,its,n,r,ext _ _ hDC e)
  .rw[af hb]at q;have ne1:b≠C:=λw=>by rw[w,fC]at q;cases q
   have ow:∀c u,H3 c=`u->c≠D:=λc u w z=>by rw[z,hD3]at w;cases w
   have oc:∀c u,H3 c=`u->c≠C:=λc u w z=>by rw[z,fC]at w;cases w
   refine (J.hok b u q).stay (λc v hc w=>ext c v ?_ w) (λc w=>by rw[af<|ow c _ w];exact w) λc xs w=>by rw[af<|ow c _ w];exact w
   rcases hc with rfl|hc
   exact ne1;exact oc c _ hc
 let(a1,a2,a3,a4,a5,a6):=f2 b hb;exact(a4,a2,a5,a6)
def MO (X:Cx)(ifs:↑Expr)(t:TT):Prop:=
 ∀ (gV:↑(Lb×Le)) (s:Ld) (σ:St) (H:Hp) (Q:Bool->Hp->Prop),Inv X gV σ H s->t σ H Q->
   Lh (Li X.prog X.w) X.A (forIn ifs true λc r=>if r=true then do let ok<-isTrue c X.env (LD c X.env);pure (ForInStep.yield ok) else pure (ForInStep.yield r)) (TP X gV σ Q) X.xe s
noncomputable def R8:TT:=λJ H Q=>Q true H
def oR :MO X [] R8:=λJ J J H J I h=>wpAny_tests_nil (H,I,h)
def At (h:PT X c t):MO X [c] t:=λgV s σ H Q I q=>wpAny_tests_one<|h gV s σ H Q I q
def MA (J:It)(ls:↑Str)(g:TG)(tt:TT)(te:TE)(σ:St)(H1:Hp)(Q:VK):Prop:=∃W:Nat->Nat->↑V->Hp->Prop,(∃m ,W 0 m [] H1)/\∀i m ys H,W i m ys H->
 (J.stop i H/\∀D ,H D=none->Q (.ref D) (upd H D<|.lst ys))\/
 (J.go i H/\∃R:↑V->Hp->Prop ,(∀ys' H' ,R ys' H'->∃m',m'<m/\W (i+1) m' ys' H')/\∀y H',J.yld i H y H'->
  g y (List.replicate ⇑ls none++σ) H' λσ2 H2=>σ2.drop ⇑ls=σ/\⇑σ2=⇑ls+⇑σ/\tt σ2 H2 λb H3=>if b=true then te σ2 H3 λv H4=>⇑ys<sizeLine/\R (ys++[v]) H4 else R ys H3)
noncomputable def RX (N ls:↑Str)(wi:TI)(g:TG)(tt:TT)(te:TE):TE:=λσ H Q=>Oa N ls σ=true/\wi σ H λJ H1=>MA J ls g tt te σ H1 Q
def hV {w:K9}{R:Result->Ld->Prop}(I:Nat->Ld->Prop)
  (turn:∀n s ,I n s->Lh (Li prog w) A (LS it) (λr s₁=>match r with
   |none=>R (.ok .next) s₁
   |some v=>Lh (Li prog w) A (LU target it v) (λ_ s₁=>Lh (Li prog w) A (assign target env v) (λ_ s₂=>
    Lh (Li prog w) A (forIn ifs true λc r=>if r=true then do let ok<-isTrue c env (LD c env);pure (ForInStep.yield ok) else pure (ForInStep.yield r)) (λok s₃=>
     if ok=true then Lh (Li prog w) A (LD elt env) (λx s₄=>
      Lh (Li prog w) A (call (.builtin "list.append") [acc,x]) (λ_ s₅=>∃m ,m<n/\I m s₅) (notedBy (Li prog w) A env λe s'=>R (.error e) s') s₄) (notedBy (Li prog w) A env λe s'=>R (.error e) s') s₃
     else∃m ,m<n/\I m s₃) (notedBy (Li prog w) A env λe s'=>R (.error e) s') s₂) (notedBy (Li prog w) A env λe s'=>R (.error e) s') s₁) (notedBy (Li prog w) A env λe s'=>R (.error e) s') s₁) (notedBy (Li prog w) A env λe s'=>R (.error e) s') s)
  (n:Nat)(h:I n s):
  codeAny (Li prog w) A (.compLoop (.ListComp elt [(target,iter,ifs,0)] scope pos) 0 it acc env) R s:=by
 refine codeAny_loop rfl I (λn s hI=>?_) n h;show Lh _ A ((compTurn (.ListComp elt [(target,iter,ifs,0)] scope pos) 0 it acc env).onRaise<|λx=>do noteFrame x env;theTreesLotGoes x) _ _ s;refine wpAny_noted ?_;rw[compTurn_list];refine Lj (wpAny_standAt<|Lj<|LJ (turn n s hI) (λr s₁ h₁=>?_) λJ J h'=>h');cases r with
 |none=>exact Lm h₁
 |some v=>
  refine Lj (LJ h₁ (λ_ s₁ h₁=>?_) λJ J h'=>h');refine Lj (LJ h₁ (λ_ s₂ h₂=>Lj<|LJ h₂ (λok s₃ h₃=>?_) λJ J h'=>h') λJ J h'=>h');cases ok with
  |false=>exact Lm (rfl,h₃)
  |true=>
   exact Lj (Lj<|LJ h₃ (λx s₄ h₄=>Lj<|LJ h₄ (λ_ s₅ h₅=>Lm<|Lm (rfl,h₅)) λJ J h'=>h') λJ J h'=>h')
def thx {α:Type}{t:Sem α}{Q Q':α->Ld->Prop}{M:Model}{E:K5->Ld->Prop}(h:Lh M A t Q (λJ J=>False) s)(hQ:∀a s ,Q a s->Q' a s):Lh M A t Q' E s:=LJ h hQ λJ J x=>x.elim
section
variable {X:Cx}{elt iter tg:Expr}{ifs:↑Expr}{scope:Lz}{pos:LF}{ls:↑Str}{wi:TI}{g:TG}{tt:TT}{te:TE}
def wD {use:Option (K5->Sem Unit)}{QQ:K5->Ld->Prop}(hcalm:X.calm=true)(S:CScope X ls scope)(hi:PI X tg iter wi)
  (hg:∀C s2 H2 fp ,PG (cxC X ls scope C s2 H2 fp) tg g)(ht:∀C s2 H2 fp ,MO (cxC X ls scope C s2 H2 fp) ifs tt)(he:∀C s2 H2 fp ,PE (cxC X ls scope C s2 H2 fp) elt te)
  (hs:∀x ,LY iter X.env x=pure x)(I:Inv X gV σ H s)(h:RX X.N ls wi g tt te σ H Q)
  (hQQ:∀ (D C:Lb) (s':Ld) (H':Hp) ,(∃m ,s'.heap.Ns C m)->MI X gV H' C->(∀h' ,Ia C s'.heap h'->Inv X gV σ H' {s' with heap:=h'})->Q (.ref D) H'->compPost (Li X.prog X.w) X.A X.xe use QQ (.ref D) C (.ok .next) s'):
  Lh (Li X.prog X.w) X.A (comprehension (.ListComp elt [(tg,iter,ifs,0)] scope pos) scope X.env pos' (newList []) false (LD iter X.env) use) QQ X.xe s:=by
 let(hh,h):=h;have cf:∀p∈scope.names,p.2=.free->∃c,X.env.cells.lookup p.1=`c:=λp hp e=>I.ok.has _<|S.free p hp e;refine wpAny_comprehension_free (use:=use) rfl hs (tj cf) S.kind S.names (thn (hi gV s σ H _ I h) λv s1 h1=>thn h1 λitv s2 h2=>?_);let(it,fp,tn,J,H2,rfl,I2,T,st2,f2,W,(m0,w0),turn):=h2;refine Mc<|wpAny_newFunctionEnv S.nocell (by intro y hy;simp at hy) (λh₁ hns₁ hsb₁=>?_) S.kind;dsimp only at hns₁ hsb₁ ⊢;generalize hH2:s2.heap.push {cls:=.type "list",dict:=none,data:=.seq ([]:↑K5).toArray}=G2 at hns₁ hsb₁ ⊢;have hC:G2.objs.size=↥s2+1:=by rw[<-hH2,H0]
 have hDC:↥s2≠G2.objs.size:=by rw[hC];exact Hs<|JU _
 have hCle:↥s2<=G2.objs.size:=by rw[hC];exact IH _
 have old:∀b o,s2.heap.get? b=`o->h₁.get? b=`o:=λb o e=>hsb₁.extBut b o (Hs<|HE (Hj e) hCle)<|He _<|hH2▸He _ e;have hacc:h₁.get? ↥s2=some {cls:=.type "list",data:=.seq ([]:↑K5).toArray}:=hsb₁.extBut _ _ hDC<|He _<|hH2▸Hu _ rfl;have hobj:∀b∈fp,∃o,s2.heap.get? b=`o:=λb hb=>let (o,e,_):=T.obj 0 _ st2 b hb;(o,e);have ltf:∀b∈fp,b<↥s2:=λb hb=>let (o,e):=hobj b hb;Hj e;have nofD:↥s2 ∉(cxC X ls scope G2.objs.size s2 H2 fp).fs:=λz=>by
  rcases Hd.mp (I2.stkSub _ z) with z|z
  exact absurd I2.lt (by rw[<-z];exact IF _);exact I2.nofs (Hc _) z
 have st1:tn 0 h₁:=T.keep 0 _ _ st2 λb Z o e=>old b o e;have J0:∀tk,Inv (cxC X ls scope G2.objs.size s2 H2 fp) [] (List.replicate ⇑ls none++σ) H2 {s2 with heap:=h₁,toks:=tk}:=λtk=>wq I2 S hh f2 hobj hCle hns₁ old;have fpY:∀ (Hx:Hp) (pl:↑(Lb×Le)),(∀b∈fp ,Hx b=none)->(∀p∈pl ,↥s2<=p.1)->∀b∈fp,MI (cxC X ls scope G2.objs.size s2 H2 fp) pl Hx b:=λHx pl hx hp b hb=>
  (hx b hb,((J0 0).ok.exf b hb).1,(J0 0).ok.exfs b hb,.inl hb,((J0 0).ok.exf b hb).2,λp hpp=>by
   have hpp:p∈pl:=by simpa [cxC] using hpp
   exact IG<|HE (ltf b hb)<|hp p hpp)
 have loop:∀s₃:Ld,s₃={s2 with heap:=h₁,toks:=s2.toks+⇑([]:↑(Str×K5))}->
   codeAny (Li X.prog X.w) X.A (.compLoop (.ListComp elt [(tg,iter,ifs,0)] scope pos) 0 (.ref it) (.ref ↥s2)<|compEnvC scope (Np scope X.env) G2.objs.size X.env)
    (compPost (Li X.prog X.w) X.A X.xe use QQ (.ref ↥s2) G2.objs.size) s₃:=by
  rintro s₃ rfl
  refine hV (λn s'=>∃ (i:Nat) (ys:↑V) (its:↑K5) (k:Nat) (H':Hp) ,Inv (cxC X ls scope G2.objs.size s2 H2 fp) [] (List.replicate ⇑ls none++σ) H' s'/\tn i s'.heap/\(∀b∈fp ,H' b=none)/\H' ↥s2=none/\
   s'.heap.get? ↥s2=some {cls:=.type "list",data:=.seq its.toArray k}/\Vals ys its/\⇑ys<=sizeLine/\W i n ys H') ?_ m0
   (0,[],[],0,H2,J0 _,st1,λb hb=>(f2 b hb).1,I2.hok.fresh<|Hc _,hacc,.nil,Hy _,w0)
  rintro n s3 ⟨i,ys,its,k,H3,I3,st3,fr3,d3,e3,r3,z3,w3⟩
  have big:∀p∈[((↥s2:Lb) ,({cls:=.type "list",data:=.seq its.toArray k}:Le))],↥s2<=p.1:=λp hp=>by have this:=HC.mp hp;subst this;exact Hc _
  rcases turn i n ys H3 w3 with⟨stop,qn⟩|⟨go,R,hR,step⟩
  .
   have P3:Inv (cxC X ls scope G2.objs.size s2 H2 fp) [(↥s2 ,{cls:=.type "list",data:=.seq its.toArray k})] (List.replicate ⇑ls none++σ) H3 s3:=I3.pins_of λp hp=>by have this:=HC.mp hp;subst this;exact(e3,d3,hDC,nofD,λv z=>by cases z)
   refine thx (T.done (cxC X ls scope G2.objs.size s2 H2 fp) rfl rfl rfl hcalm i _ s3 _ H3 (λZ Z=>False) P3 (fpY H3 _ fr3 big) st3 stop) λr s4 qz=>?_;let(hr,I4):=qz;subst hr;let(m,hm,_):=I4.loc;have e4:=(I4.pin _<|HW _<|HC.mpr rfl).1;exact hQQ _ _ s4 _ (m,hm) (I2.fpOk hCle<|by rw[af<|Ne.symm hDC];exact I4.free) (λh' sb=>y6 I2 f2 I4 (Hc _) hCle hDC sb d3 e4 r3 z3)<|qn _ d3
  .
   have P3:Inv (cxC X ls scope G2.objs.size s2 H2 fp) [(↥s2 ,{cls:=.type "list",data:=.seq its.toArray k})] (List.replicate ⇑ls none++σ) H3 s3:=I3.pins_of λp hp=>by have this:=HC.mp hp;subst this;exact(e3,d3,hDC,nofD,λv z=>by cases z)
   refine thx (T.item (cxC X ls scope G2.objs.size s2 H2 fp) rfl rfl rfl hcalm i _ s3 _ H3 (λZ Z=>False) P3 (fpY H3 _ fr3 big) st3 go) λr s4 qz=>?_;let(u,hr,h4):=qz;subst hr;refine thx h4 λZ s5 qz=>?_;let(x,H5,I5,r5,y5,st5,fr5):=qz;have I5':=I5.pinned (fpY H5 _ fr5 big)<|T.obj _ _ st5;refine thx (hg _ _ _ _ _ s5 _ H5 x u _ I5' r5<|step x H5 y5) λZ s6 qz=>?_;let(σ6,H6,I6,q6):=qz;let(dr,ln,q6):=q6;have back:∀ {s7:Ld}{H7:Hp},Inv (cxC X ls scope G2.objs.size s2 H2 fp) ([((↥s2:Lb) ,({cls:=.type "list",data:=.seq its.toArray k}:Le))]++lF fp s5.heap) σ6 H7 s7->
     Inv (cxC X ls scope G2.objs.size s2 H2 fp) [] (List.replicate ⇑ls none++σ) H7 s7/\tn (i+1) s7.heap/\(∀b∈fp ,H7 b=none)/\H7 ↥s2=none/\s7.heap.get? ↥s2=some {cls:=.type "list",data:=.seq its.toArray k}:=λ{s7 H7} I7=>by
    have pD:=I7.pin _<|HW _<|Jd _<|HC.mpr rfl;have pF:∀b∈fp,∀o,s5.heap.get? b=`o->s7.heap.get? b=`o/\H7 b=none:=λb hb o e=>by have q:=I7.pin (b ,o)<|HW _<|HW _<|iW hb e;exact(q.1,q.2.1)
    refine((I7.pins_of (pins':=[]) λp hp=>absurd hp ⇑_).weak ?_ ?_,T.keep _ _ _ st5 λb hb o e=>(pF b hb o e).1,λb hb=>?_,pD.2.1,pD.1);rw[ln,Hk,II]
    .intro j v ej;by_cases hj:j<⇑ls;rw[HN (by simpa using hj),JX,bf hj]at ej;cases ej;rw[Iq (by simpa using hj),II,<-dr,J3]at ej;rw[<-ej];congr 1;omega
    let(o,e,_):=T.obj _ _ st5 b hb;exact (pF b hb o e).2
   refine thx (ht _ _ _ _ _ s6 σ6 H6 _ I6 q6) λb s7 qz=>?_;let(H7,I7,q7):=qz;cases b with
   |false=>
    rw[aZ Hv]at q7 ⊢;let(m',hm,w7):=hR _ _ q7;let(a1,a2,a3,a4,a5):=back I7;exact(m',hm,i+1,ys,its,k,H7,a1,a2,a3,a4,a5,r3,z3,w7)
   |true=>
    rw[bf rfl]at q7 ⊢;refine thx (he _ _ _ _ _ s7 σ6 H7 _ I7 q7) λy s8 qz=>?_;let(v,H8,I8,r8,z8,q8):=qz;let(m',hm,w8):=hR _ _ q8;let(a1,a2,a3,a4,a5):=back I8;have pl:s8.heap.PlainList ↥s2 its.toArray:=(k,a5)
    refine wpAny_list_append_plain (hsz:=by rw[Ho,<-⇑r3];exact z3) pl λh9 hl9 hs9=>?_;let(k9,e9):=hl9;have cellN:∀ (y:Str) (c:Lb),(cxC X ls scope G2.objs.size s2 H2 fp).env.cells.lookup y=`c->c≠↥s2:=λy c e=>by have e1:X.env.cells.lookup y=`c:=mw X.env scope.names [] cf (λy a e=>by simp at e) y c e;let(v,o,ho,_):=I2.cell y c e1;exact Hs<|Hj ho
    have I9:Inv (cxC X ls scope G2.objs.size s2 H2 fp) [] (List.replicate ⇑ls none++σ) H8 {s8 with heap:=h9}:=
     a1.turned (t':=s8.toks) (λb o hb e=>hs9.extBut b o hb e) a4 hDC (.inr<|Hc _) cellN (λp hp=>absurd (show p∈([]:↑(Lb×Le)) from hp) ⇑_)
    refine(m',hm,i+1,ys++[v],its++[y],k9,H8,I9,T.keep _ _ _ a2 λb hb o e=>hs9.extBut b o (Hs<|ltf b hb) e,a3,a4,?_,r3.append<|.cons r8 .nil,?_,w8);simpa using e9;rw[Hk,HI];exact z8
 exact codeAny_compStart_list (loop _ rfl)<|T.self _ 0 _ _ _ st1<|loop _ rfl
def oS (hcalm:X.calm=true)(S:CScope X ls scope)(hi:PI X tg iter wi)
  (hg:∀C s2 H2 fp ,PG (cxC X ls scope C s2 H2 fp) tg g)(ht:∀C s2 H2 fp ,MO (cxC X ls scope C s2 H2 fp) ifs tt)(he:∀C s2 H2 fp ,PE (cxC X ls scope C s2 H2 fp) elt te)
  (hs:∀x ,LY iter X.env x=pure x):PE X (.ListComp elt [(tg,iter,ifs,0)] scope pos) (RX X.N ls wi g tt te):=by
 intro gV s σ H Q I h;rw[eval_ListComp];refine wD (use:=none) hcalm S hi hg ht he hs I h λD C s' H' hm J hI q=>?_;let(m,hm):=hm;exact(m,hm,λh' sb=>(.ref D,H',hI h' sb,rfl,q))
end
end
section
noncomputable def uV (ls:↑Str)(sc outer:Lz):Bool:=(sc.kind==.function && ls.all λy=>(sc.names.lookup ⟨#[63]++y.cps⟩).isNone)&&sc.names.all λy=>(y.2 !=.cell)&&(y.2 !=.local ||(sc.names.lookup y.1==some .local && ls.contains y.1))&&(y.2 !=.free||outer.names.lookup y.1==some .cell||outer.names.lookup y.1==some .free)
def CScope.of {ls:↑Str}(outer:Lz)(h:uV ls scope outer=true:=by decide+kernel)(ho:X.env.scope=outer:=by rfl):CScope X ls scope:=by
 unfold uV at h;rw[HD,HJ]at h;let(h0,h):=h;rw[HD,HJ]at h0;let(h0,hq):=h0;refine(by simpa using h0,λy hy e=>?_,λy hy e=>?_,λy hy=>?_,λy hy e=>?_,λy hy k e=>by have q:=hq y hy;rw[e]at q;cases q);have q:=h y hy;simp [e]at q;have q:=h y hy;simp [e]at q;exact q.1;have q:=h _<|PySem.mem_of_lookup hy;simp at q;exact q.2;have q:=h y hy;simp [e]at q;show X.env.scope.names.lookup y.1=_\/X.env.scope.names.lookup y.1=_;rw[ho];exact q
def CMulB (i j:Int):Prop:=i.natAbs<2^65536/\j.natAbs<2^65536
set_option tactic.hygienic true in
def u0 {i:Int}{n:Nat}(h:i.natAbs<2^n):K6.Int.intBits i<=n:=by
 unfold K6.Int.intBits;split;exact Hy _
 .rename_i hz;have hz':i.natAbs≠0:=by intro e;exact hz (by simp_all)
  have:=(Nat.log2_lt hz').mpr h;omega
def CMulB.ok {i j:Int}(h:CMulB i j):IntMulOk i j:=.of_bits (HA (u0 h.1) ↥_)<|HA (u0 h.2) ↥_
section
variable {X:Cx}
theorem gO:∀ {ns:↑Int}{us:↑K5},Vals (ns.map V.int) us->IntsAre us ns|[],_,.nil=>.nil|n::r,_,.cons h t=>by let(tk,rfl):=h;exact .cons n tk<|gO t
def zC (hc:X.calm=true):CallR X (.builtin "sum") (λxs H Q=>∃ (p:Lb) (ns:↑Int) ,xs=[.ref p]/\SqL X.K H p (ns.map V.int)/\Q (.int ns.sum) H):=by
 intro gV s σ H xs us Q I r h;let(p,ns,rfl,hq,q):=h;let(u,rfl,ru):=Sk r;cases ru;let(its,rv,pl,hz):=I.list hq;have hi:=gO rv;let(xs,e):=hi.allInts.items;have hl:s.heap.IsList p (intItems xs):=by rw[<-e];exact pl.isList
 refine sum_intListG (I.ok.hd hc) hl λh' tk t' hk=>?_;have es:preSum (Mm xs) xs.size=ns.sum:=by rw[preSum_eq,J4 ⇑_,<-nums_intItems,<-e];rw[show its.toArray.toList=its from rfl,hi.numsOf]
 exact(.int ns.sum,H,I.kept (t':=tk) hk,(t',by rw[es]),q)
mutual
inductive Den (K:Zf)(H:Hp):V->Mn->Prop|non:Den K H .non .none|bl (b):Den K H (.bl b) (.bool b)|int (i):Den K H (.int i) (.int i)|str (x):Den K H (.str x) (.str x)|lst {a xs ds}:SqL K H a xs->MC K H xs ds->Den K H (.ref a) (.list ds)|tup {a xs ds}:SqT K H a xs->MC K H xs ds->Den K H (.ref a) (.tuple ds)
inductive MC (K:Zf)(H:Hp):↑V->↑Mn->Prop|nil:MC K H [] []|cons {x xs d ds}:Den K H x d->MC K H xs ds->MC K H (x::xs) (d::ds)
end
mutual
theorem fJ (I:Inv X gV σ H s):∀ {x:V}{d:Mn}{u:K5},Den X.K H x d->RelV x u->∃as,Reads s.heap u d as|_,_,_,.non,r=>by cases r;exact(_,.none)|_,_,_,.bl b,r=>by cases r;exact(_,.bool b)|_,_,_,.int i,r=>by let(t,rfl):=r;exact(_,.int i t)|_,_,_,.str i,r=>by let(t,rfl):=r;exact(_,.str i t)|_,_,_,.lst hq ha,r=>by cases r;let(its,rv,(o,n,e1,e2,e3,e4),hz):=I.list hq;let(as,h):=gx I ha rv;exact(_,.list e1 e2 e4<|by simpa using h)|_,_,_,.tup hq ha,r=>by cases r;let(its,rv,(o,e1,e2,n,e3),hz):=I.tuple hq;let(as,h):=gx I ha rv;exact(_,.tuple e1 e2 e3<|by simpa using h)
theorem gx (I:Inv X gV σ H s):∀ {xs:↑V}{ds:↑Mn}{us:↑K5},MC X.K H xs ds->Vals xs us->∃as,ReadsAll s.heap us ds as
 |_,_,_,.nil,.nil=>(_,.nil)
 |_,_,_,.cons h t,.cons r rs=>by let(as,h1):=fJ I h r;let(bs,h2):=gx I t rs;exact(_,.cons h1 h2)
end
noncomputable def Qx (K:Zf)(A:Lf)(neg:Bool):R2:=λx y H Q=>∃d e,Den K H x d/\Den K H y e/\d.canLay0=true/\e.canLay0=true/\A.units+min d.depth e.depth<Lg/\Q (.bl<|if neg then !Mn.eqv d e else Mn.eqv d e) H
def DG:OpR X (LK .Eq) (Qx X.K X.A false):=by intro gV s σ H x y v u Q I rx ry h;let(d,e,hd,he,cd,ce,hu,q):=h;let(as,ra):=fJ I hd rx;let(bs,rb):=fJ I he ry;exact SeqAt.compareEq_reads ra rb cd ce hu (.bl _,H,I,rfl,q)
def DC:OpR X (LK .NotEq) (Qx X.K X.A true):=by intro gV s σ H x y v u Q I rx ry h;let(d,e,hd,he,cd,ce,hu,q):=h;let(as,ra):=fJ I hd rx;let(bs,rb):=fJ I he ry;exact SeqAt.compareNe_reads ra rb cd ce hu (.bl _,H,I,rfl,q)
end
end
section
noncomputable def CXx (P:K8)(w:K9):CXT:=λouter H s E e s'=>
 ∃ (ea:Lb) (cls a0:K5) (H':Hp) (B:La),e=.ref ea/\s'.os=s.os/\LC s'.gens/\Un (frs outer) [] H H' s.heap s'.heap/\HOk P w H' s'.heap/\La.FlyingW B outer ea cls a0 s'.heap/\
   (∀b o ,s'.heap.get? b=`o->b ∉frs outer->(H' b≠none\/ ∃o' ,s.heap.get? b=`o')->B.get? b=`o)/\s.heap.get? ea=none/\H' ea=none/\E cls none H'
def HOk.there {w:K9}(x:HOk P w H h)(e:H a=`o):∃ob,h.get? a=`ob:=by
 have q:=x a o e;cases o with|lst xs=>let(_,its,n,_,e):=q;exact(_,e)|tup xs=>let(_,its,_,(ob,e,_),_):=q;exact(_,e)|dK kvs=>let(_,_,vs,_,ob,es,ep,e,_):=q;exact(_,e)|dT kvs=>let(_,_,xs,_,ob,es,ep,e,_):=q;exact(_,e)|dN b xs ep=>let(_,_,xs,_,ob,es,e,_):=q;exact(_,e)|set S n=>let(ob,_,_,_,e,_):=q;exact(_,e)|ins C dx fs=>let(_,_,_,e,_):=q;exact(_,e)|own y=>exact q|xd fs=>let(_,(_,_,_,e,_),_):=q;exact(_,e)|met f y=>exact(_,q)|rng lo hi=>let(_,_,_,e):=q;exact(_,e)|frz ob u=>exact(_,q.1)|tbl ps=>exact(_,q)|ext φ=>exact q.2.1
structure InDef (X:Cx):Prop where
 stk:X.stack=X.env::X.outer
 fr:X.env.frame=some X.env.locals
 ex:X.ex=[]
theorem InDef.frs (D:InDef X):frs X.stack=X.env.locals::X.fs:=by rw[D.stk];unfold L2.frs;rw[Jc,D.fr];rfl
section
variable {X:Cx}{gV:↑(Lb×Le)}{σ:St}{H:Hp}{s:Ld}
def Inv.frame_obj (I:Inv X gV σ H s)(hb:b∈frs X.stack):∃o,s.heap.get? b=`o/\∀vs,o.data≠.fields vs:=(I.stack.mem hb).2
def qO (I:Inv X gV σ H s)(D:InDef X){args:↑K5}(hx:J5 s.heap h' e C args){M:Model}{Q:Unit->Ld->Prop}{E:K5->Ld->Prop}
  (hQ:∀ (h'':La) (a0:K5) (B:La) ,La.FlyingW B X.outer e C a0 h''->(∀b o ,s.heap.get? b=`o->b ∉frs X.stack->B.get? b=`o)->(∀b∈frs X.stack ,B.get? b=none)->s.heap.UpToSlots h''->Q () {s with heap:=h''}):
  Lh M X.A (leaving X.env<|.ref e) Q E {s with heap:=h'}:=by
 have hin:∀env∈X.stack,∀b,env.frame=`b->b∈frs X.stack:=λenv he b hb=>JR.mpr (env,he,hb);have hl:=PySem.W.funFrames_hide I.stack hin;have fr:=I.ok.frames;rw[D.stk]at fr;have hl':s.heap.FunFrames (PySem.W.hideAll s.heap<|frs X.stack) (X.env::X.outer):=by rw[<-D.stk];exact hl
 exact wpAny_leaves_madeW (s:={s with heap:=h'}) fr D.fr (λb o q=>PySem.W.of_hideAll _ q) hl' hx λh'' t x1 x2 x3 x4=>
  hQ h'' (.ref t) _ x1 (λb o q hb=>PySem.W.hideAll_get _ q hb) (λb hb=>PySem.W.hideAll_none _ hb) ((La.UpToSlots.of_keeps hx.keeps).trans x4)
end
section
variable {P:K8}{w:K9}{K:Zf}{mg:Str->Option K5}{base:La}{N:↑Str}{qual:Str}{scope:Lz}{f:Lb}{cd:K5}{A:Lf}{outer:↑Env}{s:Ld}{H:Hp}{E:XK}
def l9 :InDef (Nx CX P w K mg base N qual scope f cd A outer s H E):=(rfl,rfl,rfl)
def oM {args:↑K5}(I:Inv (Nx (CXx P w) P w K mg base N qual scope f cd A outer s H E) gV σ H1 s1)
  (hx:J5 s1.heap h' e C args)(hE:E C none H1):(Nx (CXx P w) P w K mg base N qual scope f cd A outer s H E).xe (.ref e) {s1 with heap:=h'}:=by
 refine qO I l9 hx λh'' a0 B fl cov nof up=>?_;have fr2:∀b,b∈frs (Nx (CXx P w) P w K mg base N qual scope f cd A outer s H E).stack↔b=↥s\/b∈frs outer:=λb=>by rw[(l9 (CX:=CXx P w)).frs];exact Hd
 have old:∀b o,s.heap.get? b=`o->b≠↥s:=λb o q=>Hs<|Hj q;have keepB:∀b o,s1.heap.get? b=`o->b≠↥s->b ∉frs outer->h''.get? b=`o:=λb o q h1 h2=>fl.1 b o (cov b o q λz=>((fr2 b).mp z).elim h1 h2);have tr:∀b u,H1 b=`u->b≠↥s/\b ∉frs outer:=λb u q=>by
  refine(λz=>?_,λz=>?_);have:=I.stkFree b<|(fr2 b).mpr<|.inl z;rw[this]at q;cases q;have:=I.stkFree b<|(fr2 b).mpr<|.inr z;rw[this]at q;cases q
 have slotB:∀b o,s1.heap.get? b=`o->b∈frs outer->∃sl,h''.get? b=some {o with slots:=sl}:=λb o q hb=>by let(o',e',nd):=I.frame_obj<|(fr2 b).mpr<|.inr hb;rw[q]at e';cases e';exact up b o q nd
 have baseU:Un (frs outer) [] H H1 s.heap s1.heap:=I.base;refine(e,C,a0,H1,B,rfl,I.os,I.bare,(λb o q n hb hx=>?_,λb o q n hb hx=>?_,λb o q n hx=>baseU.free b o q n hx,λb o q hx=>?_,baseU.tups,baseU.frzs,baseU.tbls),λb u q=>?_,fl,λb o q hb hh=>?_,?_,?_,hE);exact keepB b o (baseU.keep b o q n hb hx) (old b o q) hb;let(sl,q1):=baseU.slot b o q n hb hx;let(sl',q2):=slotB b _ q1 hb;exact(sl',q2)
 .let(o',q1):=baseU.there b o q hx;by_cases hb:b∈frs outer;let(sl',q2):=slotB b _ q1 hb;exact(_,q2);exact(o',keepB b o' q1 (old b o q) hb)
 .refine (I.hok b u q).stay (λc v hc r=>?_) (λJ r=>r) λJ J r=>r;have:∃u,H1 c=`u:=by
   rcases hc with rfl|hc
   exact(u,q);exact(_,hc)
  let(u',qu):=this;exact keepB c v r (tr c u' qu).1 (tr c u' qu).2
 .have:∃o1,s1.heap.get? b=`o1/\b≠↥s:=by
   rcases hh with hh|⟨o',hh⟩
   .cases qu:H1 b with
    |none=>exact absurd qu hh
    |some u=>
     let(o1,q1):=I.hok.there qu;exact(o1,q1,(tr b u qu).1)
   let(o1,q1):=baseU.there b o' hh ⇑_;exact(o1,q1,old b o' hh)
  let(o1,q1,hne):=this;have q2:=keepB b o1 q1 hne hb;rw[q]at q2;cases q2;exact cov b o q1 λz=>((fr2 b).mp z).elim hne hb
 .cases q:s.heap.get? e with
  |none=>rfl
  |some o'=>
   let(o1,q1):=baseU.there e o' q ⇑_;rw[hx.new]at q1;cases q1
 .cases q:H1 e with
  |none=>rfl
  |some u=>
   let(o1,q1):=I.hok.there q;rw[hx.new]at q1;cases q1
def d8:gB (CXx P w) (Nx (CXx P w) P w K mg base N qual scope f cd A outer s H E) E:=by
 intro gV σ H1 s1 e s2 I hc;let(ea,cls,a0,H2,B,rfl,os,bare,un,hok,fly,cov,new,hn,hE):=hc;have frm:=I.ok.frames;refine wpAny_leaves_onW (show (A.deeper<|Ma qual scope ↥s f cd).frames=some (Ma qual scope ↥s f cd::outer) from frm) rfl fly λh' fl up=>?_;have fr2:∀b,b∈frs (Nx (CXx P w) P w K mg base N qual scope f cd A outer s H E).stack↔b=↥s\/b∈frs outer:=λb=>by rw[(l9 (CX:=CXx P w)).frs];exact Hd
 have old:∀b o,s.heap.get? b=`o->b≠↥s:=λb o q=>Hs<|Hj q;have baseU:Un (frs outer) [] H H1 s.heap s1.heap:=I.base;have frN:∀b,b∈frs (Nx (CXx P w) P w K mg base N qual scope f cd A outer s H E).stack->H2 b=none:=λb hb=>by let(o,q,_):=I.frame_obj hb;exact un.free b o q (I.stkFree b hb) ⇑_
 have tr:∀b u,H2 b=`u->b ∉frs (Nx (CXx P w) P w K mg base N qual scope f cd A outer s H E).stack:=λb u q z=>by rw[frN b z]at q;cases q
 have slotB:∀b o,s2.heap.get? b=`o->b∈frs (Nx (CXx P w) P w K mg base N qual scope f cd A outer s H E).stack->∃sl,h'.get? b=some {o with slots:=sl}:=λb o q hb=>by let(o',e',nd):=(fly.2.2.1.mem hb).2;rw[q]at e';cases e';exact up b o q nd
 have noSt:∀b o,s.heap.get? b=`o->b ∉frs outer->b ∉frs (Nx (CXx P w) P w K mg base N qual scope f cd A outer s H E).stack:=λb o q hb z=>((fr2 b).mp z).elim (old b o q) hb;refine(ea,cls,a0,H2,B,rfl,os.trans I.os,bare,(λb o q n hb hx=>?_,λb o q n hb hx=>?_,λb o q n hx=>?_,λb o q hx=>?_,λb xs q=>un.tups b xs<|baseU.tups b xs q,λb o u q=>un.frzs b o u<|baseU.frzs b o u q,λb ps q=>?_),λb u q=>?_,fl,λb o q hb hh=>?_,?_,hn,hE);have q1:=baseU.keep b o q n hb hx;have q2:=un.keep b o q1 (baseU.free b o q n hx) (noSt b o q hb) hx;exact fl.1 b o<|cov b o q2 (noSt b o q hb)<|.inr (o,q1);let(sl,q1):=baseU.slot b o q n hb hx;let(sl2,q2):=un.slot b _ q1 (baseU.free b o q n hx) ((fr2 b).mpr<|.inr hb) hx;let(sl3,q3):=slotB b _ q2<|(fr2 b).mpr<|.inr hb;exact(sl3,q3);let(o1,q1):=baseU.there b o q hx;exact un.free b o1 q1 (baseU.free b o q n hx) hx
 .let(o1,q1):=baseU.there b o q hx;let(o2,q2):=un.there b o1 q1 hx;by_cases hb:b∈frs outer;let(sl,q3):=slotB b o2 q2<|(fr2 b).mpr<|.inr hb;exact(_,q3);exact(o2,fl.1 b o2<|cov b o2 q2 (noSt b o q hb)<|.inr (o1,q1))
 let(m1,e1):=baseU.tbls b ps q;let(m2,e2):=un.tbls b _ e1;exact(m1++m2,by rw[e2,Ku])
 .refine (hok b u q).stay (λc v hc r=>?_) (λJ r=>r) λJ J r=>r;have:∃u,H2 c=`u:=by
   rcases hc with rfl|hc
   exact(u,q);exact(_,hc)
  let(u',qu):=this;exact fl.1 c v (cov c v r (tr c u' qu)<|.inl<|by rw[qu];simp)
 .have:∃o2,s2.heap.get? b=`o2/\B.get? b=`o2:=by
   rcases hh with hh|⟨o',hh⟩
   .cases qu:H2 b with
    |none=>exact absurd qu hh
    |some u=>
     let(o2,q2):=hok.there qu;exact(o2,q2,cov b o2 q2 (tr b u qu)<|.inl hh)
   let(o1,q1):=baseU.there b o' hh ⇑_;let(o2,q2):=un.there b o1 q1 ⇑_;exact(o2,q2,cov b o2 q2 (noSt b o' hh hb)<|.inr (o1,q1))
  let(o2,q2,q3):=this;have q4:=fl.1 b o2 q3;rw[q]at q4;cases q4;exact q3
 .cases q:s.heap.get? ea with
  |none=>rfl
  |some o'=>
   let(o1,q1):=baseU.there ea o' q ⇑_;rw[new]at q1;cases q1
end
end
section
noncomputable def Its (x:Str):It:=(λi J=>i<x.cps.size,λi H v H'=>H'=H/\∃c,x.cps.toList[i]?=`c/\v=.str ⟨#[c]⟩,λi J=>i=x.cps.size)
def rL (x:Str):["enumerate","zip","dict_itemiterator","dict_reverseitemiterator","odict_iterator","itertools.zip_longest","itertools.pairwise"].contains (Mo x)=false:=by unfold Mo;split<;>decide
def ni {w:K9}(hh:A.handled=none)(I:Lb)(x:Str)(t:Tok):Walks prog w A I [I] [I] x.cps.size (SignAt x) (λi h=>h.IsStrIter I (Mo x) x t i):=by
 unfold Mo;split;exact Walks.strAscii hh I x t;exact Walks.strWide hh I x t
def wj {w:K9}{E:K5->Ld->Prop}{x:Str}{i:Nat}{Q:K5->Ld->Prop}(hit:s.heap.IsStrIter it (Mo x) x t i)(h:Q (.ref it) s):
  Lh (Li prog w) A (pyIter<|.ref it) Q E s:=by
 unfold Mo at hit;split at hit;exact wpAny_pyIter_striter_ascii hit h;exact wpAny_pyIter_striter_wide hit h
def wV {P:K8}{w:K9}{K:Zf}{tg:Expr}(it:Lb)(x:Str)(t:Tok):M3 P w K tg (Its x) [it] it (λi h=>h.IsStrIter it (Mo x) x t i) where
 mem:=⇑_
 obj:=λi h st b hb=>by
  have e:b=it:=by simpa using hb
  subst e;let(o,e,c,d):=st;exact(o,e,λv z=>by rw[d]at z;cases z)
 keep:=λi h h' st k=>by let(o,e,r):=st;exact(o,k it ⇑_ o e,r)
 item:=by intro X hP hw hK hc i gV s σ H E I hf st hg;subst hP hw hK;let(f0,f1,f2,f3,f4,f5):=hf it ⇑_;refine (ni (I.ok.hd hc) it x t).item i s _ _ hg st λv h' tk hv st' kk=>?_;let(c,u,hcu,rfl):=hv;have I1:Inv X gV σ H {s with heap:=h',toks:=tk}:=I.turned (λb o hb e=>kk b o (by simpa using hb) e) f0 f1 f3 f4 f5;let(o,e,c',d):=id st';exact(_,rfl,uO (s:={s with heap:=h',toks:=tk}) e c' d (rL x) (.str ⟨#[c]⟩,H,I1,(u,rfl),(rfl,c,by simpa using hcu,rfl),st',λb hb=>(hf b hb).1))
 done:=by intro X hP hw hK hc i gV s σ H E I hf st hg;subst hP hw hK;let(f0,f1,f2,f3,f4,f5):=hf it ⇑_;have hg:i=x.cps.size:=hg;subst hg;exact (ni (I.ok.hd hc) it x t).done s _ _ st λh' tk kk=>(rfl,I.turned (λb o hb e=>kk b o (by simpa using hb) e) f0 f1 f3 f4 f5)
 self:=λJ J J J J st h=>wj st h
section
variable {X:Cx}{tg:Expr}
noncomputable def iStr (tl:TE):TI:=λσ H R=>tl σ H λv H1=>∃x,v=.str x/\R (Its x) H1
def xJ {tl:TE}(hl:PE X l tl):PI X tg l (iStr tl):=by
 intro gV s σ H R I h;refine thn (hl gV s σ H _ I h) λv s1 qz=>?_;let(y,H1,I1,r1,q1):=qz;let(x,rfl,q):=q1;let(t,rfl):=r1;refine wpAny_pyIter_strU ?_;refine(↥s1,[↥s1],_,_,H1,rfl,I1.kept (t':=s1.toks) λb o e=>He _ e,wV _ x t,(_,Hu _ rfl,rfl,rfl),λb hb=>?_,q);have e:b=↥s1:=by simpa using hb
 subst e;exact I1.fpOk (Hc _)<|I1.hok.fresh<|Hc _
end
def GN {x:Str}{g:TG}{tb:TS}{D:ME}{σ:St}{H:Hp}(Pv:Nat->St->Hp->Prop)(h0:Pv 0 σ H)
  (hs:∀i c σ H ,x.cps.toList[i]?=`c->Pv i σ H->g (.str ⟨#[c]⟩) σ H λσ2 H2=>tb {D with nx:=Pv<|i+1,ct:=Pv<|i+1,bk:=D.nx} σ2 H2)(hd:∀σ H ,Pv x.cps.size σ H->D.nx σ H):
  ∃W:Nat->Nat->St->Hp->Prop,(∃m ,W 0 m σ H)/\∀i m σ H,W i m σ H->
   ((Its x).stop i H/\D.nx σ H)\/((Its x).go i H/\∃N:St->Hp->Prop ,(∀σ' H' ,N σ' H'->∃m',m'<m/\W (i+1) m' σ' H')/\∀v H',(Its x).yld i H v H'->g v σ H' λσ2 H2=>tb {D with nx:=N,ct:=N,bk:=D.nx} σ2 H2):=by
 refine(λi m σ H=>m=x.cps.size-i/\i<=x.cps.size/\Pv i σ H,(x.cps.size,⇑_,Hy _,h0),?_)
 rintro i m σ H ⟨rfl,hi,p⟩
 by_cases hlt:i<x.cps.size;refine .inr (hlt,Pv<|i+1,λσ' H' p'=>(x.cps.size-(i+1),∅,rfl,hlt,p'),λv H' y=>?_);let(e,c,hc,rfl):=y;subst e;exact hs i c σ _ hc p;have e:i=x.cps.size:=∅;subst e;exact .inl (rfl,hd σ H p)
def qW {x:Str}{ls:↑Str}(Pv:Nat->↑V->Hp->Prop)(h0:Pv 0 [] H)
  (hs:∀i c ys H ,x.cps.toList[i]?=`c->Pv i ys H->g (.str ⟨#[c]⟩) (List.replicate ⇑ls none++σ) H λσ2 H2=>σ2.drop ⇑ls=σ/\⇑σ2=⇑ls+⇑σ/\tt σ2 H2 λb H3=>if b=true then te σ2 H3 λv H4=>⇑ys<sizeLine/\Pv (i+1) (ys++[v]) H4 else Pv (i+1) ys H3)
  (hd:∀ys H ,Pv x.cps.size ys H->∀D,H D=none->Q (.ref D) (upd H D<|.lst ys)):MA (Its x) ls g tt te σ H Q:=by
 refine(λi m ys H=>m=x.cps.size-i/\i<=x.cps.size/\Pv i ys H,(x.cps.size,⇑_,Hy _,h0),?_)
 rintro i m ys H ⟨rfl,hi,p⟩
 by_cases hlt:i<x.cps.size;refine .inr (hlt,Pv<|i+1,λys' H' p'=>(x.cps.size-(i+1),∅,rfl,hlt,p'),λv H' y=>?_);let(e,c,hc,rfl):=y;subst e;exact hs i c ys _ hc p;have e:i=x.cps.size:=∅;subst e;exact .inl (rfl,hd ys H p)
section
variable {X:Cx}
theorem mL:∀ {bs:↑Bool}{us:↑K5},Vals (bs.map V.bl) us->LSm.BoolsAre us bs|[],_,.nil=>.nil|b::r,_,.cons h t=>by have h:_=K5.bool b:=h;subst h;exact .cons b<|mL t
def mE (hc:X.calm=true):CallR X (.builtin "all") (λxs H Q=>∃ (p:Lb) (bs:↑Bool) ,xs=[.ref p]/\SqL X.K H p (bs.map V.bl)/\Q (.bl<|bs.all id) H):=by
 intro gV s σ H xs us Q I r h;let(p,bs,rfl,hq,q):=h;let(u,rfl,ru):=Sk r;cases ru;let(its,rv,pl,hz):=I.list hq;have hb:=mL rv;have hl:=pl.isList;have hlt:p<↥s:=by let(_,e,_):=hl;exact Hj e
 refine call_all_walk<|wpAny_pyIter_list hl ?_
 refine(↥s,[↥s,p],[↥s],its.toArray.size,_,_,λi=>(bs[i]?).getD true,rfl,Walks.list (A:=X.A.in1) (I.ok.hd hc) _ p (Hs hlt) its.toArray,
  ((_,Hu _ rfl,rfl,rfl),hl.push _),λi v s' Q' E' hP hQ=>?_,λh' tk hk=>?_)
 let(b,e,rfl):=hb.get i v (by simpa using hP);simp only[e,KA]at hQ;exact Lq hQ
 .have e:((List.range its.toArray.size).all λi=>(bs[i]?).getD true)=bs.all id:=by rw[Ho,⇑hb];exact LSm.range_all bs
  rw[e];exact(.bl _,H,I.kept (t':=tk)<|LSm.kept_iter hk,rfl,q)
set_option tactic.hygienic true in
def Ry:SlR X (λx lo hi H Q=>∃z ,x=.str z/\⇑z<=sizeLine/\Q (.str<|StrLaws.sliceText z lo hi) H):=by
 intro gV s σ H x v vl vu lo hi sl Q I rx hs pl pu h;let(z,rfl,hz,q):=h;let(t,rfl):=rx;have part:∀ {v:K5}{o:Option Int},IsPart v o->∃p:Option (Int×Tok),v=partValue p/\p.map (·.1)=o:=λ{v o} h=>by
  cases h with|none=>exact(none,rfl,rfl)|int i t=>exact(some (i ,t),rfl,rfl)
 let(l,rfl,el):=part pl;let(u,rfl,eu):=part pu;refine("str",_,slot_str_getitem.lookup,Md s z t,?_);let(o,h1,h2,h3):=hs;refine wpAny_getItem_str_slice (l:=l) (u:=u) (st:=none) (o,h1,h2,h3) rfl ?_;subst el eu;unfold sliceMade slicePicked;unfold StrLaws.sliceText at q;simp only[Option.map_none,JY];split;rename_i hc;rw[bf hc]at q;exact(.str z,H,I,(t,rfl),q);rename_i hc;rw[aZ hc]at q;refine(?_,.str _,H,I.tok _,(_,rfl),q);show ((_:↑Nat).toArray).size<=sizeLine;rw[Ho];exact HA (List.length_filterMap_le _ _)<|HA (sliceIndices_le _ _ _) hz
def jD:CallR X (.type "int") (λxs H Q=>∃ (z:Str) (n:Int) ,xs=[.str z]/\PySem.intText? z=`n/\⇑z<=640/\Q (.int n) H):=by intro gV s σ H xs us Q I r h;let(z,n,rfl,hn,hl,q):=h;let(u,rfl,t,rfl):=Sk r;exact PySem.W.KIN.call_text hn hl (.int n,H,I.tok _,(_,rfl),q)
def pG:CallR X (.type "str") (λxs H Q=>∃ (z:Str) ,xs=[.str z]/\Q (.str z) H):=by intro gV s σ H xs us Q I r h;let(z,rfl,q):=h;let(u,rfl,t,rfl):=Sk r;exact P.str_of_str (.str z,H,I,(_,rfl),q)
def PZ:OpR X (LZ .Mult) (λx y H Q=>∃ (z:Str) (n:Int) ,x=.str z/\y=.int n/\MulOk z n/\Q (.str<|Txt.mul z n) H):=by intro gV s σ H x y v u Q I rx ry h;let(z,n,rfl,rfl,ho,q):=h;let(t,rfl):=rx;let(t',rfl):=ry;exact SB.mul ho λt' k=>(.str _,H,I.tok k,(_,rfl),q)
end
def sV (x:Str)(c:Nat):(!(K6.Str.occurrences x ⟨#[c]⟩ 0 ⇑x 1).isEmpty)=decide (c∈x.cps.toList):=StrLaws.found_one x c
def u7 (X:Cx)(E:XK):Prop:=∀ (gV:↑(Lb×Le)) (σ:St) (H:Hp) (s:Ld) (h':La) (e:Lb) (C:K5) (args:↑K5),Inv X gV σ H s->J5 s.heap h' e C args->E C none H->X.xe (.ref e) {s with heap:=h'}
def fq {w:K9}{K:Zf}{mg:Str->Option K5}{N:↑Str}{qual:Str}:
 u7 (Nx (CXx P w) P w K mg base N qual scope f cd A outer s H E) E:=λJ J J J J J J J I hx hE=>oM I hx hE
noncomputable def CD (C:K5)(E:XK)(t:TA):TS:=λ_ σ H=>t σ H λvs H1=>⇑vs<=sizeLine/\E C none H1
abbrev Nc:↑K5:=[.type "ValueError",.type "Exception",.type "BaseException",.type "object"]
section
variable {X:Cx}{C:Lb}{E:XK}{x:Str}{np cpos pos:LF}{a:Expr}{es:↑Expr}{t:TA}
set_option tactic.hygienic true in
def ft (hX:u7 X E)(hc:X.calm=true)(hg:Gl X x)(hm:X.mg x=some (.ref C))(q:PySem.W.excIn X.K C Nc "ValueError.__new__"=true)(ha:PA X (a::es) t)
  (he:LH (a::es) X.env=(false ,LD a X.env)::LH es X.env)(hplain:(LG cpos<|LH es X.env).any (·.1)=false)(hd:(x==("__debug__":Str))=false):
  PS X (.Raise (some<|.Call (.Name x np) (a::es) [] cpos) none pos) (CD (.ref C) E t):=by
 intro gV s σ H D I h;unfold PySem.W.excIn at q;split at q
 .rename_i dd cd sl ho;split at q
  .rename_i C' bm k0 k1 k2 k3 n k5 hm' hs;simp only[HD,beq_iff_eq,KB]at q;let(((((rfl,rfl),hdel),ht),hok),hni):=q;let(nm,bs,mro,ns,qn,hd',sn,sub,ab,col,del):=cd;dsimp only at hm' hdel hok hni;subst hm' hdel;have hsl:sl= #[k0,k1,k2,k3,some<|.builtin "ValueError.__new__",k5]:=by obtain⟨l⟩:=sl;simp only at hs;rw[hs]
   subst hsl
   have obj:∀ {hh:La},X.K.In hh->_:=λ{hh} (XX:X.K.In hh)=>((XX _ _ ho,PySem.Heap.Ns.of_isNs<|PySem.W.isNs_of_in XX hok,PySem.W.nsMap_none_of_in XX hok hni,PySem.W.tail_of_in XX ht):
    hh.get? C'=some (excClassObj nm qn C' ns bs bm hd' sn sub ab col dd k0 k1 k2 k3 k5 "ValueError.__new__")/\hh.Ns ns (hh.nsMap ns)/\hh.nsMap ns "__init__"=none/\OwnTail hh Nc bm)
   have o0:=obj I.ok.mod.kin;refine wpAny_Raise_call_subT (C:=C') (nm:=nm) (q:=qn) (N:=ns) (bs:=bs) (bm:=bm) (hdct:=hd') (sn:=sn) (sub:=sub) (ab:=ab) (col:=col) (dd:=dd) (k0:=k0) (k1:=k1) (k2:=k2) (k3:=k3) (k5:=k5)
    F.excBase_ValueError (mN:=X.base.nsMap ns) (o0.2.2.2.hasType F.excBase_ValueError.hasBase) (I.ok.hd hc) (by rw[he];show (false||(LG cpos<|LH es X.env).any (·.1))=false;rw[hplain];rfl) o0.2.2.1 (jr I hg hm (rfl,?_) hd)
   rw[he];refine Calls.evalArgs_plain ?_;have hq:=ha cpos gV s σ H _ I h;rw[he]at hq;refine thn hq λus s2 qz=>?_;let(vs,H1,I1,r1,z,q1):=qz;have kp:∀b o,X.base.get? b=`o->s2.heap.get? b=`o:=I1.bk;exact(rfl,by rw[<-⇑r1];exact z,(obj I1.kIn).1,o0.2.1.keeps kp,(obj I1.kIn).2.2.2,λh' e hx=>hX gV σ H1 s2 h' e _ _ I1 hx q1)
  cases q
 cases q
end
end
section
noncomputable def excO (ea:Lb)(cls:K5):HO:=.ext λh=>∃o vs,h.get? ea=`o/\o.cls=cls/\o.data=.fields vs
section
variable {P:K8}{w:K9}{K:Zf}{mg:Str->Option K5}{base:La}
def Fun.okX {x qual:Str}{st:LI}{N ps:↑Str}{k:Nat}(F:Fun K x qual st f fd)(S:MH N ps (ae st))(len:∀vs H Q E ,sp vs H Q E->⇑vs=⇑ps)
  (hbody:∀ (cdv:K5) (A:Lf) (outer:↑Env) (s:Ld) (H:Hp) (vs:↑V) (Q:VK) (E:XK) ,Room k (A.deeper<|Ma qual (ae st) ↥s f cdv)->sp vs H Q E->
   ∃t,PSs (Nx (CXx P w) P w K mg base N qual (ae st) f cdv A outer s H E) (bM st) t/\t {nx:=λJ H'=>Q .non H',rt:=Q} (RP N vs) H):FnOk P w K mg base (CXx P w) (k+1) f fd ps sp:=by
 let(oc,od,kV,doc,pm,an,cdv,ct,osl,rfl,lk,hcd):=F.ex;exact Cj lk hcd S len λA outer s H vs Q E hr hsp=>hbody cdv A outer s H vs Q E hr hsp
end
end
section
noncomputable def Ite (K:Zf)(a:Lb):It:=
 (λi H=>∃xs x,SqL K H a xs/\xs[i]?=`x,λi H v H'=>∃T x,H T=none/\v=.ref T/\(∀xs ,SqL K H a xs->xs[i]?=`x)/\H'=upd H T (.tup [.int i,x]),λi H=>∃xs,SqL K H a xs/\⇑xs=i)
def vh {P:K8}{w:K9}{K:Zf}{elts:↑Expr}{x1}{tpos:LF}(a e it:Lb)(hei:e≠it):M3 P w K (.Tuple elts x1 tpos) (Ite K a) [e,it] e (λi h=>(∃old ,IsEnum h e it i old)/\h.IsListIter it a i) where
 mem:=⇑_
 obj:=λi h st b hb=>by
  let((old,he),st):=st;rcases Hd.mp hb with rfl|hb
  exact(_,he,λv z=>by cases z)
  .have e':b=it:=by simpa using hb
   subst e';let(o,e,c,d):=st;exact(o,e,λv z=>by rw[d]at z;cases z)
 keep:=λi h h' st k=>(let (old,he):=st.1;(old,k e ⇑_ _ he),st.2.at λo e=>k it ⇑_ o e)
 item:=by
  intro X hP hw hK hc i gV s σ H E I hf st hg;subst hP hw hK;let((old,he),st):=st;let(xs,x,hq,hx):=hg;let(its,rv,p,hz):=I.list hq;let(u,hu,ru):=rv.get hx;have fe:=hf e ⇑_;have fi:=hf it ⇑_;let(oi,hoi,hoc,hod):=id st;have nai:a≠it:=λz=>by let(o,h1,h2,_):=p.isList;rw[z,hoi]at h1;cases h1;rw[hoc]at h2;exact absurd h2 ↥_
  have nae:e≠a:=λz=>by let(o,h1,h2,_):=p.isList;rw[<-z,show s.heap.get? e=_ from he]at h1;cases h1;exact absurd (show K5.type "enumerate"=K5.type "list" from h2) ↥_
  have D:=Draws.list (prog:=X.prog) (w:=X.w) (A:=X.A.in1) (I.ok.hd hc) it a nai its.toArray
  refine wpAny_pyNext_enum_itemD D he (st,p.isList) (by
   have:=Hm.mp hu;let(z,_):=this
   simpa using z) hei (by simp [hei,nae]) λv h' tk hP hout hst hT hsz hk=>?_
  have hv:v=u:=by have hP:its.toArray[i]?=`v:=hP;rw[J6,hu]at hP;exact (Option.some.inj hP).symm
  subst hv;have nT:H ↥s=none:=I.hok.fresh<|Hc _;have lt:∀b o,s.heap.get? b=`o->b≠↥s:=λb o q=>Hs<|Hj q;have ltH:∀b o,H b=`o->b≠↥s:=λb o q z=>by rw[z,nT]at q;cases q
  have neH:∀b o,H b=`o->b≠e/\b≠it:=λb o q=>(λz=>by (rw[z,fe.1]at q;cases q),λz=>by (rw[z,fi.1]at q;cases q))
  have I1:Inv X gV σ (upd H ↥s (.tup [.int i,x])) {s with heap:=h',toks:=tk+1}:=by
   refine I.call' (s':={s with heap:=h',toks:=tk+1}) (ch:=[e,it]) rfl (λb o q n hb hx=>?_,λb o q n hb hx=>?_,λb o q n hx=>?_,λb o q hx=>?_,λb xs q=>?_,λb o u q=>?_,λb ps q=>?_) (λb o q=>?_) I.bare λb hb=>?_;exact hk b o (λz=>hx<|by simp [z]) (λz=>hx<|by simp [z]) q;exact(o.slots,hk b o (λz=>hx<|by simp [z]) (λz=>hx<|by simp [z]) q);rw[af<|lt b o q];exact n;exact(o,hk b o (λz=>hx<|by simp [z]) (λz=>hx<|by simp [z]) q);rw[af<|ltH b _ q];exact q;rw[af<|ltH b _ q];exact q;exact(#[],by rw[af<|ltH b _ q,q];simp)
   .by_cases hb:b=↥s;subst hb;rw[aq]at q;cases q;exact(by show 2<=sizeLine;decide,_,.cons (tk,rfl)<|.cons ru .nil,(_,hT,rfl,_,rfl),_,hT,rfl)
    .rw[af hb]at q;refine (I.hok b o q).stay (λc v hc r=>?_) (λc r=>by rw[af<|ltH c _ r];exact r) λc xs r=>by rw[af<|ltH c _ r];exact r
     have:∃o,H c=`o:=by
      rcases hc with rfl|hc
      exact(o,q);exact(_,hc)
     let(o',qo):=this;exact hk c v (neH c o' qo).1 (neH c o' qo).2 r
   .have fb:MI X gV H b:=by
     rcases Hd.mp hb with rfl|hb
     exact fe
     .have e':b=it:=by simpa using hb
      subst e';exact fi
    exact(fb.2.2.2.1,fb.2.1,fb.2.2.2.2.1,fb.2.2.2.2.2)
  refine(_,rfl,wpAny_letOwnedTupleGo_enum (s:={s with heap:=h',toks:=tk+1}) hout λh2 he2 hs2=>?_);have neT:∀b∈[e,it],b≠↥s:=λb hb=>by
   rcases Hd.mp hb with rfl|hb
   exact lt _ _ he
   .have e':b=it:=by simpa using hb
    subst e';exact lt _ _ hoi
  have fe':(upd H ↥s (.tup [.int i,x])) e=none:=by rw[af<|neT e ⇑_];exact fe.1
  refine(.ref ↥s,upd H ↥s (.tup [.int i,x]),?_,rfl,(↥s,x,nT,rfl,λys hy=>by rw[I.list_inj hy hq];exact hx,rfl),((_,by simpa using he2),hst.1.at λo eo=>(hs2.2 it<|Ne.symm hei).trans eo),λb hb=>?_);exact I1.turned (t':=tk+1) (λb o hb eo=>(hs2.2 b hb).trans eo) fe' fe.2.1 fe.2.2.2.1 fe.2.2.2.2.1 fe.2.2.2.2.2;rw[af<|neT b hb];exact (hf b hb).1
 done:=by
  intro X hP hw hK hc i gV s σ H E I hf st hg;subst hP hw hK;let((old,he),st):=st;let(xs,hq,hx):=hg;let(its,rv,p,hz):=I.list hq;have fi:=hf it ⇑_;let(oi,hoi,hoc,hod):=id st;have nai:a≠it:=λz=>by let(o,h1,h2,_):=p.isList;rw[z,hoi]at h1;cases h1;rw[hoc]at h2;exact absurd h2 ↥_
  have D:=Draws.list (prog:=X.prog) (w:=X.w) (A:=X.A.in1) (I.ok.hd hc) it a nai its.toArray;have ei:i=its.toArray.size:=by rw[Ho,<-⇑rv];exact hx.symm
  refine wpAny_pyNext_enum_endD D he (by rw[<-ei];exact(st,p.isList)) λh' eb=>(rfl,I.turned (t':=s.toks) (λb o hb e=>eb b o hb e) fi.1 fi.2.1 fi.2.2.2.1 fi.2.2.2.2.1 fi.2.2.2.2.2)
 self:=λJ J J J J st h=>let (_,he):=st.1;Mp he h
section
variable {X:Cx}
noncomputable def iEnum (K:Zf)(ta:TA):TI:=λσ H R=>ta σ H λvs H1=>∃a,vs=[.ref a]/\(∃xs ,SqL K H1 a xs)/\R (Ite K a) H1
def Aw {x1}(hg:Gl X "enumerate")(hm:X.mg "enumerate"=none)(ha:PA X [a] ta)(hs:LH [a] X.env=[(false ,LD a X.env)]):PI X (.Tuple elts x1 tpos) (.Call (.Name "enumerate" p) [a] [] pos) (iEnum X.K ta):=by
 intro gV s σ H R I h;refine Call_<|dU I hg hm boot_enumerate<|PyProof.Rows.callWith_type1 (thn (ha pos gV s σ H _ I h) λus s1 qz=>?_) hs rfl;let(vs,H1,I1,r1,q1):=qz;let(b,e,(xs,hq),q):=q1;subst e;cases r1 with
 |cons r rr=>
  cases rr;cases r;let(its,rv,pl,hz):=I1.list hq;refine call_enumerate_list pl.isList λh' he hi hsz hk=>?_;refine Mp he ?_;have I2:Inv X gV σ H1 {s1 with heap:=h'}:=I1.kept (t':=s1.toks) hk;refine(↥s1+1,[↥s1+1,↥s1],_,_,H1,rfl,I2,vh b _ _ ⇑_,((_,he),hi),λc hc=>?_,q);have hc':↥s1<=c:=by
   rcases Hd.mp hc with rfl|hc
   exact IH _
   .have:c=↥s1:=by simpa using hc
    exact IR this.symm
  exact I1.fpOk hc'<|I1.hok.fresh hc'
end
end
end L2
namespace L2
open PySem PySem.Spec PyProof.Rows PySem.W
end L2
namespace L2
open PySem PySem.Spec PyProof.Rows
theorem t4:∀ {ts:↑Str}{us:↑K5},Vals (ts.map V.str) us->∃l:↑(Str×Tok),us=strValues l/\l.map (·.1)=ts
 |[],_,.nil=>([],rfl,rfl)
 |t::ts,_,.cons h r=>by let(k,rfl):=h;let(l,e,e2):=t4 r;exact((t ,k)::l,by rw[e];rfl,by rw[<-e2];rfl)
def u6 (a b:Str):⇑(a++b)=⇑a+⇑b:=by show (a.cps++b.cps).size=_;rw[KC];rfl
theorem lY (sep:Str):∀ (ts:↑Str),⇑(Str.join sep ts)<=(ts.map (·.length)).sum+⇑ts*⇑sep
 |[]=>Hy _
 |[x]=>by show ⇑x<=_;simp
 |x::y::r=>by
  show ⇑(x++sep++Str.join sep (y::r))<=_;have ih:=lY sep (y::r);rw[u6,u6,Hg,Il,Hf];have:(⇑(y::r)+1)*⇑sep=⇑(y::r)*⇑sep+⇑sep:=by rw[Nat.succ_mul]
  omega
section
variable {X:Cx}
def rJoin (K:Zf):V->↑V->Hp->VK->Prop:=λx vs H Q=>∃ (sep:Str) (p:Lb) (ts:↑Str),x=.str sep/\vs=[.ref p]/\SqL K H p (ts.map V.str)/\(ts.map (·.length)).sum+⇑ts*⇑sep<=sizeLine/\Q (.str<|Str.join sep ts) H
def AT:MtM X "str.join" (rJoin X.K):=by
 intro gV s σ H x vs v us Q I rx rv h;let(sep,p,ts,rfl,rfl,hq,hz,q):=h;let(t,rfl):=rx;let(u,rfl,ru):=rv.one;cases ru;let(its,r,pl,_):=I.list hq;let(l,rfl,rfl):=t4 r
 refine Mh F.slot_str_join (Md s sep t) F.entry_str_join (F.args_str_join_2 _ _) (meets_str_join_list sep t p l (by
  rw[StrLaws.joinTotal];unfold K6.Str.tooLong
  exact bg ∅)) (pl.isList,?_)
 cases l with
 |nil=>exact(by rw[StrLaws.glued_eq_join];exact HA (lY sep _) hz,.str _,H,I.tok _,(_,by rw[StrLaws.glued_eq_join]),q)
 |cons a l=>
  cases l with|nil=>exact(.str a.1,H,I,(a.2,rfl),q)|cons b l=>exact(by rw[StrLaws.glued_eq_join];exact HA (lY sep _) hz,.str _,H,I.tok _,(_,by rw[StrLaws.glued_eq_join]),q)
end
end L2
namespace L2
open PySem
end L2
namespace L2
open PySem PySem.Spec PyProof.Rows
open Sem (wp)
open Builtin
section
variable {prog:K8}{w:K9}{A:Lf}{E:K5->Ld->Prop}{s:Ld}
def wW {i:Nat}{Q:K5->Ld->Prop}(g:s.heap.IsTupleIter j t i)(gt:s.heap.IsTuple t its)(hx:its[i]?=`x)(k:∀h' ,h'.IsTupleIter j t (i+1)->Ia j s.heap h'->Q x {s with heap:=h'}):Lh (Li prog w) A (SmallTypes.nextOf<|.ref j) Q E s:=by let(o,q1,q2,q3):=id g;let(u,z1,_,n,z2):=gt;unfold SmallTypes.nextOf;refine Lj<|wpAny_callSpecial?_slot (name:=Str.ofString "__next__") g.typeIs F.slot_tuple_iterator_next<|Ll F.slot_tuple_iterator_next g.typeIs F.entry_tuple_iterator_next ?_<|F.args_tuple_iterator_next_1 _;show Lh _ _ (field (.ref j) 0>>=_) _ _ s;refine Lj<|Mb q1 q3 (x:=.ref t) rfl ?_;show Lh _ _ (if (K5.ref t==K5.none)=true then _ else _) _ _ s;rw[aZ<|show¬((K5.ref t==K5.none)=true) from Hv];show Lh _ _ (field (.ref j) 1>>=_) _ _ s;refine Lj<|Mb q1 q3 (x:=.int i 0) rfl ?_;show Lh _ _ (seqItems? (.ref t)>>=_) _ _ s;refine Lj<|Lr z1 z2 ?_;simp only[Ju,hx];refine Lj<|wpAny_setField q1 q3 ⇑_ (Lm (x,rfl,Lm<|k _ ?_<|Ia.update ..));exact(_,Ky _ q1<|Le.isFreed_of_fields<|Le.data_mapFields q3 _,(Le.cls_mapFields ..).trans q2,by rw[Le.data_mapFields q3];simp [LV])
def wX {i:Nat}{Q:K5->Ld->Prop}(hh:A.handled=none)(g:s.heap.IsTupleIter j t i)(gt:s.heap.IsTuple t its)(hx:its[i]?=none)(k:∀h' e ,La.ExtBut j s.heap h'->(∃o ,h'.get? e=`o/\o.cls=.type "StopIteration")->E (.ref e) {s with heap:=h'}):Lh (Li prog w) A (SmallTypes.nextOf<|.ref j) Q E s:=by
 let(o,q1,q2,q3):=id g;let(u,z1,_,n,z2):=gt;unfold SmallTypes.nextOf;refine Lj<|wpAny_callSpecial?_slot (name:=Str.ofString "__next__") g.typeIs F.slot_tuple_iterator_next<|Ll F.slot_tuple_iterator_next g.typeIs F.entry_tuple_iterator_next ?_<|F.args_tuple_iterator_next_1 _;show Lh _ _ (field (.ref j) 0>>=_) _ _ s;refine Lj<|Mb q1 q3 (x:=.ref t) rfl ?_;show Lh _ _ (if (K5.ref t==K5.none)=true then _ else _) _ _ s;rw[aZ<|show¬((K5.ref t==K5.none)=true) from Hv];show Lh _ _ (field (.ref j) 1>>=_) _ _ s;refine Lj<|Mb q1 q3 (x:=.int i 0) rfl ?_;show Lh _ _ (seqItems? (.ref t)>>=_) _ _ s;refine Lj<|Lr z1 z2 ?_;simp only[Ju,hx];refine Lj<|Ln<|Lj<|wpAny_setField q1 q3 ⇑_ ?_;show Lh _ _ (newExc (.type "StopIteration") []>>=_) _ _ _;refine Lj ?_;simp only[newExc,newTuple];refine Lj (Mc ?_<|by size_fits);refine Lj (m:=firstArgMember _ _) (wpAny_of_eq (a:=K5.none) (by first|rfl|(simp only[firstArgMember];rfl))<|Mc ?_<|by size_fits);simp only[raiseNew];refine Lj<|wpAny_handled ?_
 first|rw[show A.in1.handled=none from hh]|rw[hh]
 exact Lj<|Lm<|wpAny_throw<|k _ _ (((Ia.update ..).extBut.push _).push _) (_,Hu _ rfl,rfl)
end
def iH {prog:K8}{w:K9}{A:Lf}(hh:A.handled=none)(j t:Lb)(hne:t≠j)(its:Array K5):Draws prog w A j [j,t] its.size (λi v=>its[i]?=`v) (λi h=>h.IsTupleIter j t i/\h.IsTuple t its) where
 live:=λJ J st=>let (o,q,_):=st.1;(o,q)
 frame:=λJ J J st k=>(let (o,q,r):=st.1;(o,k j ⇑_ o q,r),let (o,q,r):=st.2;(o,k t ⇑_ o q,r))
 item:=λi s Q E hi st k=>wW st.1 st.2 (x:=its[i]) (by simp [hi]) λh' a b=>k _ h' s.toks (by simp [hi]) (a,st.2.extBut b.extBut hne) b
 done:=λs Q E st k=>wX hh st.1 st.2 ⇑_ k
def Se (p:IsTup h a its):h.IsTuple a its:=p
set_option tactic.hygienic true in
set_option maxRecDepth 100000 in
def qD (l:Lb)(its:Array K5)(n:Nat)(dct:Option Lb)(sl:Array (Option K5)):
  Meets (K6.«enumerate.__new__» ([.type "enumerate",.ref l],[])) (λJ R s=>s.heap.get? l=some {cls:=.type "tuple",dict:=dct,data:=.seq its n,slots:=sl}/\
   R (.ok<|.ret<|.ref (s.heap.push {cls:=.type "tuple_iterator",data:=.fields #[.ref l,.int 0 0]}).objs.size) {s with heap:=(s.heap.push {cls:=.type "tuple_iterator",data:=.fields #[.ref l,.int 0 0]}).push {cls:=.type "enumerate",data:=.fields #[.none,.bool false,.ref ↥s,LV 0,.none,.none]}}):=
 .of_wp λprog w A R s h=>by
  let(hp,g,d,tk,os):=s;let(hl,h):=h;have hsub:=sub_enumerate;have hT:La.IsTuple (Ld.heap (hp,g,d,tk,os)) l its:=(_,hl,rfl,n,rfl)
  wp_walk using AutoSeq1.wpAny_loadPart' hl
  refine wpAny_stack_any λst=>Lm ?_;split;rename_i c _ _ _ _ _;cases (c==K5.type "enumerate")<;>(wp_walk using AutoSeq1.wpAny_loadPart' hl ,LX hT;exact(_,rfl,h))
  .wp_walk using AutoSeq1.wpAny_loadPart' hl,LX hT
   exact(_,rfl,h)
section
variable {prog:K8}{w:K9}{A:Lf}{E:K5->Ld->Prop}{s:Ld}
def tu {Q:K5->Ld->Prop}(hT:s.heap.IsTuple l its)
  (k:∀h' ,IsEnum h' (↥s+1) ↥s 0 .none->h'.IsTupleIter ↥s l 0->h'.objs.size=↥s+2->(∀b o ,s.heap.get? b=`o->h'.get? b=`o)->Q (.ref<|↥s+1) {s with heap:=h'}):
  Lh (Li prog w) A (call (.type "enumerate") [.ref l]) Q E s:=by
 let((c,dct,dt,sl),hl,hc,n,hd):=hT
 replace hc:c=.type "tuple":=hc
 replace hd:dt=.seq its n:=hd
 subst hc hd;refine callType_new F.called_enumerate ↥_ (F.typeCall_enumerate_1 _) (F.newCall_enumerate_1 _) (λobj=>F.args_object_init_2 obj _) F.entry_enumerate_new (qD l its n dct sl) (hl,?_);have hz:(s.heap.push {cls:=.type "tuple_iterator",data:=.fields #[.ref l,.int 0 0]}).objs.size=↥s+1:=H0 ..;show _/\_;rw[hz];have he:IsEnum ((s.heap.push {cls:=.type "tuple_iterator",data:=.fields #[.ref l,.int 0 0]}).push {cls:=.type "enumerate",data:=.fields #[.none,.bool false,.ref ↥s,LV 0,.none,.none]}) (↥s+1) ↥s 0 .none:=by have z:=Hu (s.heap.push {cls:=.type "tuple_iterator",data:=.fields #[.ref l,.int 0 0]}) (o:={cls:=.type "enumerate",data:=.fields #[.none,.bool false,.ref ↥s,LV 0,.none,.none]}) rfl;rw[hz]at z;exact z
 refine((_,he,rfl),k _ he (_,He _<|Hu _ rfl,rfl,rfl) (by rw[H0,hz]) λb o x=>He _<|He _ x)
end
noncomputable def IteT (K:Zf)(a:Lb):It:=
 (λi H=>∃xs x,SqT K H a xs/\xs[i]?=`x,λi H v H'=>∃T x,H T=none/\v=.ref T/\(∀xs ,SqT K H a xs->xs[i]?=`x)/\H'=upd H T (.tup [.int i,x]),λi H=>∃xs,SqT K H a xs/\⇑xs=i)
def rH {P:K8}{w:K9}{K:Zf}{elts:↑Expr}{x1}{tpos:LF}(a e it:Lb)(hei:e≠it):M3 P w K (.Tuple elts x1 tpos) (IteT K a) [e,it] e (λi h=>(∃old ,IsEnum h e it i old)/\h.IsTupleIter it a i) where
 mem:=⇑_
 obj:=λi h st b hb=>by
  let((old,he),st):=st;rcases Hd.mp hb with rfl|hb
  exact(_,he,λv z=>by cases z)
  .have e':b=it:=by simpa using hb
   subst e';let(o,e,c,d):=st;exact(o,e,λv z=>by rw[d]at z;cases z)
 keep:=λi h h' st k=>(let (old,he):=st.1;(old,k e ⇑_ _ he),st.2.at λo e=>k it ⇑_ o e)
 item:=by
  intro X hP hw hK hc i gV s σ H E I hf st hg;subst hP hw hK;let((old,he),st):=st;let(xs,x,hq,hx):=hg;let(its,rv,p,hz):=I.tuple hq;let(u,hu,ru):=rv.get hx;have fe:=hf e ⇑_;have fi:=hf it ⇑_;let(oi,hoi,hoc,hod):=id st;have nai:a≠it:=λz=>by
   let(o,h1,h2,_):=(Se p)
   rw[z,hoi]at h1;cases h1;rw[hoc]at h2;exact absurd h2 ↥_
  have nae:e≠a:=λz=>by
   let(o,h1,h2,_):=(Se p)
   rw[<-z,show s.heap.get? e=_ from he]at h1;cases h1;exact absurd (show K5.type "enumerate"=K5.type "tuple" from h2) ↥_
  have D:=iH (prog:=X.prog) (w:=X.w) (A:=X.A.in1) (I.ok.hd hc) it a nai its.toArray
  refine wpAny_pyNext_enum_itemD D he (st,(Se p)) (by
   have:=Hm.mp hu;let(z,_):=this
   simpa using z) hei (by simp [hei,nae]) λv h' tk hP hout hst hT hsz hk=>?_
  have hv:v=u:=by have hP:its.toArray[i]?=`v:=hP;rw[J6,hu]at hP;exact (Option.some.inj hP).symm
  subst hv;have nT:H ↥s=none:=I.hok.fresh<|Hc _;have lt:∀b o,s.heap.get? b=`o->b≠↥s:=λb o q=>Hs<|Hj q;have ltH:∀b o,H b=`o->b≠↥s:=λb o q z=>by rw[z,nT]at q;cases q
  have neH:∀b o,H b=`o->b≠e/\b≠it:=λb o q=>(λz=>by (rw[z,fe.1]at q;cases q),λz=>by (rw[z,fi.1]at q;cases q))
  have I1:Inv X gV σ (upd H ↥s (.tup [.int i,x])) {s with heap:=h',toks:=tk+1}:=by
   refine I.call' (s':={s with heap:=h',toks:=tk+1}) (ch:=[e,it]) rfl (λb o q n hb hx=>?_,λb o q n hb hx=>?_,λb o q n hx=>?_,λb o q hx=>?_,λb xs q=>?_,λb o u q=>?_,λb ps q=>?_) (λb o q=>?_) I.bare λb hb=>?_;exact hk b o (λz=>hx<|by simp [z]) (λz=>hx<|by simp [z]) q;exact(o.slots,hk b o (λz=>hx<|by simp [z]) (λz=>hx<|by simp [z]) q);rw[af<|lt b o q];exact n;exact(o,hk b o (λz=>hx<|by simp [z]) (λz=>hx<|by simp [z]) q);rw[af<|ltH b _ q];exact q;rw[af<|ltH b _ q];exact q;exact(#[],by rw[af<|ltH b _ q,q];simp)
   .by_cases hb:b=↥s;subst hb;rw[aq]at q;cases q;exact(by show 2<=sizeLine;decide,_,.cons (tk,rfl)<|.cons ru .nil,(_,hT,rfl,_,rfl),_,hT,rfl)
    .rw[af hb]at q;refine (I.hok b o q).stay (λc v hc r=>?_) (λc r=>by rw[af<|ltH c _ r];exact r) λc xs r=>by rw[af<|ltH c _ r];exact r
     have:∃o,H c=`o:=by
      rcases hc with rfl|hc
      exact(o,q);exact(_,hc)
     let(o',qo):=this;exact hk c v (neH c o' qo).1 (neH c o' qo).2 r
   .have fb:MI X gV H b:=by
     rcases Hd.mp hb with rfl|hb
     exact fe
     .have e':b=it:=by simpa using hb
      subst e';exact fi
    exact(fb.2.2.2.1,fb.2.1,fb.2.2.2.2.1,fb.2.2.2.2.2)
  refine(_,rfl,wpAny_letOwnedTupleGo_enum (s:={s with heap:=h',toks:=tk+1}) hout λh2 he2 hs2=>?_);have neT:∀b∈[e,it],b≠↥s:=λb hb=>by
   rcases Hd.mp hb with rfl|hb
   exact lt _ _ he
   .have e':b=it:=by simpa using hb
    subst e';exact lt _ _ hoi
  have fe':(upd H ↥s (.tup [.int i,x])) e=none:=by rw[af<|neT e ⇑_];exact fe.1
  refine(.ref ↥s,upd H ↥s (.tup [.int i,x]),?_,rfl,(↥s,x,nT,rfl,λys hy=>by rw[I.tuple_inj hy hq];exact hx,rfl),((_,by simpa using he2),hst.1.at λo eo=>(hs2.2 it<|Ne.symm hei).trans eo),λb hb=>?_);exact I1.turned (t':=tk+1) (λb o hb eo=>(hs2.2 b hb).trans eo) fe' fe.2.1 fe.2.2.2.1 fe.2.2.2.2.1 fe.2.2.2.2.2;rw[af<|neT b hb];exact (hf b hb).1
 done:=by
  intro X hP hw hK hc i gV s σ H E I hf st hg;subst hP hw hK;let((old,he),st):=st;let(xs,hq,hx):=hg;let(its,rv,p,hz):=I.tuple hq;have fi:=hf it ⇑_;let(oi,hoi,hoc,hod):=id st;have nai:a≠it:=λz=>by
   let(o,h1,h2,_):=(Se p)
   rw[z,hoi]at h1;cases h1;rw[hoc]at h2;exact absurd h2 ↥_
  have D:=iH (prog:=X.prog) (w:=X.w) (A:=X.A.in1) (I.ok.hd hc) it a nai its.toArray;have ei:i=its.toArray.size:=by rw[Ho,<-⇑rv];exact hx.symm
  refine wpAny_pyNext_enum_endD D he (by rw[<-ei];exact(st,(Se p))) λh' eb=>(rfl,I.turned (t':=s.toks) (λb o hb e=>eb b o hb e) fi.1 fi.2.1 fi.2.2.2.1 fi.2.2.2.2.1 fi.2.2.2.2.2)
 self:=λJ J J J J st h=>let (_,he):=st.1;Mp he h
section
variable {X:Cx}
noncomputable def EL (K:Zf)(ta:TA):TI:=λσ H R=>ta σ H λvs H1=>∃a,vs=[.ref a]/\(∃xs ,SqT K H1 a xs)/\R (IteT K a) H1
def xL {x1}(hg:Gl X "enumerate")(hm:X.mg "enumerate"=none)(ha:PA X [a] ta)(hs:LH [a] X.env=[(false ,LD a X.env)]):PI X (.Tuple elts x1 tpos) (.Call (.Name "enumerate" p) [a] [] pos) (EL X.K ta):=by
 intro gV s σ H R I h;refine Call_<|dU I hg hm boot_enumerate<|PyProof.Rows.callWith_type1 (thn (ha pos gV s σ H _ I h) λus s1 qz=>?_) hs rfl;let(vs,H1,I1,r1,q1):=qz;let(b,e,(xs,hq),q):=q1;subst e;cases r1 with
 |cons r rr=>
  cases rr;cases r;let(its,rv,pl,hz):=I1.tuple hq;refine tu (Se pl) λh' he hi hsz hk=>?_;refine Mp he ?_;have I2:Inv X gV σ H1 {s1 with heap:=h'}:=I1.kept (t':=s1.toks) hk;refine(↥s1+1,[↥s1+1,↥s1],_,_,H1,rfl,I2,rH b _ _ ⇑_,((_,he),hi),λc hc=>?_,q);have hc':↥s1<=c:=by
   rcases Hd.mp hc with rfl|hc
   exact IH _
   .have:c=↥s1:=by simpa using hc
    exact IR this.symm
  exact I1.fpOk hc'<|I1.hok.fresh hc'
end
section
open Sem (wp)
open Builtin
def ItAt (h:La)(T:String)(j l:Lb)(i:Nat):Prop:=∃o,h.get? j=`o/\o.cls=.type T/\o.data=.fields #[.ref l,.int i 0]
def SeqAt (h:La)(T:String)(l:Lb)(its:Array K5):Prop:=(T="list_iterator"/\h.IsList l its)\/(T="tuple_iterator"/\h.IsTuple l its)
def SeqAt.keep (x:SeqAt h T l its)(k:∀o ,h.get? l=`o->h'.get? l=`o):SeqAt h' T l its:=
 x.imp (λ(e,o,a,b)=>(e,o,k o a,b)) λ(e,o,a,b)=>(e,o,k o a,b)
def ItAt.keep {i:Nat}(x:ItAt h T j l i)(k:∀o ,h.get? j=`o->h'.get? j=`o):ItAt h' T j l i:=let (o,a,b):=x;(o,k o a,b)
def bD {prog:K8}{w:K9}{A:Lf}(hh:A.handled=none)(T:String)(j l:Lb)(hne:l≠j)(its:Array K5):Draws prog w A j [j,l] its.size (λi v=>its[i]?=`v) (λi h=>ItAt h T j l i/\SeqAt h T l its) where
 live:=λJ J st=>let (o,q,_):=st.1;(o,q)
 frame:=λJ J J st k=>(st.1.keep λo q=>k j ⇑_ o q,st.2.keep λo q=>k l ⇑_ o q)
 item:=λi s Q E hi st k=>by
  obtain⟨a,⟨rfl,b⟩|⟨rfl,b⟩⟩:=st;exact (Draws.list (prog:=prog) (w:=w) hh j l hne its).item i s Q E hi (a,b) λx h' tk p st sb=>k x h' tk p (st.1,.inl (rfl,st.2)) sb;exact (iH (prog:=prog) (w:=w) hh j l hne its).item i s Q E hi (a,b) λx h' tk p st sb=>k x h' tk p (st.1,.inr (rfl,st.2)) sb
 done:=λs Q E st k=>by
  obtain⟨a,⟨rfl,b⟩|⟨rfl,b⟩⟩:=st;exact (Draws.list (prog:=prog) (w:=w) hh j l hne its).done s Q E (a,b) k;exact (iH (prog:=prog) (w:=w) hh j l hne its).done s Q E (a,b) k
section
variable {prog:K8}{w:K9}{A:Lf}{E:K5->Ld->Prop}{s:Ld}
def qL {Q:K5->Ld->Prop}(hl:SeqAt s.heap T l its)(k:Q (.ref ↥s) {s with heap:=s.heap.push {cls:=.type T,data:=.fields #[.ref l,.int 0 0]}}):Lh (Li prog w) A (pyIter<|.ref l) Q E s:=by
 obtain⟨rfl,hl⟩|⟨rfl,hl⟩:=hl
 exact wpAny_pyIter_list hl k;exact LX hl k
structure ZA (z TI TO i1 i2 l1 l2:Lb):Prop where
 a1:TI≠z
 a2:TO≠z
 a3:i1≠z
 a4:i2≠z
 a5:TI≠TO
 a6:TI≠i1
 a7:TI≠i2
 a8:TO≠i1
 a9:TO≠i2
 b1:i1≠i2
 b2:l1≠z
 b3:l1≠TO
 b4:l1≠i1
 b5:l1≠i2
 b6:l2≠z
 b7:l2≠TO
 b8:l2≠i1
 b9:l2≠i2
structure ZS (h:La)(z TI TO i1 i2 l1 l2:Lb)(T1 T2:String)(xs ys:Array K5)(n:Nat)(f0:K5):Prop where
 z:IsZip h z TI TO f0
 ti:Mq h TI (.ref i1) (.ref i2)
 to:∃a b,Mq h TO a b
 u1:ItAt h T1 i1 l1 n
 u2:ItAt h T2 i2 l2 n
 s1:SeqAt h T1 l1 xs
 s2:SeqAt h T2 l2 ys
def wL {z TI TO i1 i2 l1 l2:Lb}{n:Nat}{Q:K5->Ld->Prop}(hh:A.handled=none)(D:ZA z TI TO i1 i2 l1 l2)(Z:ZS s.heap z TI TO i1 i2 l1 l2 T1 T2 xs ys n .none)(hx:xs[n]?=`x)(hy:ys[n]?=`y)
  (k:∀h' tk ,ZS h' z TI TO i1 i2 l1 l2 T1 T2 xs ys (n+1) (LV ↥s)->Mq h' ↥s x y->h'.objs.size=↥s+1->(∀c o ,c≠z->c≠TO->c≠i1->c≠i2->s.heap.get? c=`o->h'.get? c=`o)->Q (.ref ↥s) {s with heap:=h',toks:=tk}):
  Lh (Li prog w) A (K6.«zip.__next__» ([.ref z],[])) (λfin s'=>∃v ,fin=.done (.ret v)/\Q v s') E s:=by
 let(hz,hti,(a,b,hto),u1,u2,s1,s2):=Z;have nx:n<xs.size:=(Jv.mp hx).1;have ny:n<ys.size:=(Jv.mp hy).1;show Lh _ _ (field (.ref z) 2>>=_) _ _ s;refine Lj<|Mb hz rfl (x:=.bool false) rfl ?_;show Lh _ _ (field (.ref z) 3>>=_) _ _ s;refine Lj<|Mb hz rfl (x:=.ref TI) rfl<|Lj<|Lr hti rfl ?_;show Lh _ _ (SmallTypes.ownedTupleIsFree (.ref z)>>=_) _ _ s;refine Lj ?_;unfold SmallTypes.ownedTupleIsFree;refine Lj<|Mb hz rfl (x:=.none) rfl<|Lm ?_;simp only[if_true];refine Lj (Ln<|Lj<|Mb hz rfl (x:=.ref TO) rfl<|Lj<|Mr hz ⇑_ λh1 z1 e1=>?_)
 replace z1:IsZip h1 z TI TO .ellipsis:=z1
 refine Lj ?_;simp only[Jw,Jx,HX,Ib];refine Lj<|Lj<|Ms ?_;show Lh _ _ (SmallTypes.nextOf (.ref i1)>>=_) _ _ _;refine Lj ((bD (prog:=prog) (w:=w) hh T1 i1 l1 D.b4 xs).item n _ _ _ nx (u1.keep λo q=>e1.extBut _ _ D.a3 q,s1.keep λo q=>e1.extBut _ _ D.b2 q) λx' h2 tk2 px st2 e2=>Lm ?_);have:x'=x:=Option.some.inj<|px.symm.trans hx;subst this;have to2:Mq h2 TO a b:=e2.extBut _ _ D.a8<|e1.extBut _ _ D.a2 hto;refine Lj (Lr to2 rfl<|Lj<|Mt to2 λh3 to3 e3=>?_)
 replace to3:Mq h3 TO x' b:=to3
 refine Lj<|Mu<|Lm<|Lj<|Lj<|Ms ?_;show Lh _ _ (SmallTypes.nextOf (.ref i2)>>=_) _ _ _;refine Lj ((bD (prog:=prog) (w:=w) hh T2 i2 l2 D.b9 ys).item n _ _ _ ny (u2.keep λo q=>e3.extBut _ _ (Ne.symm D.a9)<|e2.extBut _ _ (Ne.symm D.b1)<|e1.extBut _ _ D.a4 q,s2.keep λo q=>e3.extBut _ _ D.b7<|e2.extBut _ _ D.b8<|e1.extBut _ _ D.b6 q) λy' h4 tk4 py st4 e4=>Lm ?_);have:y'=y:=Option.some.inj<|py.symm.trans hy;subst this;have to4:Mq h4 TO x' b:=e4.extBut _ _ D.a9 to3;refine Lj (Lr to4 rfl<|Lj<|Mt to4 λh5 to5 e5=>?_)
 replace to5:Mq h5 TO x' y':=to5
 refine Lj<|Mu<|Lm<|Lm ?_;refine Lj<|Lr to5 rfl<|Lj<|wpAny_newTuple ?_;have zs:h5.objs.size=↥s:=by rw[e5.1,e4.1,e3.1,e2.1,e1.1]
 have z5:IsZip h5 z TI TO .ellipsis:=e5.extBut _ _ (Ne.symm D.a2)<|e4.extBut _ _ (Ne.symm D.a4)<|e3.extBut _ _ (Ne.symm D.a2)<|e2.extBut _ _ (Ne.symm D.a3) z1;have k5:∀c o,c≠z->c≠TO->c≠i1->c≠i2->s.heap.get? c=`o->h5.get? c=`o:=λc o c1 c2 c3 c4 e=>e5.extBut _ _ c2<|e4.extBut _ _ c4<|e3.extBut _ _ c2<|e2.extBut _ _ c3<|e1.extBut _ _ c1 e;have zl:z<h5.objs.size:=Hj z5;show Lh _ _ (SmallTypes.ownedTupleHandOut (.ref z) (.ref h5.objs.size)>>=_) _ _ _;refine Lj ?_;unfold SmallTypes.ownedTupleHandOut;have z6:IsZip (h5.push {cls:=.type "tuple",data:=.seq #[x',y']}) z TI TO .ellipsis:=He _ z5;refine Lj (Mr z6 ⇑_ λh7 z7 e7=>?_)
 replace z7:IsZip h7 z TI TO (LV h5.objs.size):=z7
 refine Mr z7 ⇑_ λh8 z8 e8=>?_
 replace z8:IsZip h8 z TI TO (LV h5.objs.size):=z8
 have up:∀c o,c≠z->h5.get? c=`o->h8.get? c=`o:=λc o c1 e=>e8.extBut _ _ c1<|e7.extBut _ _ c1<|He _ e;have pr8:Mq h8 h5.objs.size x' y':=e8.extBut _ _ (IG zl)<|e7.extBut _ _ (IG zl)<|Hu _ rfl;have sz8:h8.objs.size=h5.objs.size+1:=by rw[e8.1,e7.1,H0]
 rw[zs]at z8 pr8 sz8;refine Lm (_,rfl,?_);show Q (.ref h5.objs.size) _;rw[zs];refine k h8 _ (z8,up _ _ D.a1<|k5 _ _ D.a1 D.a5 D.a6 D.a7 hti,(_,_,up _ _ D.a2 to5),?_,?_,s1.keep λo q=>up _ _ D.b2<|k5 _ _ D.b2 D.b3 D.b4 D.b5 q,s2.keep λo q=>up _ _ D.b6<|k5 _ _ D.b6 D.b7 D.b8 D.b9 q) pr8 sz8 λc o c1 c2 c3 c4 e=>up c o c1<|k5 c o c1 c2 c3 c4 e;exact st2.1.keep λo q=>up _ _ D.a3<|e5.extBut _ _ (Ne.symm D.a8)<|e4.extBut _ _ D.b1<|e3.extBut _ _ (Ne.symm D.a8) q;exact st4.1.keep λo q=>up _ _ D.a4<|e5.extBut _ _ (Ne.symm D.a9) q
def zU {z TI TO i1 i2 l1 l2:Lb}{n:Nat}{Q:Fin->Ld->Prop}(hh:A.handled=none)(D:ZA z TI TO i1 i2 l1 l2)(Z:ZS s.heap z TI TO i1 i2 l1 l2 T1 T2 xs ys n .none)(he:(n=xs.size/\n<=ys.size)\/(n<xs.size/\n=ys.size))
  (k:∀h' tk e ,(∀c o ,c≠z->c≠TO->c≠i1->c≠i2->s.heap.get? c=`o->h'.get? c=`o)->(∃o ,h'.get? e=`o/\o.cls=.type "StopIteration")->E (.ref e) {s with heap:=h',toks:=tk}):
  Lh (Li prog w) A (K6.«zip.__next__» ([.ref z],[])) Q E s:=by
 let(hz,hti,(a,b,hto),u1,u2,s1,s2):=Z;show Lh _ _ (field (.ref z) 2>>=_) _ _ s;refine Lj<|Mb hz rfl (x:=.bool false) rfl ?_;show Lh _ _ (field (.ref z) 3>>=_) _ _ s;refine Lj<|Mb hz rfl (x:=.ref TI) rfl<|Lj<|Lr hti rfl ?_;show Lh _ _ (SmallTypes.ownedTupleIsFree (.ref z)>>=_) _ _ s;refine Lj ?_;unfold SmallTypes.ownedTupleIsFree;refine Lj<|Mb hz rfl (x:=.none) rfl<|Lm ?_;simp only[if_true];refine Lj (Ln<|Lj<|Mb hz rfl (x:=.ref TO) rfl<|Lj<|Mr hz ⇑_ λh1 z1 e1=>?_)
 replace z1:IsZip h1 z TI TO .ellipsis:=z1
 refine Lj ?_;simp only[Jw,Jx,HX,Ib];refine Lj<|Lj<|Ms ?_;show Lh _ _ (SmallTypes.nextOf (.ref i1)>>=_) _ _ _;have st1:ItAt h1 T1 i1 l1 n/\SeqAt h1 T1 l1 xs:=(u1.keep λo q=>e1.extBut _ _ D.a3 q,s1.keep λo q=>e1.extBut _ _ D.b2 q)
 rcases he with⟨rfl,_⟩|⟨nx,hy⟩
 .refine Lj ((bD (prog:=prog) (w:=w) hh T1 i1 l1 D.b4 xs).done _ _ _ st1 λh2 e e2 he=>?_);let(oe,g1,g2):=he;have z2:IsZip h2 z TI TO .ellipsis:=e2 _ _ (Ne.symm D.a3) z1;have ez:e≠z:=λq=>by subst q;rw[z2]at g1;cases g1;simp at g2
  exact Mr z2 ⇑_ λh3 J e3=>k h3 _ e (λc o c1 J c3 J q=>e3.extBut _ _ c1<|e2 _ _ c3<|e1.extBut _ _ c1 q) (oe,e3.extBut _ _ ez g1,g2)
 .refine Lj ((bD (prog:=prog) (w:=w) hh T1 i1 l1 D.b4 xs).item n _ _ _ nx st1 λx' h2 tk2 px st2 e2=>Lm ?_);have to2:Mq h2 TO a b:=e2.extBut _ _ D.a8<|e1.extBut _ _ D.a2 hto;refine Lj (Lr to2 rfl<|Lj<|Mt to2 λh3 to3 e3=>?_);refine Lj<|Mu<|Lm<|Lj<|Lj<|Ms ?_;show Lh _ _ (SmallTypes.nextOf (.ref i2)>>=_) _ _ _;subst hy;refine Lj ((bD (prog:=prog) (w:=w) hh T2 i2 l2 D.b9 ys).done _ _ _ (u2.keep λo q=>e3.extBut _ _ (Ne.symm D.a9)<|e2.extBut _ _ (Ne.symm D.b1)<|e1.extBut _ _ D.a4 q,s2.keep λo q=>e3.extBut _ _ D.b7<|e2.extBut _ _ D.b8<|e1.extBut _ _ D.b6 q) λh4 e e4 he=>?_);let(oe,g1,g2):=he;have z4:IsZip h4 z TI TO .ellipsis:=e4 _ _ (Ne.symm D.a4)<|e3.extBut _ _ (Ne.symm D.a2)<|e2.extBut _ _ (Ne.symm D.a3) z1;have ez:e≠z:=λq=>by subst q;rw[z4]at g1;cases g1;simp at g2
  exact Mr z4 ⇑_ λh5 J e5=>k h5 _ e (λc o c1 c2 c3 c4 q=>e5.extBut _ _ c1<|e4 _ _ c4<|e3.extBut _ _ c2<|e2.extBut _ _ c3<|e1.extBut _ _ c1 q) (oe,e5.extBut _ _ ez g1,g2)
def yk {z TI TO i1 i2 l1 l2:Lb}{n:Nat}{Q:Option K5->Ld->Prop}(hh:A.in1.handled=none)(D:ZA z TI TO i1 i2 l1 l2)(Z:ZS s.heap z TI TO i1 i2 l1 l2 T1 T2 xs ys n .none)(hx:xs[n]?=`x)(hy:ys[n]?=`y)
  (k:∀h' tk ,ZS h' z TI TO i1 i2 l1 l2 T1 T2 xs ys (n+1) (LV ↥s)->Mq h' ↥s x y->h'.objs.size=↥s+1->(∀c o ,c≠z->c≠TO->c≠i1->c≠i2->s.heap.get? c=`o->h'.get? c=`o)->Q (some<|.ref ↥s) {s with heap:=h',toks:=tk}):
  Lh (Li prog w) A (LS<|.ref z) Q E s:=by
 have hT:s.TypeIs (.ref z) "zip":=(_,Z.z,rfl)
 unfold LS;exact Lj<|wpAny_attempt<|wpAny_callSpecial?_slot (name:=Str.ofString "__next__") hT F.slot_zip_next<|Ll F.slot_zip_next hT F.entry_zip_next (wL hh D Z hx hy λh' tk a1 a2 a3 a4=>Lm<|k h' tk a1 a2 a3 a4)<|F.args_zip_next_1 _
def BD {z TI TO i1 i2 l1 l2:Lb}{n:Nat}{Q:Option K5->Ld->Prop}(hh:A.in1.handled=none)(D:ZA z TI TO i1 i2 l1 l2)(Z:ZS s.heap z TI TO i1 i2 l1 l2 T1 T2 xs ys n .none)(he:(n=xs.size/\n<=ys.size)\/(n<xs.size/\n=ys.size))
  (k:∀h' tk ,(∀c o ,c≠z->c≠TO->c≠i1->c≠i2->s.heap.get? c=`o->h'.get? c=`o)->Q none {s with heap:=h',toks:=tk}):Lh (Li prog w) A (LS<|.ref z) Q E s:=by
 have hT:s.TypeIs (.ref z) "zip":=(_,Z.z,rfl)
 unfold LS;refine Lj<|wpAny_attempt<|wpAny_callSpecial?_slot (name:=Str.ofString "__next__") hT F.slot_zip_next<|Ll F.slot_zip_next hT F.entry_zip_next (zU hh D Z he λh' tk e hk (o,g1,g2)=>?_)<|F.args_zip_next_1 _;exact Lj<|Lo (T:="StopIteration") (b:=true) (o,g1,g2) isSubtype_stop<|Lm<|k _ _ hk
end
abbrev zA (h:La)(T:String)(l:Lb):La:=h.push {cls:=.type T,data:=.fields #[.ref l,.int 0 0]}
def sE (l1 l2:Lb)(T1 T2:String)(xs ys:Array K5):
  Meets (K6.«zip.__new__» ([.type "zip",.ref l1,.ref l2],[])) (λJ R s=>SeqAt s.heap T1 l1 xs/\SeqAt s.heap T2 l2 ys/\
   R (.ok<|.ret<|.ref<|(((zA (zA s.heap T1 l1) T2 l2).push {cls:=.type "tuple",data:=.seq #[.ref ↥s,.ref (zA s.heap T1 l1).objs.size]}).push {cls:=.type "tuple",data:=.seq #[.none,.none]}).objs.size)
     {s with heap:=(((zA (zA s.heap T1 l1) T2 l2).push {cls:=.type "tuple",data:=.seq #[.ref ↥s,.ref (zA s.heap T1 l1).objs.size]}).push {cls:=.type "tuple",data:=.seq #[.none,.none]}).push {cls:=.type "zip",data:=.fields #[.none,.bool false,.bool false,.ref (zA (zA s.heap T1 l1) T2 l2).objs.size,.ref ((zA (zA s.heap T1 l1) T2 l2).push {cls:=.type "tuple",data:=.seq #[.ref ↥s,.ref (zA s.heap T1 l1).objs.size]}).objs.size]}}):=
 .of_wp λprog w A R s h=>by
  let(hp,g,d,tk,os):=s;let(q1,q2,h):=h;have hsub:=sub_zip;have r1:SeqAt (Ld.heap (hp,g,d,tk,os)) T1 l1 xs:=q1;have r2:SeqAt (Ld.heap (hp.push {cls:=.type T1,data:=.fields #[.ref l1,.int 0 0]},g,d,tk,os)) T2 l2 ys:=q2.keep λo e=>He _ e
  wp_walk using qL r1,qL r2
  exact(_,rfl,h)
section
variable {prog:K8}{w:K9}{A:Lf}{E:K5->Ld->Prop}{s:Ld}
def n9 {Q:K5->Ld->Prop}(q1:SeqAt s.heap T1 l1 xs)(q2:SeqAt s.heap T2 l2 ys)
  (k:∀h' ,ZS h' (↥s+4) (↥s+2) (↥s+3) ↥s (↥s+1) l1 l2 T1 T2 xs ys 0 .none->h'.objs.size=↥s+5->(∀c o ,s.heap.get? c=`o->h'.get? c=`o)->Q (.ref<|↥s+4) {s with heap:=h'}):
  Lh (Li prog w) A (call (.type "zip") [.ref l1,.ref l2]) Q E s:=by
 refine callType_new F.called_zip ↥_ (F.typeCall_zip_2 _ _) (F.newCall_zip_2 _ _) (λobj=>F.args_object_init_3 obj _ _) F.entry_zip_new (sE l1 l2 T1 T2 xs ys) (q1,q2,?_);have y1:(zA s.heap T1 l1).objs.size=↥s+1:=H0 ..;have y2:(zA (zA s.heap T1 l1) T2 l2).objs.size=↥s+2:=by rw[H0,y1]
 generalize e2:zA (zA s.heap T1 l1) T2 l2=H2 at*;have y3:(H2.push {cls:=.type "tuple",data:=.seq #[.ref ↥s,.ref (zA s.heap T1 l1).objs.size]}).objs.size=↥s+3:=by rw[H0,y2]
 have g3:(H2.push {cls:=.type "tuple",data:=.seq #[.ref ↥s,.ref (zA s.heap T1 l1).objs.size]}).get? H2.objs.size=some _:=Hu _ rfl;have up3:∀c o,H2.get? c=`o->(H2.push {cls:=.type "tuple",data:=.seq #[.ref ↥s,.ref (zA s.heap T1 l1).objs.size]}).get? c=`o:=λc o e=>He _ e;generalize H2.push {cls:=.type "tuple",data:=.seq #[.ref ↥s,.ref (zA s.heap T1 l1).objs.size]}=H3 at*;have y4:(H3.push {cls:=.type "tuple",data:=.seq #[.none,.none]}).objs.size=↥s+4:=by rw[H0,y3]
 have g4:(H3.push {cls:=.type "tuple",data:=.seq #[.none,.none]}).get? H3.objs.size=some _:=Hu _ rfl;have up4:∀c o,H3.get? c=`o->(H3.push {cls:=.type "tuple",data:=.seq #[.none,.none]}).get? c=`o:=λc o e=>He _ e;generalize H3.push {cls:=.type "tuple",data:=.seq #[.none,.none]}=H4 at*;have y5:(H4.push {cls:=.type "zip",data:=.fields #[.none,.bool false,.bool false,.ref H2.objs.size,.ref H3.objs.size]}).objs.size=↥s+5:=by rw[H0,y4]
 have g5:(H4.push {cls:=.type "zip",data:=.fields #[.none,.bool false,.bool false,.ref H2.objs.size,.ref H3.objs.size]}).get? H4.objs.size=some _:=Hu _ rfl;have up5:∀c o,H4.get? c=`o->(H4.push {cls:=.type "zip",data:=.fields #[.none,.bool false,.bool false,.ref H2.objs.size,.ref H3.objs.size]}).get? c=`o:=λc o e=>He _ e;generalize H4.push {cls:=.type "zip",data:=.fields #[.none,.bool false,.bool false,.ref H2.objs.size,.ref H3.objs.size]}=H5 at*;have u2:H2.get? (↥s+1)=some {cls:=.type T2,data:=.fields #[.ref l2,.int 0 0]}:=by rw[<-e2,<-y1];exact Hu _ rfl
 have u1:H2.get? ↥s=some {cls:=.type T1,data:=.fields #[.ref l1,.int 0 0]}:=by rw[<-e2];exact He _<|Hu _ rfl
 have kk:∀c o,s.heap.get? c=`o->H2.get? c=`o:=λc o e=>by rw[<-e2];exact He _<|He _ e
 have up:∀c o,H2.get? c=`o->H5.get? c=`o:=λc o e=>up5 c o<|up4 c o<|up3 c o e;show _/\_;rw[y4]at g5 ⊢;rw[y2,y3]at g5;rw[y2,y1]at g3;rw[y3]at g4;exact((_,g5,rfl),k _ (g5,up5 _ _<|up4 _ _ g3,(_,_,up5 _ _ g4),(_,up _ _ u1,rfl,rfl),(_,up _ _ u2,rfl,rfl),q1.keep λo e=>up _ _<|kk _ _ e,q2.keep λo e=>up _ _<|kk _ _ e) y5 λc o e=>up c o<|kk c o e)
end
end
section
def SqK (k:Bool)(K:Zf)(H:Hp)(a:Lb)(xs:↑V):Prop:=match k with|true=>SqT K H a xs|false=>SqL K H a xs
noncomputable def tyK (k:Bool):String:=match k with
 |true=>"tuple_iterator"
 |false=>"list_iterator"
section
variable {X:Cx}{gV:↑(Lb×Le)}{σ:St}{H:Hp}{s:Ld}{a:Lb}{xs ys:↑V}{k:Bool}
def Inv.seqK (I:Inv X gV σ H s)(h:SqK k X.K H a xs):∃its:↑K5,Vals xs its/\SeqAt s.heap (tyK k) a its.toArray:=by
 cases k with
 |false=>
  let(its,rv,p,_):=I.list h;exact(its,rv,.inl (rfl,p.isList))
 |true=>
  let(its,rv,p,_):=I.tuple h;exact(its,rv,.inr (rfl,Se p))
def Inv.seqK_inj (I:Inv X gV σ H s)(h:SqK k X.K H a xs)(g:SqK k X.K H a ys):xs=ys:=by
 cases k with|false=>exact I.list_inj h g|true=>exact I.tuple_inj h g
end
noncomputable def Itz (j k:Bool)(K:Zf)(a b:Lb):It:=
 (λi H=>∃xs ys x y,SqK j K H a xs/\SqK k K H b ys/\xs[i]?=`x/\ys[i]?=`y,λi H v H'=>∃T x y,H T=none/\v=.ref T/\(∀xs ys ,SqK j K H a xs->SqK k K H b ys->xs[i]?=`x/\ys[i]?=`y)/\H'=upd H T (.tup [x,y]),λi H=>∃xs ys,SqK j K H a xs/\SqK k K H b ys/\min ⇑xs ⇑ys=i)
structure ZO (h:La)(z TI TO i1 i2 a b:Lb)(T1 T2:String)(n:Nat)(f0:K5):Prop where
 z:IsZip h z TI TO f0
 ti:Mq h TI (.ref i1) (.ref i2)
 to:∃u v,Mq h TO u v
 u1:ItAt h T1 i1 a n
 u2:ItAt h T2 i2 b n
theorem ZO.keep {z TI TO i1 i2 a b:Lb}{n:Nat}(Z:ZO h z TI TO i1 i2 a b T1 T2 n f0)(k:∀c∈[z,TI,TO,i1,i2] ,∀o,h.get? c=`o->h'.get? c=`o):ZO h' z TI TO i1 i2 a b T1 T2 n f0:=
 (k z ⇑_ _ Z.z,k TI ⇑_ _ Z.ti,let (u,v,q):=Z.to;(u,v,k TO ⇑_ _ q),Z.u1.keep λo q=>k i1 ⇑_ o q,Z.u2.keep λo q=>k i2 ⇑_ o q)
def wU {P:K8}{w:K9}{K:Zf}{elts:↑Expr}{x1}{tpos:LF}{a b z TI TO i1 i2:Lb}{j k:Bool}(D:ZA z TI TO i1 i2 a b):M3 P w K (.Tuple elts x1 tpos) (Itz j k K a b) [z,TI,TO,i1,i2] z (λi h=>ZO h z TI TO i1 i2 a b (tyK j) (tyK k) i .none) where
 mem:=⇑_
 obj:=λi h st c hc=>by
  simp only[Hd,HB,or_false]at hc;rcases hc with rfl|rfl|rfl|rfl|rfl
  exact(_,st.z,λv z=>by cases z);exact(_,st.ti,λv z=>by cases z);let(_,_,q):=st.to;exact(_,q,λv z=>by cases z);let(o,e,c,d):=st.u1;exact(o,e,λv z=>by rw[d]at z;cases z);let(o,e,c,d):=st.u2;exact(o,e,λv z=>by rw[d]at z;cases z)
 keep:=λi h h' st kk=>st.keep kk
 item:=by
  intro X hP hw hK hc i gV s σ H E I hf st hg;subst hP hw hK;let(xs,ys,x,y,hq1,hq2,hx,hy):=hg;let(is1,rv1,q1):=I.seqK hq1;let(is2,rv2,q2):=I.seqK hq2;let(u,hu,ru):=rv1.get hx;let(v,hv,rv):=rv2.get hy;have fz:=hf z ⇑_;have fO:=hf TO ⇑_;have f1:=hf i1 ⇑_;have f2:=hf i2 ⇑_;refine yk (I.ok.hd hc) D (st.z,st.ti,st.to,st.u1,st.u2,q1,q2) (by simpa using hu) (by simpa using hv) λh' tk Z' hT hsz hk=>?_;have nT:H ↥s=none:=I.hok.fresh<|Hc _;have lt:∀c o,s.heap.get? c=`o->c≠↥s:=λc o q=>Hs<|Hj q;have ltH:∀c o,H c=`o->c≠↥s:=λc o q z=>by rw[z,nT]at q;cases q
  have neH:∀c o,H c=`o->c≠z/\c≠TO/\c≠i1/\c≠i2:=λc o q=>(λz=>by (rw[z,fz.1]at q;cases q),λz=>by (rw[z,fO.1]at q;cases q),λz=>by (rw[z,f1.1]at q;cases q),λz=>by (rw[z,f2.1]at q;cases q))
  have hk':∀c o,c ∉ [z,TO,i1,i2]->s.heap.get? c=`o->h'.get? c=`o:=λc o n q=>hk c o (λz=>n<|by simp [z]) (λz=>n<|by simp [z]) (λz=>n<|by simp [z]) (λz=>n<|by simp [z]) q;have I1:Inv X gV σ (upd H ↥s (.tup [x,y])) {s with heap:=h',toks:=tk}:=by
   refine I.call' (s':={s with heap:=h',toks:=tk}) (ch:=[z,TO,i1,i2]) rfl (λb o q n hb hx=>?_,λb o q n hb hx=>?_,λb o q n hx=>?_,λb o q hx=>?_,λb xs q=>?_,λb o u q=>?_,λb ps q=>?_) (λb o q=>?_) I.bare λb hb=>?_;exact hk' b o hx q;exact(o.slots,hk' b o hx q);rw[af<|lt b o q];exact n;exact(o,hk' b o hx q);rw[af<|ltH b _ q];exact q;rw[af<|ltH b _ q];exact q;exact(#[],by rw[af<|ltH b _ q,q];simp)
   .by_cases hb:b=↥s;subst hb;rw[aq]at q;cases q;exact(by show 2<=sizeLine;decide,_,.cons ru<|.cons rv .nil,(_,hT,rfl,_,rfl),_,hT,rfl)
    .rw[af hb]at q;refine (I.hok b o q).stay (λc v hc r=>?_) (λc r=>by rw[af<|ltH c _ r];exact r) λc xs r=>by rw[af<|ltH c _ r];exact r
     have:∃o,H c=`o:=by
      rcases hc with rfl|hc
      exact(o,q);exact(_,hc)
     let(o',qo):=this;let(n1,n2,n3,n4):=neH c o' qo;exact hk c v n1 n2 n3 n4 r
   .have fb:MI X gV H b:=by
     simp only[Hd,HB,or_false]at hb;rcases hb with rfl|rfl|rfl|rfl
     exact fz;exact fO;exact f1;exact f2
    exact(fb.2.2.2.1,fb.2.1,fb.2.2.2.2.1,fb.2.2.2.2.2)
  refine(_,rfl,wpAny_letOwnedTupleGo_zip (s:={s with heap:=h',toks:=tk}) Z'.z λh2 hz2 hs2=>?_);have nn:∀c∈[z,TI,TO,i1,i2],c≠↥s:=λc hc=>by
   simp only[Hd,HB,or_false]at hc;rcases hc with rfl|rfl|rfl|rfl|rfl
   exact lt _ _ st.z;exact lt _ _ st.ti;let(_,_,q):=st.to;exact lt _ _ q;let(o,e,_):=st.u1;exact lt _ _ e;let(o,e,_):=st.u2;exact lt _ _ e
  have fe':(upd H ↥s (.tup [x,y])) z=none:=by rw[af<|nn z ⇑_];exact fz.1
  refine(.ref ↥s,upd H ↥s (.tup [x,y]),?_,rfl,(↥s,x,y,nT,rfl,λxs' ys' h1 h2=>by rw[I.seqK_inj h1 hq1,I.seqK_inj h2 hq2];exact(hx,hy),rfl),?_,λc hc=>?_);exact I1.turned (t':=tk) (λb o hb eo=>(hs2.2 b hb).trans eo) fe' fz.2.1 fz.2.2.2.1 fz.2.2.2.2.1 fz.2.2.2.2.2;have up:∀c o,c≠z->h'.get? c=`o->h2.get? c=`o:=λc o n q=>hs2.extBut _ _ n q;let(u',v',q):=Z'.to;exact(hz2,up _ _ D.a1 Z'.ti,(u',v',up _ _ D.a2 q),Z'.u1.keep λo q=>up _ _ D.a3 q,Z'.u2.keep λo q=>up _ _ D.a4 q);rw[af<|nn c hc];exact (hf c hc).1
 done:=by
  intro X hP hw hK hc i gV s σ H E I hf st hg;subst hP hw hK;let(xs,ys,hq1,hq2,hx):=hg;let(is1,rv1,q1):=I.seqK hq1;let(is2,rv2,q2):=I.seqK hq2;have l1:=⇑rv1;have l2:=⇑rv2;have fz:=hf z ⇑_;have fO:=hf TO ⇑_;have f1:=hf i1 ⇑_;have f2:=hf i2 ⇑_
  refine BD (I.ok.hd hc) D (st.z,st.ti,st.to,st.u1,st.u2,q1,q2) (by
   rw[Ho,Ho]
   omega) λh' tk hk=>(rfl,?_)
  refine I.call' (s':={s with heap:=h',toks:=tk}) (ch:=[z,TO,i1,i2]) rfl (λb o q n hb hx=>?_,λb o q n hb hx=>?_,λb o q n hx=>n,λb o q hx=>?_,λb xs q=>q,λb o u q=>q,λb ps q=>(#[],by rw[q];simp)) (λb o q=>?_) I.bare λb hb=>?_;exact hk b o (λz=>hx<|by simp [z]) (λz=>hx<|by simp [z]) (λz=>hx<|by simp [z]) (λz=>hx<|by simp [z]) q;exact(o.slots,hk b o (λz=>hx<|by simp [z]) (λz=>hx<|by simp [z]) (λz=>hx<|by simp [z]) (λz=>hx<|by simp [z]) q);exact(o,hk b o (λz=>hx<|by simp [z]) (λz=>hx<|by simp [z]) (λz=>hx<|by simp [z]) (λz=>hx<|by simp [z]) q)
  .refine (I.hok b o q).stay (λc v hc r=>?_) (λc r=>r) λc xs r=>r;have:∃o,H c=`o:=by
    rcases hc with rfl|hc
    exact(o,q);exact(_,hc)
   let(o',qo):=this;exact hk c v (λz=>by rw[z,fz.1]at qo;cases qo) (λz=>by rw[z,fO.1]at qo;cases qo) (λz=>by rw[z,f1.1]at qo;cases qo) (λz=>by rw[z,f2.1]at qo;cases qo) r
  .have fb:MI X gV H b:=by
    simp only[Hd,HB,or_false]at hb;rcases hb with rfl|rfl|rfl|rfl
    exact fz;exact fO;exact f1;exact f2
   exact(fb.2.2.2.1,fb.2.1,fb.2.2.2.2.1,fb.2.2.2.2.2)
 self:=λJ J J J J st h=>wpAny_pyIter_zip st.z h
section
variable {X:Cx}
noncomputable def iZip (j k:Bool)(K:Zf)(ta:TA):TI:=λσ H R=>ta σ H λvs H1=>∃a b,vs=[.ref a,.ref b]/\(∃xs ,SqK j K H1 a xs)/\(∃ys ,SqK k K H1 b ys)/\R (Itz j k K a b) H1
def Co (n a b:Nat)(h1:a<n)(h2:b<n):(n+2≠n+4/\n+3≠n+4/\n≠n+4/\n+1≠n+4/\n+2≠n+3/\n+2≠n/\n+2≠n+1/\n+3≠n/\n+3≠n+1)/\(n≠n+1/\a≠n+4/\a≠n+3/\a≠n/\a≠n+1/\b≠n+4/\b≠n+3/\b≠n/\b≠n+1):=∅
def wN (h1:l1<n)(h2:l2<n):ZA (n+4) (n+2) (n+3) n (n+1) l1 l2:=
 by
 let((a1,a2,a3,a4,a5,a6,a7,a8,a9),b1,b2,b3,b4,b5,b6,b7,b8,b9):=Co n l1 l2 h1 h2;exact(a1,a2,a3,a4,a5,a6,a7,a8,a9,b1,b2,b3,b4,b5,b6,b7,b8,b9)
def Dh {j k:Bool}{x1}(hg:Gl X "zip")(hm:X.mg "zip"=none)(ha:PA X [a,b] ta)(hs:LH [a,b] X.env=[(false ,LD a X.env),(false ,LD b X.env)])(hs2:LH [b] X.env=[(false ,LD b X.env)]):PI X (.Tuple elts x1 tpos) (.Call (.Name "zip" p) [a,b] [] pos) (iZip j k X.K ta):=by
 intro gV s σ H R I h;refine Call_ (dU I hg hm boot_zip<|PyProof.Rows.callWith_type1 (thn (ha pos gV s σ H _ I h) λus s1 qz=>?_) (by rw[hs,hs2])<|by rw[hs2];rfl);let(vs,H1,I1,r1,q1):=qz;let(a',b',e,(xs,hq1),(ys,hq2),q):=q1;subst e;let(u,v,rfl,ru,rv):=r1.two;cases ru;cases rv;let(is1,rv1,t1):=I1.seqK hq1;let(is2,rv2,t2):=I1.seqK hq2;have lt:∀ {T:String}{l:Lb}{u:Array K5},SeqAt s1.heap T l u->l<↥s1:=λ{T l u} h=>by rcases h with⟨_,o,e,_⟩|⟨_,o,e,_⟩<;>exact Hj e
 refine n9 t1 t2 λh' Z hsz hk=>wpAny_pyIter_zip Z.z ?_;have I2:Inv X gV σ H1 {s1 with heap:=h'}:=I1.kept (t':=s1.toks) hk;refine(↥s1+4,[↥s1+4,↥s1+2,↥s1+3,↥s1,↥s1+1],_,_,H1,rfl,I2,wU (j:=j) (k:=k)<|wN (lt t1)<|lt t2,(Z.z,Z.ti,Z.to,Z.u1,Z.u2),λc hc=>?_,q);have hc':↥s1<=c:=by
  simp only[Hd,HB,or_false]at hc;rcases hc with rfl|rfl|rfl|rfl|rfl
  exact IE _ _;exact IE _ _;exact IE _ _;exact Hc _;exact IE _ _
 exact I1.fpOk hc'<|I1.hok.fresh hc'
end
end
section
inductive W where
 |ty (n:String)|exc (c:Str)|cls (c:Str)|non|bl (b:Bool)|int (i:Int)|str (x:Str)
 |tup (l:↑W)|tl (l:↑W)|cl (l:↑W)|dv (ks:↑Key)(ws:↑W)|dn (b:Bool)(ks:↑PKy)(ws:↑W)|kt (ks:↑Key)|loc (k:Nat)
inductive Ob where|lst (l:↑W)|dic (ks:↑Key)(ws:↑W)|dit (ks:↑↑Key)(ws:↑W)|din (b:Bool)(ks:↑PKy)(ws:↑W)|ins (c:Str)(ns:↑Str)(ws:↑W)|gone
structure Wo where
 mu:Nat->Lb
 h:↑Ob
 H:Hp
def Lv (o:Wo)(a:Lb):Prop:=∃k b,o.h[k]?=`b/\b≠.gone/\o.mu k=a
def FrL (K:Zf)(a:Lb)(xs:↑V):Prop:=∃ (o:Le) (its:Array K5) (n:Nat),K.lookup a=`o/\o.cls=.type "list"/\o.dict=none/\o.data=.seq its n/\its.size<=sizeLine/\Vals xs its.toList
def KeyN (K:Zf)(H:Hp)(b:Bool)(c:Lb)(k:PKy):Prop:=∃d,SqT K H c (match b with
 |false=>[.int k.1,.ref d]
 |true=>[.ref d,.int k.1])/\SqT K H d (k.2.map V.int)
mutual
noncomputable def Rv (K:Zf)(o:Wo):W->V->Prop|.ty n,v=>v=.ty n|.exc c,v=>∃a C,v=.ref a/\K3 K Lx c=some (some<|.ref C)/\o.H a=some (excO a<|.ref C)|.cls c,v=>∃C,v=.ref C/\K3 K Lx c=some (some<|.ref C)|.non,v=>v=.non|.bl b,v=>v=.bl b|.int i,v=>v=.int i|.str x,v=>v=.str x|.tup l,v=>∃a vs,v=.ref a/\SqT K o.H a vs/\Rvs K o l vs|.tl l,v=>∃a vs,v=.ref a/\o.H a=some (.lst vs)/\¬Lv o a/\Rvs K o l vs|.cl l,v=>∃a vs,v=.ref a/\((Rd o.H a (.lst vs)/\¬Lv o a)\/FrL K a vs)/\Rvs K o l vs|.dv ks ws,v=>∃a kvs,v=.ref a/\Rd o.H a (.dK kvs)/\¬Lv o a/\kvs.map (·.1)=ks/\Rvs K o ws (kvs.map (·.2))|.dn b ks ws,v=>∃a,∃xs:↑(PKy×Lb×V)×Nat,v=.ref a/\o.H a=some (.dN b xs.1 xs.2)/\¬Lv o a/\xs.1.map (·.1)=ks/\(∀x∈xs.1 ,KeyN K o.H b x.2.1 x.1)/\Rvs K o ws (xs.1.map (·.2.2))|.kt ks,v=>∃a,v=.ref a/\o.H a=some (.tup<|ks.map kV)|.loc k,v=>k<⇑o.h/\v=.ref (o.mu k)
noncomputable def Rvs (K:Zf)(o:Wo):↑W->↑V->Prop|[],vs=>vs=[]|w::l,vs=>∃v r,vs=v::r/\Rv K o w v/\Rvs K o l r
end
noncomputable def Ro (K:Zf)(o:Wo)(a:Lb):Ob->Prop|.lst l=>∃vs,o.H a=some (.lst vs)/\Rvs K o l vs|.dic ks ws=>∃kvs,o.H a=some (.dK kvs)/\kvs.map (·.1)=ks/\Rvs K o ws (kvs.map (·.2))|.dit ks ws=>∃kvs,o.H a=some (.dT kvs)/\kvs.map (·.1)=ks/\Rvs K o ws (kvs.map (·.2))|.din b ks ws=>∃xs:↑(PKy×Lb×V)×Nat,o.H a=some (.dN b xs.1 xs.2)/\xs.1.map (·.1)=ks/\(∀x∈xs.1 ,KeyN K o.H b x.2.1 x.1)/\Rvs K o ws (xs.1.map (·.2.2))|.ins c ns ws=>∃C dx fs,K3 K Lx c=some (some<|.ref C)/\o.H a=some (.ins C dx fs)/\fs.map (·.1)=ns/\Rvs K o ws (fs.map (·.2))|.gone=>True
structure Rel (K:Zf)(o:Wo):Prop where
 ob:∀k b,o.h[k]?=`b->Ro K o (o.mu k) b
 inj:∀j k b c,o.h[j]?=`b->o.h[k]?=`c->b≠.gone->c≠.gone->o.mu j=o.mu k->j=k
structure Ex (o p:Wo):Prop where
 le:⇑o.h<=⇑p.h
 mu:∀k,k<⇑o.h->p.mu k=o.mu k
 fr:∀a u,o.H a=`u->¬Lv o a->p.H a=`u/\¬Lv p a
def Ex.refl (o:Wo):Ex o o:=(Hc _,λJ J=>rfl,λJ J h n=>(h,n))
theorem Ex.trans (a:Ex o p)(b:Ex p q):Ex o q:=(HA a.le b.le,λk h=>(b.mu k<|HE h a.le).trans<|a.mu k h,λc u h n=>let (h1,n1):=a.fr c u h n;b.fr c u h1 n1)
section
variable {K:Zf}{o p:Wo}
def Lv.kind (R:Rel K o)(h:Lv o a):(∃vs ,o.H a=some (.lst vs))\/(∃kvs ,o.H a=some (.dK kvs))\/(∃C dx fs ,o.H a=some (.ins C dx fs))\/(∃kvs ,o.H a=some (.dT kvs))\/ ∃b,∃xs:↑(PKy×Lb×V)×Nat,o.H a=some (.dN b xs.1 xs.2):=by
 let(k,b,hk,hb,rfl):=h;have q:=R.ob k b hk;cases b with|lst l=>exact .inl (let (vs,e,_):=q;(vs,e))|dic ks ws=>exact .inr (.inl (let (vs,e,_):=q;(vs,e)))|ins c ns ws=>exact .inr (.inr<|.inl (let (C,dx,fs,_,e,_):=q;(C,dx,fs,e)))|dit ks ws=>exact .inr (.inr<|.inr<|.inl (let (vs,e,_):=q;(vs,e)))|din b ks ws=>exact .inr (.inr<|.inr<|.inr (let (vs,e,_):=q;(b,vs,e)))|gone=>exact absurd rfl hb
def Ex.keep (X:Ex o p)(R:Rel K o)(h:o.H a=`u)(n1:∀vs ,u≠.lst vs)(n2:∀kvs ,u≠.dK kvs)(n3:∀C dx fs ,u≠.ins C dx fs)(n4:∀kvs ,u≠.dT kvs)(n5:∀b (xs:↑(PKy×Lb×V)×Nat) ,u≠.dN b xs.1 xs.2):p.H a=`u:=by
 refine (X.fr a u h λl=>?_).1;rcases l.kind R with⟨vs,e⟩|⟨vs,e⟩|⟨C,dx,fs,e⟩|⟨vs,e⟩|⟨b,vs,e⟩
 rw[h]at e;exact n1 vs<|Option.some.inj e;rw[h]at e;exact n2 vs<|Option.some.inj e;rw[h]at e;exact n3 C dx fs<|Option.some.inj e;rw[h]at e;exact n4 vs<|Option.some.inj e;rw[h]at e;exact n5 b vs<|Option.some.inj e
def Ex.rdT (X:Ex o p)(R:Rel K o)(h:SqT K o.H a vs):SqT K p.H a vs:=by
 rcases h with (h|⟨ob,h⟩)|h
 exact .inl (.inl<|X.keep R h (λJ z=>nomatch z) (λJ z=>nomatch z) (λJ J J z=>nomatch z) (λJ z=>nomatch z) λJ J z=>nomatch z);exact .inl<|.inr (ob,X.keep R h (λJ z=>nomatch z) (λJ z=>nomatch z) (λJ J J z=>nomatch z) (λJ z=>nomatch z) λJ J z=>nomatch z);exact .inr h
def KeyN.mono (X:Ex o p)(R:Rel K o){b:Bool}(h:KeyN K o.H b c k):KeyN K p.H b c k:=by let(d,h1,h2):=h;exact(d,X.rdT R h1,X.rdT R h2)
def Ex.rd (X:Ex o p)(h:Rd o.H a u)(n:¬Lv o a):Rd p.H a u/\¬Lv p a:=by
 rcases h with h|⟨ob,h⟩
 exact(.inl (X.fr a _ h n).1,(X.fr a _ h n).2);exact(.inr (ob,(X.fr a _ h n).1),(X.fr a _ h n).2)
mutual
theorem Rv.mono (R:Rel K o)(X:Ex o p):∀ (w:W) (v:V),Rv K o w v->Rv K p w v
 |.ty n,v,h=>h
 |.exc c,v,h=>by unfold Rv at h ⊢;let(a,C,e,h1,h2):=h;exact(a,C,e,h1,X.keep R h2 (λJ z=>nomatch z) (λJ z=>nomatch z) (λJ J J z=>nomatch z) (λJ z=>nomatch z) λJ J z=>nomatch z)
 |.cls c,v,h=>by unfold Rv at h ⊢;exact h
 |.non,v,h=>h
 |.bl b,v,h=>h
 |.int i,v,h=>h
 |.str x,v,h=>h
 |.tup l,v,h=>by unfold Rv at h ⊢;let(a,vs,e,h1,h2):=h;exact(a,vs,e,X.rdT R h1,Rvs.mono R X l vs h2)
 |.tl l,v,h=>by unfold Rv at h ⊢;let(a,vs,e,h1,n,h2):=h;exact(a,vs,e,(X.fr a _ h1 n).1,(X.fr a _ h1 n).2,Rvs.mono R X l vs h2)
 |.cl l,v,h=>by
  unfold Rv at h ⊢;let(a,vs,e,h1,h2):=h;refine(a,vs,e,?_,Rvs.mono R X l vs h2);rcases h1 with⟨h1,n⟩|h1
  exact .inl<|X.rd h1 n;exact .inr h1
 |.dv ks ws,v,h=>by unfold Rv at h ⊢;let(a,vs,e,h1,n,h2,h3):=h;exact(a,vs,e,(X.rd h1 n).1,(X.rd h1 n).2,h2,Rvs.mono R X ws _ h3)
 |.dn b ks ws,v,h=>by unfold Rv at h ⊢;let(a,xs,e,h1,n,h2,hn,h3):=h;exact(a,xs,e,(X.fr a _ h1 n).1,(X.fr a _ h1 n).2,h2,λx hx=>(hn x hx).mono X R,Rvs.mono R X ws _ h3)
 |.kt ks,v,h=>by unfold Rv at h ⊢;let(a,e,h):=h;exact(a,e,X.keep R h (λJ z=>nomatch z) (λJ z=>nomatch z) (λJ J J z=>nomatch z) (λJ z=>nomatch z) λJ J z=>nomatch z)
 |.loc k,v,h=>by unfold Rv at h ⊢;exact(HE h.1 X.le,by rw[X.mu k h.1];exact h.2)
theorem Rvs.mono (R:Rel K o)(X:Ex o p):∀ (l:↑W) (vs:↑V),Rvs K o l vs->Rvs K p l vs|[],vs,h=>h|w::l,vs,h=>by unfold Rvs at h ⊢;let(v,r,e,h1,h2):=h;exact(v,r,e,Rv.mono R X w v h1,Rvs.mono R X l r h2)
end
def Rel.keep (R:Rel K o)(X:Ex o p)(e1:p.h=o.h)(e2:p.mu=o.mu)(e3:∀k b ,o.h[k]?=`b->b≠.gone->p.H (o.mu k)=o.H (o.mu k)):Rel K p:=by
 refine(λk b hk=>?_,λj k b c h1 h2=>?_)
 .rw[e1]at hk;rw[e2];have q:=R.ob k b hk;cases b with|lst l=>let(vs,h1,h2):=q;exact(vs,by rw[e3 k _ hk ⇑_];exact h1,h2.mono R X)|dic ks ws=>let(vs,h1,h2,h3):=q;exact(vs,by rw[e3 k _ hk ⇑_];exact h1,h2,h3.mono R X)|dit ks ws=>let(vs,h1,h2,h3):=q;exact(vs,by rw[e3 k _ hk ⇑_];exact h1,h2,h3.mono R X)|din b ks ws=>let(vs,h1,h2,hn,h3):=q;exact(vs,by rw[e3 k _ hk ⇑_];exact h1,h2,λx hx=>(hn x hx).mono X R,h3.mono R X)|ins c ns ws=>let(C,dx,fs,h0,h1,h2,h3):=q;exact(C,dx,fs,h0,by rw[e3 k _ hk ⇑_];exact h1,h2,h3.mono R X)|gone=>trivial
 rw[e1]at h1 h2;rw[e2];exact R.inj j k b c h1 h2
def Lv.there (R:Rel K o)(h:Lv o a):o.H a≠none:=by rcases h.kind R with⟨vs,e⟩|⟨vs,e⟩|⟨C,dx,fs,e⟩|⟨vs,e⟩|⟨b,vs,e⟩<;>(rw[e];simp)
def Ex.new (h:o.H q=none):Ex o (o.mu,o.h,upd o.H q u):=by refine(Hc _,λJ J=>rfl,λa w e n=>(?_,n));show upd o.H q u a=`w;rw[af<|bz e h];exact e
theorem Rel.new (R:Rel K o)(h:o.H q=none):Rel K (o.mu,o.h,upd o.H q u):=by
 refine R.keep (Ex.new h) rfl rfl λk b hk hb=>?_;have l:Lv o (o.mu k):=(k,b,hk,hb,rfl)
 show upd o.H q u (o.mu k)=_;rw[af λz=>l.there R<|by rw[z];exact h]
def Ex.same (g:Same o.H H'):Ex o (o.mu,o.h,H'):=(Hc _,λJ J=>rfl,λa w e n=>(g a w e,n))
theorem Rel.same (R:Rel K o)(g:Same o.H H'):Rel K (o.mu,o.h,H'):=by
 refine R.keep (Ex.same g) rfl rfl λk b hk hb=>?_;cases e:o.H (o.mu k) with|none=>exact absurd e (Lv.there R (k,b,hk,hb,rfl))|some u=>exact g _ _ e
noncomputable def Wo.add (o:Wo)(q:Lb)(b:Ob)(u:HO):Wo:=(λk=>if k=⇑o.h then q else o.mu k,o.h++[b],upd o.H q u)
theorem Ex.add (h:o.H q=none):Ex o (o.add q b u):=by
 refine(by show _<=⇑(o.h++[b]);simp,λk hk=>?_,λa w e n=>(?_,λl=>?_));show (if k=⇑o.h then q else o.mu k)=_;rw[aZ ∅];show upd o.H q u a=`w;rw[af<|bz e h];exact e
 .let(k,c,hk,hc,ha):=l;have ha:(if k=⇑o.h then q else o.mu k)=a:=ha;have hk:(o.h++[b])[k]?=`c:=hk;by_cases z:k=⇑o.h;rw[bf z]at ha;exact absurd ha.symm (bz e h)
  .rw[aZ z]at ha;have hl:k<⇑o.h:=by have:=(Hm.mp hk).1;rw[Hk,HI]at this;omega
   rw[HN hl]at hk;exact n (k,c,hk,hc,ha)
theorem Rel.add (R:Rel K o)(h:o.H q=none)(hb:Ro K (o.add q b u) q b):Rel K (o.add q b u):=by
 have X:Ex o (o.add q b u):=Ex.add h;have old:∀ {k:Nat}{c:Ob},(o.add q b u).h[k]?=`c->k≠⇑o.h->o.h[k]?=`c/\(o.add q b u).mu k=o.mu k:=λ{k c} hk z=>by
  have hk:(o.h++[b])[k]?=`c:=hk;have hl:k<⇑o.h:=by have:=(Hm.mp hk).1;rw[Hk,HI]at this;omega
  rw[HN hl]at hk;exact(hk,X.mu k hl)
 have new:∀ {k:Nat}{c:Ob},(o.add q b u).h[k]?=`c->k=⇑o.h->c=b/\(o.add q b u).mu k=q:=λ{k c} hk z=>by subst z;have hk:(o.h++[b])[⇑o.h]?=`c:=hk;rw[Iq<|Hc _,J7]at hk;exact((Option.some.inj hk).symm,bf rfl)
 have ne:∀ {k:Nat}{c:Ob},o.h[k]?=`c->c≠.gone->o.mu k≠q:=λ{k c} hk hc z=>Lv.there R (k,c,hk,hc,rfl) (by rw[z];exact h);refine(λk c hk=>?_,λj k c d h1 h2 n1 n2 e=>?_)
 .by_cases z:k=⇑o.h;let(rfl,e):=new hk z;rw[e];exact hb
  .let(hk,e):=old hk z;rw[e];have r:=R.ob k c hk;have st:∀ {w:HO},c≠.gone->o.H (o.mu k)=`w->(o.add q b u).H (o.mu k)=`w:=λ{w} hc e=>by show upd o.H q u (o.mu k)=`w;rw[af<|ne hk hc];exact e
   cases c with|lst l=>let(vs,h1,h2):=r;exact(vs,st ⇑_ h1,h2.mono R X)|dic ks ws=>let(vs,h1,h2,h3):=r;exact(vs,st ⇑_ h1,h2,h3.mono R X)|dit ks ws=>let(vs,h1,h2,h3):=r;exact(vs,st ⇑_ h1,h2,h3.mono R X)|din b ks ws=>let(vs,h1,h2,hn,h3):=r;exact(vs,st ⇑_ h1,h2,λx hx=>(hn x hx).mono X R,h3.mono R X)|ins c ns ws=>let(C,dx,fs,h0,h1,h2,h3):=r;exact(C,dx,fs,h0,st ⇑_ h1,h2,h3.mono R X)|gone=>trivial
 .by_cases z1:j=⇑o.h
  .by_cases z2:k=⇑o.h;omega;let(_,e1):=new h1 z1;let(hk,e2):=old h2 z2;rw[e1,e2]at e;exact absurd e.symm<|ne hk n2
  .let(hj,e1):=old h1 z1;by_cases z2:k=⇑o.h;let(_,e2):=new h2 z2;rw[e1,e2]at e;exact absurd e<|ne hj n1;let(hk,e2):=old h2 z2;rw[e1,e2]at e;exact R.inj j k c d hj hk n1 n2 e
def Rel.addL (R:Rel K o)(h:o.H q=none)(hl:Rvs K o l vs):Rel K (o.add q (.lst l)<|.lst vs):=R.add h (vs,aq,hl.mono R<|Ex.add h)
def Rel.addT (R:Rel K o){ws:↑W}(h:o.H q=none)(hk:kvs.map (·.1)=ks)(hl:Rvs K o ws (kvs.map (·.2))):Rel K (o.add q (.dit ks ws)<|.dT kvs):=R.add h (kvs,aq,hk,hl.mono R<|Ex.add h)
noncomputable def Wo.put (o:Wo)(k:Nat)(b:Ob)(u:HO):Wo:=(o.mu,o.h.set k b,upd o.H (o.mu k) u)
theorem Lv.put {k:Nat}(hk:o.h[k]?=`c)(hc:c≠.gone)(h:Lv (o.put k b u) a):Lv o a:=by
 let(j,d,hj,hd,rfl):=h;have hj:(o.h.set k b)[j]?=`d:=hj;by_cases z:j=k;subst z;exact(j,c,hk,hc,rfl);rw[Hr<|Ne.symm z]at hj;exact(j,d,hj,hd,rfl)
theorem Ex.put {k:Nat}(hk:o.h[k]?=`c)(hc:c≠.gone):Ex o (o.put k b u):=by refine(by show _<=⇑(o.h.set k b);simp,λJ J=>rfl,λa w e n=>(?_,λl=>n<|l.put hk hc));show upd o.H (o.mu k) u a=`w;rw[af λz=>n (k,c,hk,hc,z.symm)];exact e
theorem Rel.put (R:Rel K o){k:Nat}(hk:o.h[k]?=`c)(hc:c≠.gone)(hb:Ro K (o.put k b u) (o.mu k) b):Rel K (o.put k b u):=by
 have X:Ex o (o.put k b u):=Ex.put hk hc;have old:∀ {j:Nat}{d:Ob},(o.put k b u).h[j]?=`d->j≠k->o.h[j]?=`d:=λ{j d} hj z=>by have hj:(o.h.set k b)[j]?=`d:=hj;rw[Hr<|Ne.symm z]at hj;exact hj
 refine(λj d hj=>?_,λi j d e h1 h2 n1 n2 q=>?_)
 .by_cases z:j=k;subst z;have hl:=(Hm.mp hk).1;have hj:(o.h.set j b)[j]?=`d:=hj;rw[IQ hl]at hj;cases hj;exact hb
  .have hj:=old hj z;have r:=R.ob j d hj;have st:∀ {w:HO},d≠.gone->o.H (o.mu j)=`w->(o.put k b u).H (o.mu j)=`w:=λ{w} hd e=>by show upd o.H (o.mu k) u (o.mu j)=`w;rw[af λq=>z<|R.inj j k d c hj hk hd hc q];exact e
   cases d with|lst l=>let(vs,h1,h2):=r;exact(vs,st ⇑_ h1,h2.mono R X)|dic ks ws=>let(vs,h1,h2,h3):=r;exact(vs,st ⇑_ h1,h2,h3.mono R X)|dit ks ws=>let(vs,h1,h2,h3):=r;exact(vs,st ⇑_ h1,h2,h3.mono R X)|din b ks ws=>let(vs,h1,h2,hn,h3):=r;exact(vs,st ⇑_ h1,h2,λx hx=>(hn x hx).mono X R,h3.mono R X)|ins c ns ws=>let(C,dx,fs,h0,h1,h2,h3):=r;exact(C,dx,fs,h0,st ⇑_ h1,h2,h3.mono R X)|gone=>trivial
 .have ex:∀ {j:Nat}{d:Ob},(o.put k b u).h[j]?=`d->d≠.gone->∃d',o.h[j]?=`d'/\d'≠.gone:=λ{j d} hj n=>by
   by_cases z:j=k;subst z;exact(c,hk,hc);exact(d,old hj z,n)
  let(d',h1',n1'):=ex h1 n1;let(e',h2',n2'):=ex h2 n2;exact R.inj i j d' e' h1' h2' n1' n2' q
def Rel.putL (R:Rel K o){k:Nat}(hk:o.h[k]?=`c)(hc:c≠.gone)(hl:Rvs K o l vs):Rel K (o.put k (.lst l)<|.lst vs):=R.put hk hc (vs,aq,hl.mono R<|Ex.put hk hc)
def Rel.putD (R:Rel K o){k:Nat}{ws:↑W}(hk:o.h[k]?=`c)(hc:c≠.gone)(h1:kvs.map (·.1)=ks)(hl:Rvs K o ws (kvs.map (·.2))):Rel K (o.put k (.dic ks ws)<|.dK kvs):=R.put hk hc (kvs,aq,h1,hl.mono R<|Ex.put hk hc)
def Rel.putT (R:Rel K o){k:Nat}{ws:↑W}(hk:o.h[k]?=`c)(hc:c≠.gone)(h1:kvs.map (·.1)=ks)(hl:Rvs K o ws (kvs.map (·.2))):Rel K (o.put k (.dit ks ws)<|.dT kvs):=R.put hk hc (kvs,aq,h1,hl.mono R<|Ex.put hk hc)
def Rel.putN (R:Rel K o){k:Nat}{b:Bool}{ws:↑W}{ep:Nat}(hk:o.h[k]?=`c)(hc:c≠.gone)(h1:xs.map (·.1)=ks)(hn:∀x∈xs ,KeyN K o.H b x.2.1 x.1)(hl:Rvs K o ws (xs.map (·.2.2))):Rel K (o.put k (.din b ks ws)<|.dN b xs ep):=R.put hk hc ((xs ,ep),aq,h1,λx hx=>(hn x hx).mono (Ex.put hk hc) R,hl.mono R<|Ex.put hk hc)
noncomputable def Wo.ice (o:Wo)(k:Nat):Wo:=(o.mu,o.h.set k .gone,o.H)
theorem Lv.ice {k:Nat}(h:Lv (o.ice k) a):∃j b,j≠k/\o.h[j]?=`b/\b≠.gone/\o.mu j=a:=by
 let(j,d,hj,hd,e):=h;have hj:(o.h.set k .gone)[j]?=`d:=hj;by_cases z:j=k;subst z;have hl:=(Hm.mp hj).1;rw[HP]at hl;rw[IQ hl]at hj;cases hj;exact absurd rfl hd;rw[Hr<|Ne.symm z]at hj;exact(j,d,z,hj,hd,e)
theorem Ex.ice {k:Nat}:Ex o (o.ice k):=by refine(by show _<=⇑(o.h.set k .gone);simp,λJ J=>rfl,λa w e n=>(e,λl=>?_));let(j,b,_,h1,h2,h3):=l.ice;exact n (j,b,h1,h2,h3)
theorem Rel.ice (R:Rel K o){k:Nat}:Rel K (o.ice k):=by
 have X:Ex o (o.ice k):=Ex.ice;have old:∀ {j:Nat}{d:Ob},(o.ice k).h[j]?=`d->d≠.gone->o.h[j]?=`d:=λ{j d} hj n=>by
  have hj:(o.h.set k .gone)[j]?=`d:=hj;by_cases z:j=k;subst z;have hl:=(Hm.mp hj).1;rw[HP]at hl;rw[IQ hl]at hj;cases hj;exact absurd rfl n;rw[Hr<|Ne.symm z]at hj;exact hj
 refine(λj d hj=>?_,λi j d e h1 h2 n1 n2 q=>R.inj i j d e (old h1 n1) (old h2 n2) n1 n2 q);cases d with|lst l=>let(vs,h1,h2):=R.ob j _<|old hj ⇑_;exact(vs,h1,h2.mono R X)|dic ks ws=>let(vs,h1,h2,h3):=R.ob j _<|old hj ⇑_;exact(vs,h1,h2,h3.mono R X)|dit ks ws=>let(vs,h1,h2,h3):=R.ob j _<|old hj ⇑_;exact(vs,h1,h2,h3.mono R X)|din b ks ws=>let(vs,h1,h2,hn,h3):=R.ob j _<|old hj ⇑_;exact(vs,h1,h2,λx hx=>(hn x hx).mono X R,h3.mono R X)|ins c ns ws=>let(C,dx,fs,h0,h1,h2,h3):=R.ob j _<|old hj ⇑_;exact(C,dx,fs,h0,h1,h2,h3.mono R X)|gone=>trivial
def Rv.iceL (R:Rel K o){k:Nat}(hk:o.h[k]?=some (.lst l)):Rv K (o.ice k) (.tl l) (.ref<|o.mu k):=by let(vs,h1,h2):=R.ob k _ hk;unfold Rv;refine(_,vs,rfl,h1,λz=>?_,h2.mono R Ex.ice);let(j,b,n,q1,q2,q3):=z.ice;exact n<|R.inj j k b _ q1 hk q2 ⇑_ q3
def Rv.iceD (R:Rel K o){k:Nat}{ws:↑W}(hk:o.h[k]?=some (.dic ks ws)):Rv K (o.ice k) (.dv ks ws) (.ref<|o.mu k):=by let(vs,h1,h0,h2):=R.ob k _ hk;unfold Rv;refine(_,vs,rfl,.inl h1,λz=>?_,h0,h2.mono R Ex.ice);let(j,b,n,q1,q2,q3):=z.ice;exact n<|R.inj j k b _ q1 hk q2 ⇑_ q3
def Rv.iceN (R:Rel K o){k:Nat}{b:Bool}{ws:↑W}(hk:o.h[k]?=some (.din b ks ws)):Rv K (o.ice k) (.dn b ks ws) (.ref<|o.mu k):=by let(vs,h1,h0,hn,h2):=R.ob k _ hk;unfold Rv;refine(_,vs,rfl,h1,λz=>?_,h0,λx hx=>(hn x hx).mono Ex.ice R,h2.mono R Ex.ice);let(j,b,n,q1,q2,q3):=z.ice;exact n<|R.inj j k b _ q1 hk q2 ⇑_ q3
theorem Rvs.len:∀ {l:↑W}{vs:↑V},Rvs K o l vs->⇑vs=⇑l|[],_,h=>by unfold Rvs at h;rw[h];rfl|w::l,_,h=>by unfold Rvs at h;let(v,r,rfl,_,h2):=h;rw[Hf,Hf,Rvs.len h2]
theorem Rvs.get:∀ {l:↑W}{vs:↑V}{i:Nat}{w:W},Rvs K o l vs->l[i]?=`w->∃v,vs[i]?=`v/\Rv K o w v|[],_,_,_,_,e=>by simp at e|x::l,_,0,w,h,e=>by unfold Rvs at h;let(v,r,rfl,h1,h2):=h;cases e;exact(v,rfl,h1)|x::l,_,i+1,w,h,e=>by unfold Rvs at h;let(v,r,rfl,h1,h2):=h;let(u,q1,q2):=Rvs.get (l:=l) (i:=i) (w:=w) h2 (by simpa using e);exact(u,by simpa using q1,q2)
def Rvs.nil:Rvs K o [] []:=by unfold Rvs;rfl
def Rvs.cons {w:W}{v:V}{l:↑W}{vs:↑V}(h:Rv K o w v)(t:Rvs K o l vs):Rvs K o (w::l) (v::vs):=by unfold Rvs;exact(v,vs,rfl,h,t)
theorem Rvs.app:∀ {l m:↑W}{vs us:↑V},Rvs K o l vs->Rvs K o m us->Rvs K o (l++m) (vs++us)|[],_,_,_,h,t=>by unfold Rvs at h;rw[h];exact t|w::l,m,_,us,h,t=>by unfold Rvs at h;let(v,r,rfl,h1,h2):=h;exact Rvs.cons h1<|Rvs.app h2 t
theorem Rvs.take:∀ {l:↑W}{vs:↑V} (n:Nat),Rvs K o l vs->Rvs K o (l.take n) (vs.take n)|[],_,n,h=>by unfold Rvs at h;rw[h,List.take_nil,List.take_nil];exact Rvs.nil|w::l,_,0,h=>by rw[Jy,Jy];exact Rvs.nil|w::l,_,n+1,h=>by unfold Rvs at h;let(v,r,rfl,h1,h2):=h;exact Rvs.cons h1<|Rvs.take n h2
theorem Rvs.drop:∀ {l:↑W}{vs:↑V} (n:Nat),Rvs K o l vs->Rvs K o (l.drop n) (vs.drop n)|[],_,n,h=>by unfold Rvs at h;rw[h,List.drop_nil,List.drop_nil];exact Rvs.nil|w::l,_,0,h=>h|w::l,_,n+1,h=>by unfold Rvs at h;let(v,r,rfl,h1,h2):=h;exact Rvs.drop n h2
theorem Rvs.set (hx:Rv K o x y):∀ {l:↑W}{vs:↑V} (i:Nat),Rvs K o l vs->Rvs K o (l.set i x) (vs.set i y)|[],_,n,h=>by unfold Rvs at h;rw[h];exact Rvs.nil|w::l,_,0,h=>by unfold Rvs at h;let(v,r,rfl,h1,h2):=h;exact Rvs.cons hx h2|w::l,_,n+1,h=>by unfold Rvs at h;let(v,r,rfl,h1,h2):=h;exact Rvs.cons h1<|Rvs.set hx n h2
abbrev MG:=List<|Option W
noncomputable def RvO (K:Zf)(o:Wo):Option W->Option V->Prop|some w,s=>∃v,s=`v/\Rv K o w v|none,s=>s=none
noncomputable def Re (K:Zf)(o:Wo):MG->St->Prop|[],s=>s=[]|w::r,s=>∃x t,s=x::t/\RvO K o w x/\Re K o r t
theorem RvO.mono (R:Rel K o)(X:Ex o p):∀ {w:Option W}{s:Option V},RvO K o w s->RvO K p w s
 |some w,_,(v,e,h)=>(v,e,h.mono R X)
 |none,_,h=>h
theorem Re.mono (R:Rel K o)(X:Ex o p):∀ {r:MG}{s:St},Re K o r s->Re K p r s
 |[],_,h=>h
 |w::r,_,(x,t,e,h1,h2)=>(x,t,e,h1.mono R X,Re.mono R X h2)
theorem Re.get:∀ {r:MG}{s:St}{i:Nat}{w:W},Re K o r s->r[i]?=some `w->∃v,s[i]?=some `v/\Rv K o w v|[],_,_,_,_,e=>by simp at e|x::r,_,0,w,(y,t,rfl,h1,h2),e=>by cases e;let(v,rfl,q):=h1;exact(v,rfl,q)|x::r,_,i+1,w,(y,t,rfl,h1,h2),e=>by let(u,q1,q2):=Re.get (r:=r) (i:=i) (w:=w) h2 (by simpa using e);exact(u,by simpa using q1,q2)
theorem Re.set {w:W}(q:Rv K o w v):∀ {r:MG}{s:St} (i:Nat),Re K o r s->Re K o (r.set i<|some w) (s.set i<|some v)
 |[],_,_,h=>by rw[show _=[] from h];rfl
 |x::r,_,0,(y,t,rfl,h1,h2)=>(_,_,rfl,(v,rfl,q),h2)
 |x::r,_,i+1,(y,t,rfl,h1,h2)=>(_,_,rfl,h1,Re.set q i h2)
theorem Re.front:∀ {r:MG}{s:St} (n:Nat),Re K o r s->Re K o (List.replicate n none++r) (List.replicate n none++s)
 |_,_,0,h=>h
 |_,_,n+1,h=>(none,_,rfl,rfl,Re.front n h)
theorem Re.args:∀ {ws:↑W}{vs:↑V} (n:Nat),Rvs K o ws vs->Re K o (ws.map some++List.replicate n none) (vs.map some++List.replicate n none)
 |[],_,n,h=>by
  unfold Rvs at h;rw[h]
  induction n with|zero=>rfl|succ n ih=>exact(none,_,rfl,rfl,ih)
 |w::l,_,n,h=>by unfold Rvs at h;let(v,r,rfl,h1,h2):=h;exact(_,_,rfl,(v,rfl,h1),Re.args n h2)
end
inductive Rs (α:Type) where|ok (a:α)(h:↑Ob)|ex (c:Str)(h:↑Ob)|bad
abbrev M (α:Type):=↑Ob->Rs α
noncomputable def bd {α β:Type}(f:M α)(g:α->M β):M β:=λh=>match f h with|.ok a h'=>g a h'|.ex c h'=>.ex c h'|.bad=>.bad
noncomputable def pr {α:Type}(a:α):M α:=λh=>.ok a h
noncomputable def no {α:Type}:M α:=λJ=>.bad
noncomputable def gd {α:Type}(p:Prop) [Decidable p] (m:M α):M α:=λh=>if p then m h else .bad
structure Cg where
 K:Zf
 mg:Str->Option K5
 E:XK
def Ps {α β:Type}(c:Cg)(r:Wo->α->β->Prop)(o:Wo)(R:Rs α)(Q:β->Hp->Prop):Prop:=match R with|.ok a h'=>∀p b,p.h=h'->Ex o p->Rel c.K p->r p a b->Q b p.H|.ex x h'=>∃u,c.mg x=`u/\∀p,p.h=h'->Ex o p->Rel c.K p->c.E u none p.H|.bad=>False
def tG {α β:Type}(c:Cg)(r:Wo->α->β->Prop)(f:MG->M α)(σ:St)(H:Hp)(Q:β->Hp->Prop):Prop:=∃o ρ,o.H=H/\Rel c.K o/\Re c.K o ρ σ/\Ps c r o (f ρ o.h) Q
abbrev tM (c:Cg)(f:MG->M W):TE:=tG c (Rv c.K) f
abbrev tT (c:Cg)(f:MG->M Bool):TT:=tG c (λJ a b=>a=b) f
abbrev tA (c:Cg)(f:MG->M ↑W):TA:=tG c (Rvs c.K) f
section
variable {c:Cg}{o p:Wo}{α β γ δ:Type}{r:Wo->α->β->Prop}{r2:Wo->γ->δ->Prop}
def Ps.after {R:Rs α}{Q:β->Hp->Prop}(X:Ex o p)(h:Ps c r o R Q):Ps c r p R Q:=by
 cases R with|ok a h'=>exact λq b e X2 Rq rq=>h q b e (X.trans X2) Rq rq|ex x h'=>let(u,hu,h):=h;exact(u,hu,λq e X2 Rq=>h q e (X.trans X2) Rq)|bad=>exact h
theorem Ps.bd {f:M α}{g:α->M γ}{Q:δ->Hp->Prop}{N:β->Hp->Prop}(h:Ps c r2 o (bd f g o.h) Q)(k:∀p a b ,Ex o p->Rel c.K p->r p a b->Ps c r2 p (g a p.h) Q->N b p.H):Ps c r o (f o.h) N:=by
 unfold L2.bd at h;cases e:f o.h with
 |ok a h'=>
  rw[e]at h;intro p b hp X R rb;subst hp;exact k p a b X R rb<|h.after X
 |ex x h'=>
  rw[e]at h;exact h
 |bad=>
  rw[e]at h;exact h
theorem Ps.pr {a:α}{Q:β->Hp->Prop}{b:β}(h:Ps c r o (pr a o.h) Q)(R:Rel c.K o)(hb:r o a b):Q b o.H:=h o b rfl (Ex.refl _) R hb
def Ps.at {a:α}{Q:β->Hp->Prop}{b:β}(h:Ps c r o (.ok a h') Q)(e:p.h=h')(X:Ex o p)(R:Rel c.K p)(hb:r p a b):Q b p.H:=h p b e X R hb
theorem Ps.gd {P:Prop} [Decidable P] {m:M α}{Q:β->Hp->Prop}(h:Ps c r o (gd P m o.h) Q):P/\Ps c r o (m o.h) Q:=by
 unfold L2.gd at h;by_cases q:P;rw[bf q]at h;exact(q,h);rw[aZ q]at h;exact h.elim
end
end
section
abbrev cg (X:Cx)(E:XK):Cg:=(X.K,X.mg,E)
noncomputable def tF (c:Cg)(f:MG->M ↑W):TE:=λσ H Q=>tG c (Rvs c.K) f σ H λvs H1=>∀q,H1 q=none->Q (.ref q) (upd H1 q<|.lst vs)
structure JE (X:Cx)(E:XK)(e:Expr)(f:MG->M W):Prop where
 h:PE X e (tM (cg X E) f)
structure JT (X:Cx)(E:XK)(e:Expr)(f:MG->M Bool):Prop where
 h:PT X e (tT (cg X E) f)
structure JW (X:Cx)(E:XK)(e:Expr)(f:MG->M Bool):Prop where
 h:PW X e (tT (cg X E) f)
structure JA (X:Cx)(E:XK)(es:↑Expr)(f:MG->M ↑W):Prop where
 h:PA X es (tA (cg X E) f)
structure JF (X:Cx)(E:XK)(e:Expr)(f:MG->M ↑W):Prop where
 h:PE X e (tF (cg X E) f)
def PE.imp {f:MG->M W}(h:PE X e t)(k:∀σ H Q ,tM (cg X E) f σ H Q->t σ H Q):JE X E e f:=⟨λgV s σ H Q I q=>h gV s σ H Q I<|k σ H Q q⟩
def PE.impF {f:MG->M ↑W}(h:PE X e t)(k:∀σ H Q ,tF (cg X E) f σ H Q->t σ H Q):JF X E e f:=⟨λgV s σ H Q I q=>h gV s σ H Q I<|k σ H Q q⟩
def PT.imp {f:MG->M Bool}(h:PT X e t)(k:∀σ H Q ,tT (cg X E) f σ H Q->t σ H Q):JT X E e f:=⟨λgV s σ H Q I q=>h gV s σ H Q I<|k σ H Q q⟩
def PW.imp {f:MG->M Bool}(h:PW X e t)(k:∀σ H Q ,tT (cg X E) f σ H Q->t σ H Q):JW X E e f:=⟨λw gV s σ H Q I q=>h w gV s σ H Q I<|k σ H Q q⟩
def PA.imp {f:MG->M ↑W}(h:PA X e t)(k:∀σ H Q ,tA (cg X E) f σ H Q->t σ H Q):JA X E e f:=⟨λpos gV s σ H Q I q=>h pos gV s σ H Q I<|k σ H Q q⟩
def Ch {f:MG->M Bool}(q:JW X E e f):JT X E e f:=⟨(q.h).pt⟩
section
variable {X:Cx}{E:XK}
noncomputable def Pm (i:Nat):MG->M W:=λρ=>match ρ[i]? with|some (some w)=>pr w|_=>no
noncomputable def mC (w:W):MG->M W:=λJ=>pr w
def CI {i:Nat}(h:tM (cg X E) (Pm i) σ H Q):R7 i σ H Q:=by
 let(o,ρ,rfl,R,S,h):=h;unfold Pm at h;cases e:ρ[i]? with
 |none=>rw[e]at h;exact h.elim
 |some x=>
  cases x with
  |none=>rw[e]at h;exact h.elim
  |some w=>
   rw[e]at h;let(v,e1,r):=S.get e;exact(v,e1,h.pr R r)
def D8 (i:Nat){x:Str}(hN:X.N[i]?=`x:=by rfl)(hv:Vis X.env.scope x:=by trace_state)(hd:(x==("__debug__":Str))=false:=by decide)
 (hcd:(x==("__classdict__":Str))=false:=by decide):JE X E (.Name x pos) (Pm i):=(pv i hN hv hd hcd).imp λJ J J h=>CI h
def wZ {w:W}(hr:∀o ,Rv X.K o w v)(h:tM (cg X E) (mC w) σ H Q):tC v σ H Q:=by let(o,ρ,rfl,R,S,h):=h;exact Ps.pr (c:=cg X E) h R<|hr o
def En {i j pos}:JE X E (.Constant (.int i) j pos) (mC<|.int i):=Qf.imp λJ J J h=>wZ (λo=>by unfold Rv;rfl) h
def Gk {i j pos}:JE X E (.Constant (.bool i) j pos) (mC<|.bl i):=Qd.imp λJ J J h=>wZ (λo=>by unfold Rv;rfl) h
def Ec {i j pos}:JE X E (.Constant (.str i) j pos) (mC<|.str i):=Qh.imp λJ J J h=>wZ (λo=>by unfold Rv;rfl) h
def Eg {j pos}:JE X E (.Constant .none j pos) (mC .non):=Qg.imp λJ J J h=>wZ (λo=>by unfold Rv;rfl) h
def kH {x:Str}{w:W}(hg:Gl X x)(hm:X.mg x=`u)(r:RelV v u)(hr:∀o ,Rv X.K o w v)(hd:(x==("__debug__":Str))=false):JE X E (.Name x pos) (mC w):=
 (dg hg hm r hd).imp λJ J J h=>wZ hr h
noncomputable def m2 (f:W->W->M W)(fa fb:MG->M W):MG->M W:=λρ=>bd (fa ρ) λx=>bd (fb ρ) λy=>f x y
def OpM (X:Cx)(E:XK)(r:R2)(f:W->W->M W):Prop:=∀ (o:Wo) (x y:W) (vx vy:V) (Q:VK),Rel X.K o->Rv X.K o x vx->Rv X.K o y vy->Ps (cg X E) (Rv X.K) o (f x y o.h) Q->r vx vy o.H Q
def w5 {f:W->W->M W}(hf:OpM X E r f){fa fb:MG->M W}(h:tM (cg X E) (m2 f fa fb) σ H Q):tOp r (tM (cg X E) fa) (tM (cg X E) fb) σ H Q:=by let(o,ρ,rfl,R,S,h):=h;exact(o,ρ,rfl,R,S,Ps.bd h λp x vx e1 R1 r1 h1=>(p,ρ,rfl,R1,S.mono R e1,Ps.bd h1 λq y vy e2 R2 r2 h2=>hf q x y vx vy Q R2 (r1.mono R1 e2) r2 h2))
def nS {f:W->W->M W}{fa fb:MG->M W}(ho:OpR X (LZ op) r)(hf:OpM X E r f)(ha:JE X E a fa)(hb:JE X E b fb):
 JE X E (.BinOp a op b pos) (m2 f fa fb):=(ut ho ha.h hb.h).imp λJ J J h=>w5 hf h
def Ep {f:W->W->M W}{fa fb:MG->M W}(ho:OpR X (LK op) r)(hf:OpM X E r f)(ha:JE X E a fa)(hb:JE X E b fb)(hm:LL op b=false):
 JE X E (.Compare a [op] [b] pos) (m2 f fa fb):=(io ho ha.h hb.h hm).imp λJ J J h=>w5 hf h
noncomputable def asB (w:W):M Bool:=match w with|.bl b=>pr b|_=>no
noncomputable def mB (f:MG->M W):MG->M Bool:=λρ=>bd (f ρ) asB
set_option tactic.hygienic true in
def CK {f:MG->M W}{Q:Bool->Hp->Prop}(h:tT (cg X E) (mB f) σ H Q):tM (cg X E) f σ H λx H'=>∃k,x=.bl k/\Q k H':=by
 ac_nf;unfold asB at h1;split at h1;rename_i b;unfold Rv at r1;exact(b,r1,h1.pr R1 rfl);exact h1.elim
def DU {f:W->W->M W}{fa fb:MG->M W}(ho:OpR X (LK op) r)(hf:OpM X E r f)(ha:JE X E a fa)(hb:JE X E b fb)(hm:LL op b=false):
 JT X E (.Compare a [op] [b] pos) (mB<|m2 f fa fb):=(dE ho ha.h hb.h hm).imp λJ J J h=>w5 hf<|CK h
def DS {f:MG->M W}(h:JE X E e f)(he:∀whole ,isTrue e X.env whole=(do let v<-whole;LM e.pos;LN [v] (truthy v))):JT X E e (mB f):=
 (fY h.h he).imp λJ J J h=>CK h
noncomputable def O3 (f g:MG->M Bool):MG->M Bool:=λρ=>bd (f ρ) λb=>if b=true then g ρ else pr false
noncomputable def mOr (f g:MG->M Bool):MG->M Bool:=λρ=>bd (f ρ) λb=>if b=true then pr true else g ρ
noncomputable def Pf (f:MG->M Bool):MG->M Bool:=λρ=>bd (f ρ) λb=>pr<|!b
variable {a b:Expr}{rest:↑Expr}{pos:LF}{f g:MG->M Bool}
def CB {Q:Bool->Hp->Prop}(h:tT (cg X E) (O3 f g) σ H Q):tAnd (tT (cg X E) f) (tT (cg X E) g) σ H Q:=by
 ac_nf;subst r1;cases x with|true=>exact Ow (p,ρ,rfl,R1,S.mono R e1,h1)|false=>exact Ov<|h1.pr R1 rfl
def Ff {Q:Bool->Hp->Prop}(h:tT (cg X E) (mOr f g) σ H Q):tOr (tT (cg X E) f) (tT (cg X E) g) σ H Q:=by
 ac_nf;subst r1;cases x with|false=>exact Ov (p,ρ,rfl,R1,S.mono R e1,h1)|true=>exact Ow<|h1.pr R1 rfl
def DT (ha:JT X E a f):JT X E (.UnaryOp .Not a pos) (Pf f):=(sf ha.h).imp λσ H Q h=>by ac_nf;subst r1;exact h1.pr R1 rfl
def AQ (ha:JT X E a f):JW X E (.BoolOp .And [a] pos) f:=⟨uo ha.h⟩
def DR (ha:JT X E a f):JW X E (.BoolOp .Or [a] pos) f:=⟨se ha.h⟩
def yr (ha:JT X E a f)(hb:JW X E (.BoolOp .And (b::rest) pos) g):JW X E (.BoolOp .And (a::b::rest) pos) (O3 f g):=(xC ha.h hb.h).imp λJ J J h=>CB h
def Ce (ha:JT X E a f)(hb:JW X E (.BoolOp .Or (b::rest) pos) g):JW X E (.BoolOp .Or (a::b::rest) pos) (mOr f g):=(xB ha.h hb.h).imp λJ J J h=>Ff h
noncomputable def O4 (f g:MG->M W):MG->M W:=λρ=>bd (f ρ) λw=>bd (asB w) λb=>if b=true then g ρ else pr (.bl false)
def zO {α β:Type}{r:Wo->α->β->Prop}{w:W}{k:Bool->M α}{Q:β->Hp->Prop}(hr:Rv X.K o w v)(h:Ps (cg X E) r o (bd (asB w) k o.h) Q):∃b,w=.bl b/\v=.bl b/\Ps (cg X E) r o (k b o.h) Q:=by
 cases w with|bl b=>unfold Rv at hr;exact(b,rfl,hr,h)|_=>exact h.elim
variable {u v:MG->M W}
def Ef {op}(h:JE X E a u):JE X E (.BoolOp op [a] pos) u:=⟨sw h.h⟩
def Es (ha:JE X E a u)(hb:JE X E (.BoolOp .And (b::rest) pos) v):JE X E (.BoolOp .And (a::b::rest) pos) (O4 u v):=(sx ha.h hb.h).imp λσ H Q h=>by
 ac_nf;let(k,rfl,rfl,h2):=zO r1 h1;refine(k,rfl,?_);cases k with|true=>exact Ow (p,ρ,rfl,R1,S.mono R e1,h2)|false=>exact Ov (h2.pr R1<|by unfold Rv;rfl)
noncomputable def mIf (f:MG->M Bool)(u v:MG->M W):MG->M W:=λρ=>bd (f ρ) λb=>if b=true then u ρ else v ρ
def yF (hc:JT X E c f)(ha:JE X E a u)(hb:JE X E b v):JE X E (.IfExp c a b pos) (mIf f u v):=(xP hc.h ha.h hb.h).imp λσ H Q h=>by
 ac_nf;subst r1;cases x with|true=>exact Ow (p,ρ,rfl,R1,S.mono R e1,h1)|false=>exact Ov (p,ρ,rfl,R1,S.mono R e1,h1)
noncomputable def m1 (f:W->M W)(fa:MG->M W):MG->M W:=λρ=>bd (fa ρ) f
noncomputable def Pz (w:W):M W:=match w with|.int i=>pr (.int<|-i)|_=>no
def Eh (ha:JE X E a u):JE X E (.UnaryOp .USub a pos) (m1 Pz u):=(FC Cu ha.h).imp λσ H Q h=>by
 ac_nf;unfold Pz at h1;split at h1;unfold Rv at r1;exact(_,r1,h1.pr R1<|by unfold Rv;rfl);exact h1.elim
noncomputable def Pe:MG->M ↑W:=λJ=>pr []
noncomputable def O7 (fa:MG->M W)(fr:MG->M ↑W):MG->M ↑W:=λρ=>bd (fa ρ) λx=>bd (fr ρ) λl=>pr (x::l)
variable {es:↑Expr}{l:MG->M ↑W}{e:Expr}
def Ew:JA X E [] Pe:=P9.imp λσ H Q h=>by let(o,ρ,rfl,R,S,h):=h;exact h.pr R Rvs.nil
def Bg (ha:JE X E e u)(hr:JA X E es l)(hs:LH (e::es) X.env=(false ,LD e X.env)::LH es X.env):JA X E (e::es) (O7 u l):=(ai ha.h hr.h hs).imp λσ H Q h=>by let(o,ρ,rfl,R,S,h):=h;exact(o,ρ,rfl,R,S,Ps.bd h λp x vx e1 R1 r1 h1=>(p,ρ,rfl,R1,S.mono R e1,Ps.bd h1 λq y vy e2 R2 r2 h2=>h2.pr R2<|Rvs.cons (r1.mono R1 e2) r2))
noncomputable def Sf (l:↑W):M W:=gd (⇑l<=sizeLine)<|pr<|.tup l
noncomputable def Pl (l:MG->M ↑W):MG->M W:=λρ=>bd (l ρ) Sf
def Rv.newT {K:Zf}{o:Wo}(R:Rel K o){q:Lb}{l:↑W}{vs:↑V}(h:o.H q=none)(hl:Rvs K o l vs):Rv K (o.mu,o.h,upd o.H q<|.tup vs) (.tup l) (.ref q):=by unfold Rv;exact(q,vs,rfl,.of aq,hl.mono R<|Ex.new h)
def Rv.newL {K:Zf}{o:Wo}(R:Rel K o){q:Lb}{l:↑W}{vs:↑V}(h:o.H q=none)(hl:Rvs K o l vs):Rv K (o.mu,o.h,upd o.H q<|.lst vs) (.tl l) (.ref q):=by unfold Rv;exact(q,vs,rfl,aq,λz=>Lv.there R (show Lv o q from z) h,hl.mono R<|Ex.new h)
def D9 {x1}(h:JA X E es l):JE X E (.Tuple es x1 pos) (Pl l):=(jV h.h).imp λσ H Q h=>by ac_nf;let(hz,h1):=h1.gd;exact(by rw[r1.len];exact hz,λq hq=>Ps.at (p:=(p.mu,p.h,upd p.H q<|.tup vx)) h1 rfl (Ex.new hq) (R1.new hq)<|Rv.newT R1 hq r1)
noncomputable def mTl (l:MG->M ↑W):MG->M W:=λρ=>bd (l ρ) λx=>pr<|.tl x
noncomputable def PB (x:↑W):M W:=λh=>.ok (.loc ⇑h)<|h++[.lst x]
noncomputable def Pc (l:MG->M ↑W):MG->M W:=λρ=>bd (l ρ) PB
def yC (h:JF X E e l):JE X E e (mTl l):=h.h.imp λσ H Q h=>by let(o,ρ,rfl,R,S,h):=h;exact(o,ρ,rfl,R,S,Ps.bd h λp x vx e1 R1 r1 h1=>λq hq=>Ps.at (p:=(p.mu,p.h,upd p.H q<|.lst vx)) h1 rfl (Ex.new hq) (R1.new hq)<|Rv.newL R1 hq r1)
def sH (h:JF X E e l):JE X E e (Pc l):=h.h.imp λσ H Q h=>by let(o,ρ,rfl,R,S,h):=h;refine(o,ρ,rfl,R,S,Ps.bd h λp x vx e1 R1 r1 h1=>λq hq=>?_);refine Ps.at (p:=p.add q (.lst x)<|.lst vx) h1 rfl (Ex.add hq) (R1.addL hq r1) ?_;unfold Rv;exact(by show _<⇑(p.h++[_]);simp,by show V.ref q=V.ref (if ⇑p.h=⇑p.h then q else _);rw[bf rfl])
noncomputable def OR (l:MG->M ↑W):MG->M ↑W:=λρ=>bd (l ρ) λx=>gd (⇑x<=sizeLine)<|pr x
def D4 (h:JA X E es l):JF X E (.List es pos) (OR l):=(Dm h.h).impF λσ H Q h=>by ac_nf;let(hz,h1):=h1.gd;exact(by rw[r1.len];exact hz,h1.pr R1 r1)
end
end
section
section
variable {X:Cx}{E:XK}
def QI {K:Zf}{i:Int}:Rv K o (.int i) v↔v=.int i:=by unfold Rv;exact Iff.rfl
def QK {K:Zf}{i:Str}:Rv K o (.str i) v↔v=.str i:=by unfold Rv;exact Iff.rfl
def QH {K:Zf}{i:Bool}:Rv K o (.bl i) v↔v=.bl i:=by unfold Rv;exact Iff.rfl
def QJ {K:Zf}:Rv K o .non v↔v=.non:=by unfold Rv;exact Iff.rfl
def rv_ty {K:Zf}:Rv K o (.ty n) v↔v=.ty n:=by unfold Rv;exact Iff.rfl
noncomputable def O1 (w:W):M ↑W:=match w with
 |.tl l=>pr l
 |.cl l=>pr l
 |.loc k=>λh=>match h[k]? with|some (.lst l)=>.ok l h|_=>.bad
 |_=>no
def cq {α β:Type}{r:Wo->α->β->Prop}{w:W}{k:↑W->M α}{Q:β->Hp->Prop}(R:Rel X.K o)(hr:Rv X.K o w v)(h:Ps (cg X E) r o (bd (O1 w) k o.h) Q):
  ∃l a vs,v=.ref a/\SqL X.K o.H a vs/\Rvs X.K o l vs/\Ps (cg X E) r o (k l o.h) Q:=by
 cases w with
 |tl l=>unfold Rv at hr;let(a,vs,e,h1,_,h2):=hr;exact(l,a,vs,e,.of h1,h2,h)
 |cl l=>
  unfold Rv at hr;let(a,vs,e,h1,h2):=hr;rcases h1 with⟨h1,_⟩|h1
  exact(l,a,vs,e,.inl h1,h2,h);exact(l,a,vs,e,.inr h1,h2,h)
 |loc j=>
  unfold Rv at hr;unfold O1 bd at h;cases e:o.h[j]? with
  |none=>simp only[e]at h;exact h.elim
  |some b=>
   cases b with
   |lst l=>
    simp only[e]at h;let(vs,h1,h2):=R.ob j _ e;exact(l,_,vs,hr.2,.of h1,h2,h)
   |_=>simp only[e]at h;exact h.elim
 |_=>exact h.elim
noncomputable def O0 (w:W):M ↑W:=match w with
 |.tl l=>pr l
 |.loc k=>λh=>match h[k]? with|some (.lst l)=>.ok l h|_=>.bad
 |_=>no
def eK {α β:Type}{r:Wo->α->β->Prop}{w:W}{k:↑W->M α}{Q:β->Hp->Prop}(R:Rel X.K o)(hr:Rv X.K o w v)(h:Ps (cg X E) r o (bd (O0 w) k o.h) Q):
  ∃l a vs,v=.ref a/\o.H a=some (.lst vs)/\Rvs X.K o l vs/\Ps (cg X E) r o (k l o.h) Q:=by
 cases w with
 |tl l=>unfold Rv at hr;let(a,vs,e,h1,_,h2):=hr;exact(l,a,vs,e,h1,h2,h)
 |loc j=>
  unfold Rv at hr;unfold O0 bd at h;cases e:o.h[j]? with
  |none=>simp only[e]at h;exact h.elim
  |some b=>
   cases b with
   |lst l=>
    simp only[e]at h;let(vs,h1,h2):=R.ob j _ e;exact(l,_,vs,hr.2,h1,h2,h)
   |_=>simp only[e]at h;exact h.elim
 |_=>exact h.elim
def jh (R:Rel X.K o)(hq:o.H q=none)(hl:Rvs X.K o l vs)(h:Ps (cg X E) (Rv X.K) o (pr (.tup l) o.h) Q):Q (.ref q) (upd o.H q<|.tup vs):=
 Ps.at (p:=(o.mu,o.h,upd o.H q<|.tup vs)) h rfl (Ex.new hq) (R.new hq) (Rv.newT R hq hl)
def fZ (R:Rel X.K o)(hq:o.H q=none)(hl:Rvs X.K o l vs)(h:Ps (cg X E) (Rv X.K) o (pr (.tl l) o.h) Q):Q (.ref q) (upd o.H q<|.lst vs):=
 Ps.at (p:=(o.mu,o.h,upd o.H q<|.lst vs)) h rfl (Ex.new hq) (R.new hq) (Rv.newL R hq hl)
noncomputable def M8 (x y:W):M W:=match x,y with|.int i,.int j=>pr (.int<|i+j)|.str a,.str b=>gd (⇑a+⇑b<=sizeLine) (pr<|.str<|a++b)|.tup a,.tup b=>gd (a.isEmpty=false/\⇑a+⇑b<=sizeLine) (pr<|.tup<|a++b)|x,y=>bd (O0 x) λa=>bd (O0 y) λb=>gd (⇑a+⇑b<=sizeLine)<|pr<|.tl<|a++b
def AE:OpM X E (λx y H Q=>rI0 (λi j=>.int<|i+j) x y H Q\/(λx y H Q=>(λx y H Q=>∃i j ,x=.str i/\y=.str j/\⇑i+⇑j<=sizeLine/\Q (.str<|i++j) H) x y H Q\/(λx y H Q=>Qw X.K x y H Q\/rCat x y H Q) x y H Q) x y H Q) M8:=by
 intro o x y vx vy Q R rx ry h;unfold M8 at h;split at h;exact .inl (_,_,QI.mp rx,QI.mp ry,h.pr R<|QI.mpr rfl);let(hz,h):=h.gd;exact .inr<|.inl (_,_,QK.mp rx,QK.mp ry,hz,h.pr R<|QK.mpr rfl)
 .let(hz,h):=h.gd;unfold Rv at rx ry;let(a,vs,e1,s1,r1):=rx;let(b,us,e2,s2,r2):=ry;have n1:vs≠ []:=λz=>by have:=r1.len;rw[z]at this;have q:=hz.1;rw[Jf this.symm]at q;cases q
  refine .inr<|.inr<|.inl (a,b,vs,us,e1,e2,s1,s2,n1,by rw[r1.len,r2.len];exact hz.2,λz=>?_,λJ q hq=>jh R hq (r1.app r2) h);refine h.pr R ?_;unfold Rv;exact(a,vs,rfl,s1,by have:=r1.app r2;rw[z,HL]at this;exact this)
 let(l,a,vs,e1,s1,r1,h):=eK R rx h;let(m,b,us,e2,s2,r2,h):=eK R ry h;let(hz,h):=h.gd;exact .inr<|.inr<|.inr (a,b,vs,us,e1,e2,s1,s2,by rw[r1.len,r2.len];exact hz,λq hq=>fZ R hq (r1.app r2) h)
def Eu {fa fb:MG->M W}(ha:JE X E a fa)(hb:JE X E b fb):JE X E (.BinOp a .Add b pos) (m2 M8 fa fb):=
 nS (PP.or<|PQ.or<|PR.or xY) AE ha hb
noncomputable def iiW (C:Int->Int->Prop) [∀i j,Decidable<|C i j] (g:Int->Int->W)(x y:W):M W:=match x,y with|.int i,.int j=>gd (C i j) (pr<|g i j)|_,_=>no
def gX {C:Int->Int->Prop} [∀i j,Decidable<|C i j] {g:Int->Int->W}{g':Int->Int->V}(hg:∀o i j ,Rv X.K o (g i j)<|g' i j):OpM X E (rI C g') (iiW C g):=by
 intro o x y vx vy Q R rx ry h;unfold iiW at h;split at h;let(hz,h):=h.gd;exact(_,_,QI.mp rx,QI.mp ry,hz,h.pr R<|hg _ _ _);exact h.elim
def PN {f:K5->K5->Sem K5}{g':Int->Int->V}(h:OpR X f (rI0 g')):OpR X f (rI (λJ J=>True) g'):=λgV s σ H x y v u Q I rx ry q=>h gV s σ H x y v u Q I rx ry (let (i,j,e1,e2,_,q):=q;(i,j,e1,e2,q))
abbrev CT:Int->Int->Prop:=λJ J=>True
noncomputable def RV:W->W->M W:=iiW CT λi j=>.int<|i-j
def Eb {fa fb:MG->M W}(ha:JE X E a fa)(hb:JE X E b fb):JE X E (.BinOp a .Sub b pos) (m2 RV fa fb):=
 nS (PN Dz) (gX λJ J J=>QI.mpr rfl) ha hb
def Mw (i j:Int):Prop:=0<j/\j<2^200
instance (i j:Int):Decidable (Mw i j):=by unfold Mw;infer_instance
def xX:OpR X (LZ .FloorDiv) (rI Mw λi j=>.int<|i / j):=opI λi j J J J J J hc q=>by have h1:(0:Int)<j:=hc.1;have h2:j<2^200:=hc.2;refine floordiv_int ∅ (by rw[Int.fdiv_eq_ediv_of_nonneg i ∅];exact q) (.inl<|PyProof.noPylong_of_log2 ?_);have h3:j.natAbs<2^200:=∅;exact HE ((Nat.log2_lt ∅).mpr h3) ↥_
noncomputable def NP:W->W->M W:=iiW Mw λi j=>.int<|i / j
def Bf {fa fb:MG->M W}(ha:JE X E a fa)(hb:JE X E b fb):JE X E (.BinOp a .FloorDiv b pos) (m2 NP fa fb):=
 nS xX (gX λJ J J=>QI.mpr rfl) ha hb
abbrev CMod:Int->Int->Prop:=λJ j=>0<j
noncomputable def Pq:W->W->M W:=iiW CMod λi j=>.int<|i%j
def Ej {fa fb:MG->M W}(ha:JE X E a fa)(hb:JE X E b fb):JE X E (.BinOp a .Mod b pos) (m2 Pq fa fb):=
 nS DD (gX λJ J J=>QI.mpr rfl) ha hb
instance (i j:Int):Decidable (My i j):=by unfold My;infer_instance
noncomputable def Ql:W->W->M W:=iiW My λi j=>.int<|i^j.toNat
def Ee {fa fb:MG->M W}(ha:JE X E a fa)(hb:JE X E b fb):JE X E (.BinOp a .Pow b pos) (m2 Ql fa fb):=
 nS DB (gX λJ J J=>QI.mpr rfl) ha hb
def AR {z:Str}{n:Int}(h0:0<=n)(h1:n<=10000)(h:⇑z<=30000)(hz:⇑z*n.toNat<=1000000):MulOk z n:=by
 refine(?_,λa b=>?_,λa b=>?_);rw[KD,decide_eq_false_iff_not,decide_eq_false_iff_not];omega;have:(100000000000000:Int)<=(2^63-1) / n:=Int.le_ediv_of_mul_le ∅ ∅;omega;unfold K6.Str.tooLong;have:sizeLine=16777216:=↥_;exact bg ∅
instance (i j:Int):Decidable (CMul i j):=by unfold CMul;infer_instance
instance (i j:Int):Decidable (CMulB i j):=by unfold CMulB;infer_instance
def Mx (i j:Int):Prop:=CMul i j\/CMulB i j
instance (i j:Int):Decidable (Mx i j):=by unfold Mx;infer_instance
def PY:OpR X (LZ .Mult) (rI Mx λi j=>.int<|i*j):=opI λJ J J J J J J hc q=>mul_int q (by rcases hc with h|h;exact h.ok;exact h.ok)
noncomputable def Pu (x y:W):M W:=match x,y with|.int i,.int j=>gd (Mx i j) (pr<|.int<|i*j)|.str z,.int n=>gd (0<=n/\n<=10000/\⇑z<=30000/\⇑z*n.toNat<=1000000) (pr<|.str<|Txt.mul z n)|x,.int n=>bd (O0 x) λl=>gd (0<=n/\n<=1000000/\⇑l*n.toNat<=sizeLine) (pr<|.tl (List.replicate n.toNat l).flatten)|_,_=>no
theorem Rvs.rep {K:Zf}(h:Rvs K o l vs):∀n:Nat,Rvs K o (List.replicate n l).flatten (List.replicate n vs).flatten|0=>Rvs.nil|n+1=>by rw[IK,IK,IS,IS];exact h.app<|Rvs.rep h n
def AA:OpM X E (λx y H Q=>rI Mx (λi j=>.int<|i*j) x y H Q\/(λx y H Q=>(λx y H Q=>∃ (z:Str) (n:Int) ,x=.str z/\y=.int n/\MulOk z n/\Q (.str<|Txt.mul z n) H) x y H Q\/rRep x y H Q) x y H Q) Pu:=by
 intro o x y vx vy Q R rx ry h;unfold Pu at h;split at h;let(hz,h):=h.gd;exact .inl (_,_,QI.mp rx,QI.mp ry,hz,h.pr R<|QI.mpr rfl);let(hz,h):=h.gd;exact .inr<|.inl (_,_,QK.mp rx,QI.mp ry,AR hz.1 hz.2.1 hz.2.2.1 hz.2.2.2,h.pr R<|QK.mpr rfl);let(l,a,vs,e1,s1,r1,h):=eK R rx h;let(hz,h):=h.gd;exact .inr<|.inr (a,_,vs,e1,QI.mp ry,s1,∅,∅,by rw[r1.len];exact hz.2.2,λq hq=>fZ R hq (r1.rep _) h);exact h.elim
def Ei {fa fb:MG->M W}(ha:JE X E a fa)(hb:JE X E b fb):JE X E (.BinOp a .Mult b pos) (m2 Pu fa fb):=
 nS (PY.or<|PZ.or DA) AA ha hb
noncomputable def ltW:W->W->M W:=iiW CT λi j=>.bl<|decide<|i<j
noncomputable def leW:W->W->M W:=iiW CT λi j=>.bl<|decide<|i<=j
noncomputable def gtW:W->W->M W:=iiW CT λi j=>.bl<|decide<|j<i
noncomputable def geW:W->W->M W:=iiW CT λi j=>.bl<|decide<|j<=i
def Ds:OpM X E (rI CT λi j=>.bl<|decide<|i<j) ltW:=gX λJ J J=>QH.mpr rfl
def Dt:OpM X E (rI CT λi j=>.bl<|decide<|i<=j) leW:=gX λJ J J=>QH.mpr rfl
def Dw:OpM X E (rI CT λi j=>.bl<|decide<|j<i) gtW:=gX λJ J J=>QH.mpr rfl
def Dx:OpM X E (rI CT λi j=>.bl<|decide<|j<=i) geW:=gX λJ J J=>QH.mpr rfl
def FE:OpR X (LK .Lt) (rI CT λi j=>.bl<|decide<|i<j):=PN xW
def FG:OpR X (LK .LtE) (rI CT λi j=>.bl<|decide<|i<=j):=PN FQ
def FI:OpR X (LK .Gt) (rI CT λi j=>.bl<|decide<|j<i):=PN nQ
def FJ:OpR X (LK .GtE) (rI CT λi j=>.bl<|decide<|j<=i):=PN FR
noncomputable def Ot:W->Bool|.non=>true|_=>false
noncomputable def Os (x y:W):M W:=match y with|.non=>pr (.bl<|Ot x)|_=>no
def Bu {K:Zf}(h:Rv K o x v):decide (v=.non)=Ot x:=by
 cases x with|non=>rw[QJ.mp h];rfl|bl _=>rw[QH.mp h];rfl|int _=>rw[QI.mp h];rfl|str _=>rw[QK.mp h];rfl|ty _=>rw[rv_ty.mp h];rfl|exc _=>unfold Rv at h;let(a,_,rfl,_):=h;rfl|cls _=>unfold Rv at h;let(a,rfl,_):=h;rfl|tup _=>unfold Rv at h;let(a,_,rfl,_):=h;rfl|tl _=>unfold Rv at h;let(a,_,rfl,_):=h;rfl|cl _=>unfold Rv at h;let(a,_,rfl,_):=h;rfl|dv _ _=>unfold Rv at h;let(a,_,rfl,_):=h;rfl|dn _ _ _=>unfold Rv at h;let(a,_,rfl,_):=h;rfl|kt _=>unfold Rv at h;let(a,rfl,_):=h;rfl|loc _=>unfold Rv at h;let(_,rfl):=h;rfl
def AC:OpM X E (λx y H Q=>y=.non/\Q (.bl<|decide<|x=.non) H) Os:=by
 intro o x y vx vy Q R rx ry h;unfold Os at h;split at h;exact(QJ.mp ry,by rw[Bu rx];exact h.pr R<|QH.mpr rfl);exact h.elim
noncomputable def vOf:W->Option V|.non=>some .non|.bl b=>some (.bl b)|.int i=>some (.int i)|.str x=>some (.str x)|_=>none
def ox {K:Zf}(e:vOf x=`u)(h:Rv K o x v):v=u:=by
 cases x with|non=>cases e;exact QJ.mp h|bl _=>cases e;exact QH.mp h|int _=>cases e;exact QI.mp h|str _=>cases e;exact QK.mp h|_=>cases e
def pQ (e:vOf x=`u):NS u=true:=by cases x<;>first|(cases e;done)|(cases e;rfl)
noncomputable def Sl:↑W->Option ↑V|[]=>some []|w::l=>match vOf w,Sl l with|some v,some vs=>some (v::vs)|_,_=>none
set_option tactic.hygienic true in
theorem tY {K:Zf}:∀ {l:↑W}{vs us:↑V},Sl l=`us->Rvs K o l vs->vs=us
 |[],vs,us,e,h=>by unfold Rvs at h;cases e;exact h
 |w::l,vs,us,e,h=>by
  unfold Rvs at h;let(v,r,rfl,h1,h2):=h;unfold Sl at e;split at e;rename_i v' vs' e1 e2;cases e;rw[ox e1 h1,tY e2 h2];cases e
set_option tactic.hygienic true in
theorem nq:∀ {l:↑W}{us:↑V},Sl l=`us->us.all NS=true
 |[],us,e=>by cases e;rfl
 |w::l,us,e=>by
  unfold Sl at e;split at e;rename_i v' vs' e1 e2;cases e;rw[Je,pQ e1,nq e2];rfl;cases e
end
end
section
noncomputable def P6 {α β:Type}(f:α->Option β):↑α->Option ↑β|[]=>some []|a::l=>match f a,P6 f l with|some b,some r=>some (b::r)|_,_=>none
noncomputable def Ny (h:↑Ob):Nat->W->Option Mn
 |0,_=>none
 |_+1,.non=>some .none
 |_+1,.bl b=>some<|.bool b
 |_+1,.int i=>some<|.int i
 |_+1,.str x=>some<|.str x
 |n+1,.tup l=>(P6 (Ny h n) l).map .tuple
 |n+1,.tl l=>(P6 (Ny h n) l).map .list
 |n+1,.cl l=>(P6 (Ny h n) l).map .list
 |n+1,.loc k=>match h[k]? with|some (.lst l)=>(P6 (Ny h n) l).map .list|_=>none
 |_+1,_=>none
section
variable {K:Zf}{o:Wo}
set_option tactic.hygienic true in
theorem lI {n:Nat}(ih:∀w v d ,Ny o.h n w=`d->Rv K o w v->Den K o.H v d/\d.depth<=n):∀ {l:↑W}{vs:↑V}{ds:↑Mn},P6 (Ny o.h n) l=`ds->Rvs K o l vs->MC K o.H vs ds/\Mn.depthAll ds<=n
 |[],vs,ds,e,h=>by unfold Rvs at h;cases e;rw[h];exact(.nil,by simp [Mn.depthAll])
 |w::l,vs,ds,e,h=>by
  unfold Rvs at h;let(v,r,rfl,h1,h2):=h;unfold P6 at e;split at e;rename_i d ds' e1 e2;cases e;let(a1,a2):=ih w v d e1 h1;let(b1,b2):=lI ih e2 h2;exact(.cons a1 b1,by rw[Mn.depthAll];omega);cases e
set_option tactic.hygienic true in
theorem j6 (R:Rel K o):∀ (n:Nat) (w:W) (v:V) (d:Mn),Ny o.h n w=`d->Rv K o w v->Den K o.H v d/\d.depth<=n
 |0,_,_,_,e,_=>by cases e
 |n+1,w,v,d,e,h=>by
  have ih:=j6 R n;have seq:∀ {l:↑W}{a:Lb}{vs:↑V}{ds:↑Mn},P6 (Ny o.h n) l=`ds->SqL K o.H a vs->Rvs K o l vs->Den K o.H (.ref a) (.list ds)/\(Mn.list ds).depth<=n+1:=λ{l a vs ds} e s r=>by let(b1,b2):=lI ih e r;refine(.lst s b1,?_);rw[Mn.depth];omega
  cases w with
  |non=>cases e;rw[QJ.mp h];exact(.non,by simp [Mn.depth])
  |bl b=>cases e;rw[QH.mp h];exact(.bl b,by simp [Mn.depth])
  |int b=>cases e;rw[QI.mp h];exact(.int b,by simp [Mn.depth])
  |str b=>cases e;rw[QK.mp h];exact(.str b,by simp [Mn.depth])
  |ty b=>cases e
  |exc b=>cases e
  |cls b=>cases e
  |dv a b=>cases e
  |dn a b c=>cases e
  |kt a=>cases e
  |tup l=>
   unfold Ny at e;let(ds,e1,rfl):=Hn.mp e;unfold Rv at h;let(a,vs,rfl,s,r):=h;let(b1,b2):=lI ih e1 r;refine(.tup s b1,?_);rw[Mn.depth];omega
  |tl l=>
   unfold Ny at e;let(ds,e1,rfl):=Hn.mp e;unfold Rv at h;let(a,vs,rfl,s,_,r):=h;exact seq e1 (.of s) r
  |cl l=>
   unfold Ny at e;let(ds,e1,rfl):=Hn.mp e;unfold Rv at h;let(a,vs,rfl,s,r):=h;refine seq e1 ?_ r;rcases s with⟨s,_⟩|s
   exact .inl s;exact .inr s
  |loc k=>
   unfold Ny at e;split at e;rename_i l hk;let(ds,e1,rfl):=Hn.mp e;unfold Rv at h;let(vs,h1,h2):=R.ob k _ hk;rw[h.2];exact seq e1 (.of h1) h2;cases e
end
noncomputable def eqB (x y:W)(h:↑Ob):Option Bool:=match vOf x,vOf y with
 |some a,some b=>if Rk a b=true then some (decide<|a=b) else match Ny h 50 x,Ny h 50 y with|some d,some e=>if d.canLay0=true/\e.canLay0=true then some (Mn.eqv d e) else none|_,_=>none
 |_,_=>match Ny h 50 x,Ny h 50 y with|some d,some e=>if d.canLay0=true/\e.canLay0=true then some (Mn.eqv d e) else none|_,_=>none
noncomputable def eqW (x y:W):M W:=λh=>match eqB x y h with|some b=>.ok (.bl b) h|none=>.bad
noncomputable def neW (x y:W):M W:=λh=>match eqB x y h with|some b=>.ok (.bl<|!b) h|none=>.bad
section
variable {X:Cx}{E:XK}
set_option tactic.hygienic true in
def zk {b:Bool}(hu:X.A.units+64<Lg)(R:Rel X.K o)(rx:Rv X.K o x vx)(ry:Rv X.K o y vy)(e:eqB x y o.h=`b):
  (Rk vx vy=true/\b=decide (vx=vy))\/ ∃d e,Den X.K o.H vx d/\Den X.K o.H vy e/\d.canLay0=true/\e.canLay0=true/\X.A.units+min d.depth e.depth<Lg/\b=Mn.eqv d e:=by
 have deep:(match Ny o.h 50 x ,Ny o.h 50 y with
  |some d,some e=>if d.canLay0=true/\e.canLay0=true then some (Mn.eqv d e) else none
  |_,_=>none)=`b->∃d e,Den X.K o.H vx d/\Den X.K o.H vy e/\d.canLay0=true/\e.canLay0=true/\X.A.units+min d.depth e.depth<Lg/\b=Mn.eqv d e:=λq=>by
  split at q
  .rename_i d e' e1 e2;split at q;rename_i hc;let(a1,a2):=j6 R _ _ _ _ e1 rx;let(b1,b2):=j6 R _ _ _ _ e2 ry;exact(d,e',a1,b1,hc.1,hc.2,∅,(Option.some.inj q).symm);cases q
  cases q
 unfold eqB at e;split at e
 .rename_i a c e1 e2;split at e;rename_i hs;rw[ox e1 rx,ox e2 ry];exact .inl (hs,(Option.some.inj e).symm);exact .inr<|deep e
 exact .inr<|deep e
def Dy (hu:X.A.units+64<Lg):OpM X E (λx y H Q=>rEq x y H Q\/Qx X.K X.A false x y H Q) eqW:=by
 intro o x y vx vy Q R rx ry h;unfold eqW at h;cases e:eqB x y o.h with
 |none=>rw[e]at h;exact h.elim
 |some b=>
  rw[e]at h;have q:Q (.bl b) o.H:=Ps.pr (c:=cg X E) (r:=Rv X.K) (a:=W.bl b) h R<|QH.mpr rfl;rcases zk hu R rx ry e with⟨s,rfl⟩|⟨d,e',a1,a2,a3,a4,a5,rfl⟩
  exact .inl (s,q);exact .inr (d,e',a1,a2,a3,a4,a5,by rw[aZ Hv];exact q)
def Dr (hu:X.A.units+64<Lg):OpM X E (λx y H Q=>rNe x y H Q\/Qx X.K X.A true x y H Q) neW:=by
 intro o x y vx vy Q R rx ry h;unfold neW at h;cases e:eqB x y o.h with
 |none=>rw[e]at h;exact h.elim
 |some b=>
  rw[e]at h;have q:Q (.bl<|!b) o.H:=Ps.pr (c:=cg X E) (r:=Rv X.K) (a:=W.bl<|!b) h R<|QH.mpr rfl;rcases zk hu R rx ry e with⟨s,rfl⟩|⟨d,e',a1,a2,a3,a4,a5,rfl⟩
  exact .inl (s,q);exact .inr (d,e',a1,a2,a3,a4,a5,by rw[bf rfl];exact q)
def FK:OpR X (LK .Eq) (λx y H Q=>rEq x y H Q\/Qx X.K X.A false x y H Q):=PU.or DG
def FD:OpR X (LK .NotEq) (λx y H Q=>rNe x y H Q\/Qx X.K X.A true x y H Q):=P0.or DC
noncomputable def OH:W->Option Key|.int i=>some (.inl i)|.str x=>some (.inr x)|_=>none
def ju {K:Zf}(e:OH x=`k)(h:Rv K o x v):v=kV k:=by
 cases x with|int _=>cases e;exact QI.mp h|str _=>cases e;exact QK.mp h|_=>cases e
noncomputable def Nz (w:W)(h:↑Ob):Option (↑Key×↑W):=match w with
 |.dv ks ws=>some (ks ,ws)
 |.loc k=>match h[k]? with|some (.dic ks ws)=>some (ks ,ws)|_=>none
 |_=>none
set_option tactic.hygienic true in
def qV {w:W}{ws:↑W}(R:Rel X.K o)(e:Nz w o.h=some (ks ,ws))(h:Rv X.K o w v):∃a kvs,v=.ref a/\Rd o.H a (.dK kvs)/\kvs.map (·.1)=ks/\Rvs X.K o ws (kvs.map (·.2)):=by
 cases w with
 |dv a b=>
  cases e;unfold Rv at h;let(a,kvs,e,h1,_,h2,h3):=h;exact(a,kvs,e,h1,h2,h3)
 |loc k=>
  unfold Nz at e;dsimp only at e;split at e;rename_i a b hk;cases e;unfold Rv at h;let(kvs,h1,h2,h3):=R.ob k _ hk;exact(_,kvs,h.2,.inl h1,h2,h3);cases e
 |_=>cases e
noncomputable def atK {κ:Type} [DecidableEq κ]:↑κ->↑W->κ->Option W|k::ks,w::ws,x=>if k=x then `w else atK ks ws x|_,_,_=>none
theorem iI {κ:Type} [DecidableEq κ] {K:Zf}{o:Wo}{x:κ}:∀ {ks:↑κ}{ws:↑W}{kvs:↑(κ×V)},kvs.map (·.1)=ks->Rvs K o ws (kvs.map (·.2))->match atK ks ws x with|some w=>∃v,Sj kvs x=`v/\Rv K o w v|none=>Sj kvs x=none
 |[],_,[],_,_=>rfl
 |_,_,(k ,v)::r,e,h=>by
  subst e;cases ‹↑W› with
  |nil=>unfold Rvs at h;cases h
  |cons w ws=>
   unfold Rvs at h;let(v',r',e',h1,h2):=h;cases e';have ih:=iI (x:=x) (ks:=r.map (·.1)) (ws:=ws) (kvs:=r) rfl h2;show match (if k=x then `w else atK (r.map (·.1)) ws x) with|some w=>∃v',Sj ((k ,v)::r) x=`v'/\Rv K o w v'|none=>Sj ((k ,v)::r) x=none
   by_cases z:k=x;rw[bf z];exact(v,by unfold Sj;rw[List.find?_cons_of_pos<|by simpa using z];rfl,h1)
   .rw[aZ z];have ev:Sj ((k ,v)::r) x=Sj r x:=by unfold Sj;rw[List.find?_cons_of_neg<|by simpa using z]
    rw[ev];exact ih
noncomputable def inB (x y:W)(h:↑Ob):Option Bool:=match y with
 |.str b=>match x with|.str a=>some (!(K6.Str.occurrences b a 0 ⇑b 1).isEmpty)|_=>none
 |.tup l=>match vOf x,Sl l with|some v,some vs=>some (inV v vs)|_,_=>none
 |y=>match Nz y h with
  |some (ks ,ws)=>match OH x with|some k=>some (atK ks ws k).isSome|none=>none
  |none=>match O1 y h with
   |.ok l _=>match vOf x,Sl l with|some v,some vs=>some (inV v vs)|_,_=>none
   |_=>none
noncomputable def inW (x y:W):M W:=λh=>match inB x y h with|some b=>.ok (.bl b) h|none=>.bad
noncomputable def cH (x y:W):M W:=λh=>match inB x y h with|some b=>.ok (.bl<|!b) h|none=>.bad
def qF {w:W}(R:Rel X.K o)(hr:Rv X.K o w v)(e:O1 w o.h=.ok l h'):h'=o.h/\∃a vs,v=.ref a/\SqL X.K o.H a vs/\Rvs X.K o l vs:=by
 have hh:h'=o.h:=by
  cases w with
  |tl l'=>cases e;rfl
  |cl l'=>cases e;rfl
  |loc j=>
   unfold O1 at e;dsimp only at e;split at e;cases e;rfl;cases e
  |_=>cases e
 subst hh;have h:Ps (cg X<|λJ J J=>False) (λ(_:Wo) (a:↑W) (b:↑W)=>a=b) o (bd (O1 w) (λl=>pr l) o.h) (λb J=>b=l):=by unfold bd;rw[e];intro p b _ _ _ q;exact q.symm
 let(m,a,vs,e1,e2,e3,h):=cq R hr h;have:m=l:=h.pr R rfl;subst this;exact(rfl,a,vs,e1,e2,e3)
noncomputable def rInD:R2:=λx y H Q=>∃a ov,y=.ref a/\MB H a x ov/\Q (.bl ov.isSome) H
noncomputable def ul:R2:=λx y H Q=>∃a ov,y=.ref a/\MB H a x ov/\Q (.bl<|!ov.isSome) H
def DF (hu:X.A.units+1<Lg):OpR X (LK .In) rInD:=by intro gV s σ H x y v u Q I rx ry h;let(a,ov,rfl,g,q):=h;cases ry;exact G9 hu I g rx λs3 I3=>(.bl ov.isSome,H,I3,rfl,q)
def vL (hu:X.A.units+1<Lg):OpR X (LK .NotIn) ul:=by intro gV s σ H x y v u Q I rx ry h;let(a,ov,rfl,g,q):=h;cases ry;exact BI hu I g rx λs3 I3=>(.bl<|!ov.isSome,H,I3,rfl,q)
set_option tactic.hygienic true in
def y8 {b:Bool}(R:Rel X.K o)(rx:Rv X.K o x vx)(ry:Rv X.K o y vy)(e:inB x y o.h=`b):
  (∃i j ,vx=.str i/\vy=.str j/\b=(!(K6.Str.occurrences j i 0 ⇑j 1).isEmpty))\/(∃p xs ,vy=.ref p/\(SqL X.K o.H p xs\/SqT X.K o.H p xs)/\NS vx=true/\xs.all NS=true/\b=inV vx xs)\/ ∃a ov,vy=.ref a/\MB o.H a vx ov/\b=ov.isSome:=by
 have fl:∀ {l:↑W}{vs:↑V},Rvs X.K o l vs->(match vOf x ,Sl l with
    |some v,some vs=>some (inV v vs)
    |_,_=>none)=`b->NS vx=true/\vs.all NS=true/\b=inV vx vs:=λ{l vs} r q=>by
  split at q;rename_i v us e1 e2;rw[ox e1 rx,tY e2 r];exact(pQ e1,nq e2,(Option.some.inj q).symm);cases q
 unfold inB at e;split at e
 .split at e;exact .inl (_,_,QK.mp rx,QK.mp ry,(Option.some.inj e).symm);cases e
 unfold Rv at ry;let(a,vs,rfl,s,r):=ry;let(f1,f2,f3):=fl r e;exact .inr<|.inl (a,vs,rfl,.inr s,f1,f2,f3)
 .split at e
  .rename_i ks ws hd;split at e
   .rename_i k hk;let(a,kvs,rfl,h1,h2,h3):=qV R hd ry;rw[ju hk rx];refine .inr<|.inr (a,Sj kvs k,rfl,.inl (kvs,k,h1,rfl,rfl),?_);rw[<-Option.some.inj e];have:=iI (x:=k) h2 h3;cases q:atK ks ws k with|none=>rw[q]at this;rw[show Sj kvs k=none from this];rfl|some w=>rw[q]at this;let(v,hv,_):=this;rw[hv];rfl
   cases e
  .split at e;rename_i l h' hl;let(rfl,a,vs,rfl,s,r):=qF R ry hl;let(f1,f2,f3):=fl r e;exact .inr<|.inl (a,vs,rfl,.inl s,f1,f2,f3);cases e
abbrev rInA (X:Cx):R2:=λx y H Q=>(λx y H Q=>∃i j ,x=.str i/\y=.str j/\Q (.bl<|!(K6.Str.occurrences j i 0 ⇑j 1).isEmpty) H) x y H Q\/(λx y H Q=>rIn X.K false x y H Q\/rInD x y H Q) x y H Q
abbrev um (X:Cx):R2:=λx y H Q=>(λx y H Q=>∃i j ,x=.str i/\y=.str j/\Q (.bl<|!(!(K6.Str.occurrences j i 0 ⇑j 1).isEmpty)) H) x y H Q\/(λx y H Q=>rIn X.K true x y H Q\/ul x y H Q) x y H Q
def FH (hu:X.A.units+1<Lg):OpR X (LK .In) (rInA X):=PX.or<|PV.or<|DF hu
def xU (hu:X.A.units+1<Lg):OpR X (LK .NotIn) (um X):=P2.or<|P1.or<|vL hu
def Dv:OpM X E (rInA X) inW:=by
 intro o x y vx vy Q R rx ry h;unfold inW at h;cases e:inB x y o.h with
 |none=>rw[e]at h;exact h.elim
 |some b=>
  rw[e]at h;have q:Q (.bl b) o.H:=Ps.pr (c:=cg X E) (r:=Rv X.K) (a:=W.bl b) h R<|QH.mpr rfl;rcases y8 R rx ry e with⟨i,j,e1,e2,rfl⟩|⟨p,xs,e1,e2,e3,e4,rfl⟩|⟨a,ov,e1,e2,rfl⟩
  exact .inl (i,j,e1,e2,q);exact .inr<|.inl (p,xs,e1,e2,e3,e4,by rw[aZ Hv];exact q);exact .inr<|.inr (a,ov,e1,e2,q)
def vK:OpM X E (um X) cH:=by
 intro o x y vx vy Q R rx ry h;unfold cH at h;cases e:inB x y o.h with
 |none=>rw[e]at h;exact h.elim
 |some b=>
  rw[e]at h;have q:Q (.bl<|!b) o.H:=Ps.pr (c:=cg X E) (r:=Rv X.K) (a:=W.bl<|!b) h R<|QH.mpr rfl;rcases y8 R rx ry e with⟨i,j,e1,e2,rfl⟩|⟨p,xs,e1,e2,e3,e4,rfl⟩|⟨a,ov,e1,e2,rfl⟩
  exact .inl (i,j,e1,e2,q);exact .inr<|.inl (p,xs,e1,e2,e3,e4,by rw[bf rfl];exact q);exact .inr<|.inr (a,ov,e1,e2,q)
theorem Rvs.atI {K:Zf}{i:Int}{w:W}(h:Rvs K o l vs)(e:L2.atI l i=`w):∃v,L2.atI vs i=`v/\Rv K o w v:=by
 unfold L2.atI at e ⊢;rw[h.len];cases q:ixN ⇑l i with|none=>rw[q]at e;cases e|some j=>rw[q]at e;exact h.get e
noncomputable def ixO (x y:W)(h:↑Ob):Option W:=match Nz x h with
 |some (ks ,ws)=>match OH y with|some k=>atK ks ws k|none=>none
 |none=>match y with
  |.int i=>match x with|.str z=>if ⇑z<=sizeLine then (atI z.cps.toList i).map λc=>.str ⟨#[c]⟩ else none|.tup l=>atI l i|x=>match O1 x h with|.ok l _=>atI l i|_=>none
  |_=>none
noncomputable def ixW (x y:W):M W:=λh=>match ixO x y h with|some w=>.ok w h|none=>.bad
noncomputable def rIxD:R2:=λx y H Q=>∃a v,x=.ref a/\MB H a y `v/\Q v H
def Bs (hu:X.A.units+1<Lg):IxR X rIxD:=by intro value slice gV s σ H x y v u Q I rx ry h hs;let(a,z,rfl,g,q):=h;cases rx;exact tail_any (qU I g) PySem.F.slot_dict_getitem.lookup (wC hu I g ry λw' s3 I3 rw'=>(z,H,I3,rw',q)) hs
set_option tactic.hygienic true in
def Du:OpM X E (λx y H Q=>rIx X.K x y H Q\/rIxD x y H Q) ixW:=by
 intro o x y vx vy Q R rx ry h;unfold ixW at h;cases e:ixO x y o.h with
 |none=>rw[e]at h;exact h.elim
 |some w=>
  rw[e]at h;have q:∀ {v:V},Rv X.K o w v->Q v o.H:=λ{v} hv=>Ps.pr (c:=cg X E) (r:=Rv X.K) (a:=w) h R hv;unfold ixO at e;split at e
  .rename_i ks ws hd;split at e;rename_i k hk;let(a,kvs,rfl,h1,h2,h3):=qV R hd rx;have:=iI (x:=k) h2 h3;rw[e]at this;let(v,hv,rv):=this;rw[ju hk ry];exact .inr (a,v,rfl,.inl (kvs,k,h1,rfl,hv.symm),q rv);cases e
  .split at e
   .split at e
    .split at e;rename_i hz;let(c,hc,rfl):=Hn.mp e;exact .inl<|.inr<|.inr (_,_,c,QK.mp rx,QI.mp ry,hz,hc,q<|QK.mpr rfl);cases e
    unfold Rv at rx;let(a,vs,rfl,s,r):=rx;let(v,hv,rv):=r.atI e;exact .inl<|.inr<|.inl (a,vs,_,v,rfl,QI.mp ry,s,hv,q rv)
    .split at e;rename_i l h' hl;let(rfl,a,vs,rfl,s,r):=qF R rx hl;let(v,hv,rv):=r.atI e;exact .inl<|.inl (a,vs,_,v,rfl,QI.mp ry,s,hv,q rv);cases e
   cases e
def Gb {fa fb:MG->M W}(hu:X.A.units+1<Lg)(ha:JE X E a fa)(hb:JE X E b fb)(hs:kQ b):JE X E (.Subscript a b pos) (m2 ixW fa fb):=
 (qi (OA.or<|Bs hu) ha.h hb.h hs).imp λJ J J h=>w5 Du h
noncomputable def Nv {α:Type}(xs:↑α)(lo hi:Option Int):↑α:=(xs.drop<|HT.sIx ⇑xs 0 lo).take<|HT.sIx ⇑xs ⇑xs hi-HT.sIx ⇑xs 0 lo
def Rvs.cut {K:Zf}(h:Rvs K o l vs)(lo hi:Option Int):Rvs K o (Nv l lo hi) (Nu vs lo hi):=by unfold Nv Nu;rw[h.len];exact (h.drop _).take _
noncomputable def ao:MG->M (Option Int):=λJ=>pr none
noncomputable def Pg (f:MG->M W):MG->M (Option Int):=λρ=>bd (f ρ) λw=>match w with|.int i=>pr `i|_=>no
abbrev tP (c:Cg)(f:MG->M (Option Int)):TO:=tG c (λJ a b=>a=b) f
structure JO (X:Cx)(E:XK)(e:Option Expr)(f:MG->M (Option Int)):Prop where
 h:PO X e (tP (cg X E) f)
def PO.imp {f:MG->M (Option Int)}(h:PO X e t)(k:∀σ H Q ,tP (cg X E) f σ H Q->t σ H Q):JO X E e f:=⟨λgV s σ H Q I q=>h gV s σ H Q I<|k σ H Q q⟩
def AY:JO X E none ao:=Qk.imp λσ H Q h=>by let(o,ρ,rfl,R,S,h):=h;exact h.pr R rfl
def AX {f:MG->M W}(he:JE X E e f):JO X E `e (Pg f):=(oQ he.h).imp λσ H Q h=>by
 ac_nf;cases x with|int i=>exact(i,QI.mp r1,h1.pr R1 rfl)|_=>exact h1.elim
noncomputable def slW (x:W)(lo hi:Option Int):M W:=match x with|.str z=>gd (⇑z<=sizeLine) (pr<|.str<|StrLaws.sliceText z lo hi)|.tup l=>gd (¬(HT.sIx ⇑l 0 lo=0/\HT.sIx ⇑l ⇑l hi=⇑l)) (pr<|.tup<|Nv l lo hi)|x=>bd (O1 x) λl=>pr<|.tl<|Nv l lo hi
noncomputable def m3 (f:W->Option Int->Option Int->M W)(fa:MG->M W)(fl fh:MG->M (Option Int)):MG->M W:=λρ=>bd (fa ρ) λx=>bd (fl ρ) λa=>bd (fh ρ) λb=>f x a b
def F7 {lo hi:Option Expr}{fa:MG->M W}{fl fh:MG->M (Option Int)}(he:JE X E e fa)(hl:JO X E lo fl)(hh:JO X E hi fh):
  JE X E (.Subscript e (.Slice lo hi none p2) pos) (m3 slW fa fl fh):=(qh (Ry.or<|Rz.or Ac) he.h hl.h hh.h).imp λσ H Q h=>by
 let(o,ρ,rfl,R,S,h):=h;refine(o,ρ,rfl,R,S,Ps.bd h λp x vx e1 R1 r1 h1=>(p,ρ,rfl,R1,S.mono R e1,Ps.bd h1 λq a va e2 R2 r2 h2=>(q,ρ,rfl,R2,(S.mono R e1).mono R1 e2,Ps.bd h2 λw b vb e3 R3 r3 h3=>?_)));subst r2 r3;have rx:=(r1.mono R1 e2).mono R2 e3;unfold slW at h3;split at h3;let(hz,h3):=h3.gd;exact .inl (_,QK.mp rx,hz,h3.pr R3<|QK.mpr rfl);let(hz,h3):=h3.gd;unfold Rv at rx;let(a',vs,rfl,s,r):=rx;refine .inr<|.inl (a',vs,rfl,s,by rw[r.len];exact hz,λq' hq=>jh R3 hq (r.cut _ _) h3);let(l,a',vs,rfl,s,r,h3):=cq R3 rx h3;exact .inr<|.inr (a',vs,rfl,s,λq' hq=>fZ R3 hq (r.cut _ _) h3)
noncomputable def O5 (f:↑W->M W)(l:MG->M ↑W):MG->M W:=λρ=>bd (l ρ) f
def Mz (X:Cx)(E:XK)(r:↑V->Hp->VK->Prop)(f:↑W->M W):Prop:=∀ (o:Wo) (ws:↑W) (vs:↑V) (Q:VK),Rel X.K o->Rvs X.K o ws vs->Ps (cg X E) (Rv X.K) o (f ws o.h) Q->r vs o.H Q
variable {x:Str}{p pos:LF}{e:Expr}{es:↑Expr}{l:MG->M ↑W}{f:↑W->M W}{r:↑V->Hp->VK->Prop}{id T:String}
def B1 (hf:Mz X E r f)(h:tM (cg X E) (O5 f l) σ H Q):tCB r (tA (cg X E) l) σ H Q:=by let(o,ρ,rfl,R,S,h):=h;exact(o,ρ,rfl,R,S,Ps.bd h λp x vx e1 R1 r1 h1=>hf p x vx Q R1 r1 h1)
def di (hc:CallR X (.builtin id) r)(hf:Mz X E r f)(hg:Gl X x)(hm:X.mg x=none)(hv:Ly x=some (.builtin id))(ha:JA X E (e::es) l)(hn:x≠"__name__":=by decide)(hdb:(x==("__debug__":Str))=false:=by decide)
  (he:LH (e::es) X.env=(false ,LD e X.env)::LH es X.env:=by rfl)(hpl:(LG pos<|LH es X.env).any (·.1)=false:=by rfl):JE X E (.Call (.Name x p) (e::es) [] pos) (O5 f l):=
 (dh hc hg hm hv ha.h hn hdb he hpl).imp λJ J J h=>B1 hf h
def jW (hc:CallR X (.type T) r)(hf:Mz X E r f)(hg:Gl X x)(hm:X.mg x=none)(hv:Ly x=some (.type T))(ha:JA X E (e::es) l)(hn:x≠"__name__")(hdb:(x==("__debug__":Str))=false)
  (he:LH (e::es) X.env=(false ,LD e X.env)::LH es X.env)(hpl:(LG pos<|LH es X.env).any (·.1)=false):JE X E (.Call (.Name x p) (e::es) [] pos) (O5 f l):=
 (ip hc hg hm hv ha.h hn hdb he hpl).imp λJ J J h=>B1 hf h
end
end
section
inductive Fl where|nx (r:MG)|bk (r:MG)|ct (r:MG)|rt (w:W)
inductive FlV where|nx (s:St)|bk (s:St)|ct (s:St)|rt (v:V)
noncomputable def RFl (K:Zf)(o:Wo):Fl->FlV->Prop|.nx r,f=>∃s,f=.nx s/\Re K o r s|.bk r,f=>∃s,f=.bk s/\Re K o r s|.ct r,f=>∃s,f=.ct s/\Re K o r s|.rt w,f=>∃v,f=.rt v/\Rv K o w v
noncomputable def DQ (D:ME):FlV->Hp->Prop|.nx s,H=>D.nx s H|.bk s,H=>D.bk s H|.ct s,H=>D.ct s H|.rt v,H=>D.rt v H
noncomputable def tS (c:Cg)(g:MG->M Fl):TS:=λD σ H=>tG c (RFl c.K) g σ H<|DQ D
structure JS (X:Cx)(E:XK)(e:LI)(f:MG->M Fl):Prop where
 h:PS X e (tS (cg X E) f)
structure JSs (X:Cx)(E:XK)(e:↑LI)(f:MG->M Fl):Prop where
 h:PSs X e (tS (cg X E) f)
def PSs.imp {f:MG->M Fl}(h:PSs X e t)(k:∀D σ H ,tS (cg X E) f D σ H->t D σ H):JSs X E e f:=⟨λgV s σ H D I q=>h gV s σ H D I<|k D σ H q⟩
def PS.imp {f:MG->M Fl}(h:PS X e t)(k:∀D σ H ,tS (cg X E) f D σ H->t D σ H):JS X E e f:=⟨λgV s σ H D I q=>h gV s σ H D I<|k D σ H q⟩
def aa {α β γ:Type}(a:M α)(b:α->M β)(d:β->M γ):bd (bd a b) d=bd a λx=>bd (b x) d:=by funext h;unfold bd;cases a h<;>rfl
section
variable {X:Cx}{E:XK}{pos:LF}
noncomputable def Q1:MG->M Fl:=λρ=>pr<|.nx ρ
noncomputable def Q7 (f g:MG->M Fl):MG->M Fl:=λρ=>bd (f ρ) λx=>match x with|.nx r=>g r|x=>pr x
def AV:JSs X E [] Q1:=Qo.imp λD σ H h=>by let(o,ρ,rfl,R,S,h):=h;exact h.pr R (σ,rfl,S)
def CC {f g:MG->M Fl}(h:tS (cg X E) (Q7 f g) D σ H):tSeq (tS (cg X E) f) (tS (cg X E) g) D σ H:=by
 let(o,ρ,rfl,R,S,h):=h;refine(o,ρ,rfl,R,S,Ps.bd h λp x b e1 R1 r1 h1=>?_);cases x with|nx r=>let(s,rfl,re):=r1;exact(p,r,rfl,R1,re,h1)|bk r=>have q:=h1.pr R1 r1;let(s,rfl,re):=r1;exact q|ct r=>have q:=h1.pr R1 r1;let(s,rfl,re):=r1;exact q|rt r=>have q:=h1.pr R1 r1;let(s,rfl,re):=r1;exact q
def yx {st:LI}{rest:↑LI}{f g:MG->M Fl}(h1:JS X E st f)(h2:JSs X E rest g):JSs X E (st::rest) (Q7 f g):=(ay h1.h h2.h).imp λD σ H h=>CC h
def AU {st:LI}{f:MG->M Fl}(h1:JS X E st f):JSs X E [st] f:=⟨aR h1.h⟩
variable {e:Expr}{f:MG->M W}
noncomputable def Q8 (i:Nat)(f:MG->M W):MG->M Fl:=λρ=>bd (f ρ) λw=>pr<|.nx<|ρ.set i<|some w
def DV {i:Nat}{x:Str}(hN:X.N.Nodup)(hi:X.N[i]?=`x)(hx:Loc X.env.scope x)(he:JE X E e f)(hs:swapsWith e (some<|.Name x pos') pos.line X.env=pure false)(hf:X.fn x=true\/X.env.scope.names.lookup x=some .local ):
  JS X E (.Assign [.Name x pos'] e pos) (Q8 i f):=(dB hN hi hx he.h hs hf).imp λD σ H h=>by
 let(o,ρ,rfl,R,S,h):=h;exact(o,ρ,rfl,R,S,Ps.bd h λp x b e1 R1 r1 h1=>Ps.pr (b:=FlV.nx<|σ.set i<|some b) h1 R1 (_,rfl,(S.mono R e1).set r1 i))
noncomputable def Q4 (f:MG->M W):MG->M Fl:=λρ=>bd (f ρ) λw=>pr<|.rt w
def DW (he:JE X E e f):JS X E (.Return `e pos) (Q4 f):=(cK he.h).imp λD σ H h=>by let(o,ρ,rfl,R,S,h):=h;exact(o,ρ,rfl,R,S,Ps.bd h λp x b e1 R1 r1 h1=>Ps.pr (b:=FlV.rt b) h1 R1 (_,rfl,r1))
noncomputable def sEx (f:MG->M W):MG->M Fl:=λρ=>bd (f ρ) λJ=>pr<|.nx ρ
def AW (he:JE X E e f)(hs:swapsWith e none pos.line X.env=pure false):JS X E (.Expr e pos) (sEx f):=(oP he.h hs).imp λD σ H h=>by let(o,ρ,rfl,R,S,h):=h;exact(o,ρ,rfl,R,S,Ps.bd h λp x b e1 R1 r1 h1=>Ps.pr (b:=FlV.nx σ) h1 R1 (_,rfl,S.mono R e1))
noncomputable def sIf (t:MG->M Bool)(f g:MG->M Fl):MG->M Fl:=λρ=>bd (t ρ) λb=>if b=true then f ρ else g ρ
def F4 {t:MG->M Bool}{f g:MG->M Fl}(hc:JT X E c t)(ha:JSs X E a f)(hb:JSs X E b g):JS X E (.If c a b pos) (sIf t f g):=(gG hc.h ha.h hb.h).imp λD σ H h=>by
 ac_nf;subst r1;cases x with|true=>exact Ow (p,ρ,rfl,R1,S.mono R e1,h1)|false=>exact Ov (p,ρ,rfl,R1,S.mono R e1,h1)
noncomputable def wQ (t:MG->M Bool)(g:MG->M Fl):Nat->MG->M Fl
 |0,_=>no
 |n+1,ρ=>bd (t ρ) λb=>if b=true then bd (g ρ) λx=>match x with|.nx r=>wQ t g n r|.ct r=>wQ t g n r|.bk r=>pr (.nx r)|.rt w=>pr (.rt w)
  else pr (.nx ρ)
structure M1 (K:Zf)(m:Nat)(g:TG)(t:W->MG->Option MG):Prop where
 ok:∀ (o:Wo) (w:W) (v:V) (ρ ρ2:MG) (σ:St),Rv K o w v->Re K o ρ σ->t w ρ=`ρ2->∃σ2,(∀Q:St->Hp->Prop ,Q σ2 o.H->g v σ o.H Q)/\Re K o ρ2 σ2/\σ2.drop m=σ.drop m/\⇑σ2=⇑σ
noncomputable def tgN (i:Nat):W->MG->Option MG:=λw ρ=>some<|ρ.set i<|some w
def dD {K:Zf}(m i:Nat)(h:i<m):M1 K m (NZ i) (tgN i):=⟨λo w v ρ ρ2 σ rv re e=>by
 cases e
 exact(_,λQ q=>q,re.set rv i,by rw[KE h],by rw[HP])⟩
noncomputable def gNs:↑Nat->TGs|[]=>gNil|i::r=>NY (NZ i)<|gNs r
noncomputable def Rl:↑Nat->↑W->MG->Option MG|[],[],ρ=>`ρ|i::r,w::l,ρ=>Rl r l (ρ.set i<|some w)|_,_,_=>none
theorem BY {K:Zf}{m:Nat}:∀ (is:↑Nat) (l:↑W) (vs:↑V) (ρ ρ2:MG) (σ:St),(∀i∈is ,i<m)->Rvs K o l vs->Re K o ρ σ->Rl is l ρ=`ρ2->∃σ2,(∀Q:St->Hp->Prop ,Q σ2 o.H->gNs is vs σ o.H Q)/\Re K o ρ2 σ2/\σ2.drop m=σ.drop m/\⇑σ2=⇑σ
 |[],[],vs,ρ,ρ2,σ,_,rv,re,e=>by unfold Rvs at rv;cases e;exact(σ,λQ q=>(rv,q),re,rfl,rfl)
 |[],_::_,_,_,_,_,_,_,_,e=>by cases e
 |_::_,[],_,_,_,_,_,_,_,e=>by cases e
 |i::is,w::l,vs,ρ,ρ2,σ,hm,rv,re,e=>by
  unfold Rvs at rv;let(v,r,rfl,h1,h2):=rv;let(σ2,a,b,c,d):=BY is l r (ρ.set i<|some w) ρ2 (σ.set i<|some v) (λj hj=>hm j<|Ht _ hj) h2 (re.set h1 i) e;refine(σ2,λQ q=>(v,r,rfl,a Q q),b,?_,?_);rw[c,KE<|hm i Hi];rw[d,HP]
noncomputable def tgT (is:↑Nat):W->MG->Option MG:=λw ρ=>match w with|.tup l=>Rl is l ρ|_=>none
theorem pZ:∀ {is:↑Nat}{l:↑W}{ρ ρ2:MG},Rl is l ρ=`ρ2->⇑l=⇑is|[],[],_,_,_=>rfl|[],_::_,_,_,e=>by cases e|_::_,[],_,_,e=>by cases e|_::is,_::l,_,_,e=>by rw[Hf,Hf,pZ (is:=is) (l:=l) e]
def jM {K:Zf}(m:Nat)(is:↑Nat)(h:∀i∈is ,i<m):M1 K m (gTup K ⇑is<|gNs is) (tgT is):=⟨λo w v ρ ρ2 σ rv re e=>by
 cases w with
 |tup l=>
  unfold Rv at rv;let(a,vs,rfl,s,r):=rv;have e:Rl is l ρ=`ρ2:=e;let(σ2,a1,a2,a3,a4):=BY is l vs ρ ρ2 σ h r re e;exact(σ2,λQ q=>(a,vs,rfl,s,by rw[r.len,pZ e],a1 Q q),a2,a3,a4)
 |_=>cases e⟩
open Classical in
noncomputable def gdh {α:Type}(G:↑Ob->Prop)(m:M α):M α:=λh=>if G h then m h else .bad
def qM {α:Type}(m:M α):gdh (λJ=>True) m=m:=by funext h;unfold gdh;rw[bf trivial]
def ga {α:Type}{G:↑Ob->Prop}{m:M α}(q:G h):gdh G m h=m h:=by unfold gdh;rw[bf q]
theorem Ps.gdh {α β:Type}{r:Wo->α->β->Prop}{G:↑Ob->Prop}{m:M α}{Q:β->Hp->Prop}(h:Ps c r o (gdh G m o.h) Q):G o.h/\Ps c r o (m o.h) Q:=by
 unfold L2.gdh at h;by_cases q:G o.h;rw[bf q]at h;exact(q,h);rw[aZ q]at h;exact h.elim
structure Sr where
 l:↑W
 G:↑Ob->Prop
structure MZ (K:Zf)(o0:Wo)(J:It)(s:Sr):Prop where
 stop:∀o,Ex o0 o->Rel K o->s.G o.h->J.stop ⇑s.l o.H
 go:∀o i w,Ex o0 o->Rel K o->s.G o.h->s.l[i]?=`w->J.go i o.H/\∀x H',J.yld i o.H x H'->∃p,p.H=H'/\p.h=o.h/\Ex o p/\Rel K p/\Rv K p w x
noncomputable def tI (c:Cg)(src:MG->M Sr):TI:=λσ H R=>tG c (λp s J=>MZ c.K p J s) src σ H R
structure JI (X:Cx)(E:XK)(tg iter:Expr)(f:MG->M Sr):Prop where
 h:PI X tg iter (tI (cg X E) f)
def PI.imp {tg iter:Expr}{t:TI}{f:MG->M Sr}(h:PI X tg iter t)(k:∀σ H R ,tI (cg X E) f σ H R->t σ H R):JI X E tg iter f:=⟨λgV s σ H R I q=>h gV s σ H R I<|k σ H R q⟩
noncomputable def RM (w:W):M Sr:=match w with
 |.tl l=>pr (l,λJ=>True)
 |.cl l=>pr (l,λJ=>True)
 |.loc k=>λh=>match h[k]? with|some (.lst l)=>.ok (l,λh=>h[k]?=some (.lst l)) h|_=>.bad
 |_=>no
noncomputable def Pj (f:MG->M W)(g:W->M Sr):MG->M Sr:=λρ=>bd (f ρ) g
def kW {K:Zf}(h:∀o ,Ex o0 o->Rel K o->s.G o.h->∃vs,SqL K o.H a vs/\Rvs K o s.l vs):MZ K o0 (Itl K a) s:=by
 refine(λo X R g=>?_,λo i w X R g e=>?_);let(vs,s,r):=h o X R g;exact(vs,s,IR r.len)
 .let(vs,s,r):=h o X R g;let(v,hv,rv):=r.get e;refine((vs,v,s,hv),λx H' y=>?_);let(rfl,y):=y;have:x=v:=by have:=y vs s;rw[hv]at this;exact (Option.some.inj this).symm
  subst this;exact(o,rfl,rfl,Ex.refl _,R,rv)
set_option tactic.hygienic true in
def A4 {fl:MG->M W}(hl:JE X E l fl):JI X E tg l (Pj fl RM):=(Av hl.h).imp λσ H Q h=>by
 ac_nf;cases x with
 |tl l=>
  have r1':=r1;unfold Rv at r1;let(a,vs,rfl,s,n,r):=r1;refine(a,rfl,(vs,.of s),h1.pr R1<|kW λo X R g=>?_);exact(vs,.of (X.fr a _ s n).1,r.mono R1 X)
 |cl l=>
  unfold Rv at r1;let(a,vs,rfl,s,r):=r1;have sq:∀o,Ex p o->SqL X.K o.H a vs:=λo X=>by
   rcases s with⟨s,n⟩|s
   exact .inl (X.rd s n).1;exact .inr s
  exact(a,rfl,(vs,sq p<|Ex.refl _),h1.pr R1<|kW λo X R g=>(vs,sq o X,r.mono R1 X))
 |loc k=>
  unfold Rv at r1;let(hk,rfl):=r1;unfold RM at h1;dsimp only at h1;split at h1;rename_i l hl;let(vs,h3,h4):=R1.ob k _ hl;refine(_,rfl,(vs,.of h3),Ps.at (p:=p) h1 rfl (Ex.refl _) R1<|kW λo X R g=>?_);let(vs',h5,h6):=R.ob k _ g;rw[X.mu k hk]at h5;exact(vs',.of h5,h6);exact h1.elim
 |_=>exact h1.elim
noncomputable def RN (w:W):M Sr:=match w with|.tup l=>pr (l,λJ=>True)|_=>no
def D3 {fl:MG->M W}(hl:JE X E l fl):JI X E tg l (Pj fl RN):=(Di hl.h).imp λσ H Q h=>by
 ac_nf;cases x with
 |tup l=>
  unfold Rv at r1;let(a,vs,rfl,s,r):=r1;refine(a,rfl,(vs,s),h1.pr R1 (λo X R g=>(vs,X.rdT R1 s,IR r.len),λo i w X R g e=>?_));let(v,hv,rv):=(r.mono R1 X).get e;have sq:=X.rdT R1 s;refine((vs,v,sq,hv),λx H' y=>?_);let(rfl,y):=y;have:x=v:=by have:=y vs sq;rw[hv]at this;exact (Option.some.inj this).symm
  subst this;exact(o,rfl,rfl,Ex.refl _,R,rv)
 |_=>exact h1.elim
noncomputable def Oi (lo:Int):Nat->↑W
 |0=>[]
 |n+1=>.int lo::Oi (lo+1) n
theorem cO:∀ (n:Nat) (lo:Int),⇑(Oi lo n)=n|0,_=>rfl|n+1,lo=>by rw[Oi,Hf,cO n]
theorem cV:∀ (n:Nat) (lo:Int) (i:Nat) (w:W),(Oi lo n)[i]?=`w->w=.int (lo+i)/\i<n|0,_,_,_,h=>by simp [Oi]at h|n+1,lo,0,w,h=>by rw[Oi]at h;cases h;exact(⇑_,Nat.succ_pos _)|n+1,lo,i+1,w,h=>by rw[Oi,Jz]at h;let(e,l):=cV n (lo+1) i w h;exact(by rw[e];congr 1;omega,∅)
def nB {K:Zf}{lo:Int}{n:Nat}:MZ K o0 (Itr lo n) (Oi lo n,λJ=>True):=by
 refine(λo X R g=>?_,λo i w X R g e=>?_);show n<=⇑(Oi lo n);rw[cO];exact Hc _;let(rfl,hi):=cV n lo i w e;refine(hi,λx H' y=>?_);let(rfl,rfl):=y;exact(o,rfl,rfl,Ex.refl _,R,QI.mpr rfl)
noncomputable def QB (l:↑W):M Sr:=match l with|[.int j]=>gd (-(2^62)<=j/\j<2^62) (pr (Oi 0 j.toNat,λJ=>True))|_=>no
noncomputable def QC (l:↑W):M Sr:=match l with|[.int i,.int j]=>gd (-(2^62)<=i/\i<2^62/\ -(2^62)<=j/\j<2^62) (pr (Oi i (j-i).toNat,λJ=>True))|_=>no
noncomputable def Pk (f:MG->M ↑W)(g:↑W->M Sr):MG->M Sr:=λρ=>bd (f ρ) g
def vX {fl:MG->M ↑W}(hg:Gl X "range")(hm:X.mg "range"=none)(ha:JA X E [a] fl)(hs:LH [a] X.env=[(false ,LD a X.env)]):JI X E tg (.Call (.Name "range" p) [a] [] pos) (Pk fl QB):=
 (vG hg hm ha.h hs).imp λσ H Q h=>by
 ac_nf;unfold QB at h1;split at h1;let(hz,h1):=h1.gd;unfold Rvs Rvs at r1;let(v,r,rfl,a1,rfl):=r1;exact(_,by rw[QI.mp a1],hz.1,hz.2,h1.pr R1 nB);exact h1.elim
def vW {fl:MG->M ↑W}(hg:Gl X "range")(hm:X.mg "range"=none)(ha:JA X E [a,b] fl)(hs:LH [a,b] X.env=[(false ,LD a X.env),(false ,LD b X.env)])(hs2:LH [b] X.env=[(false ,LD b X.env)]):
  JI X E tg (.Call (.Name "range" p) [a,b] [] pos) (Pk fl QC):=(vF hg hm ha.h hs hs2).imp λσ H Q h=>by
 ac_nf;unfold QC at h1;split at h1;let(hz,h1):=h1.gd;unfold Rvs Rvs Rvs at r1;let(v,r,rfl,a1,v',r',rfl,a2,rfl):=r1;exact(_,_,by rw[QI.mp a1,QI.mp a2],hz,h1.pr R1 nB);exact h1.elim
noncomputable def NX (G:↑Ob->Prop)(t:W->MG->Option MG)(g:MG->M Fl):↑W->MG->M Fl
 |[],ρ=>gdh G<|pr<|.nx ρ
 |w::l,ρ=>gdh G (match t w ρ with
  |none=>no
  |some r=>bd (g r) λx=>match x with
   |.nx r'=>NX G t g l r'
   |.ct r'=>NX G t g l r'
   |.bk r'=>pr (.nx r')
   |.rt v=>pr<|.rt v)
noncomputable def QU (src:MG->M Sr)(t:W->MG->Option MG)(g:MG->M Fl):MG->M Fl:=λρ=>bd (src ρ) λs=>NX s.G t g s.l ρ
def DX {tg iter:Expr}{body:↑LI}{src:MG->M Sr}{t:W->MG->Option MG}{gT:TG}{g:MG->M Fl}{m:Nat}(hp:LQ (Li X.prog X.w) X.A X.env X.xe)(hc:X.calm=true)(hi:JI X E tg iter src)(hg:PG X tg gT)(ht:M1 X.K m gT t)(hb:JSs X E body g)
  (hs:∀x ,LY iter X.env x=pure x):JS X E (.For tg iter body [] pos) (QU src t g):=(Dd hp hc hi.h hg hb.h hs).imp λD σ H h=>by
 let(o,ρ,rfl,R,S,h):=h;refine(o,ρ,rfl,R,S,Ps.bd h λo1 s J e1 R1 sk h1=>?_);refine(λi n σ H=>n=⇑s.l-i/\i<=⇑s.l/\∃o ρ,o.H=H/\Ex o1 o/\Rel X.K o/\Re X.K o ρ σ/\Ps (cg X E) (RFl X.K) o (NX s.G t g (s.l.drop i) ρ o.h) (DQ D),(_,rfl,Hy _,o1,ρ,rfl,Ex.refl _,R1,S.mono R e1,h1),?_)
 rintro i n σ H ⟨rfl,hi,o,ρ,rfl,X1,R,S,h⟩
 by_cases hlt:i<⇑s.l
 .obtain⟨w,hw⟩:∃w,s.l[i]?=`w:=(_,Hw hlt)
  have hd:s.l.drop i=w::s.l.drop (i+1):=by rw[IU hlt];rw[Hw hlt]at hw;rw[Option.some.inj hw]
  rw[hd]at h;unfold NX at h;let(hG,h):=h.gdh;let(hgo,hy):=sk.go o i w X1 R hG hw;refine .inr (hgo,λσ' H'=>∃o ρ,o.H=H'/\Ex o1 o/\Rel X.K o/\Re X.K o ρ σ'/\Ps (cg X E) (RFl X.K) o (NX s.G t g (s.l.drop<|i+1) ρ o.h) (DQ D),λσ' H' q=>(_,∅,rfl,hlt,q),λx H' y=>?_);let(p,rfl,eh,X2,R2,rv):=hy x H' y;cases et:t w ρ with
  |none=>rw[et]at h;exact h.elim
  |some r=>
   rw[et]at h;let(σ2,k1,k2,_,_):=ht.ok p w x ρ r σ rv (S.mono R X2) et;refine k1 _ ?_
   have h2:Ps (cg X E) (RFl X.K) p (bd (g r) (λx=>match x with
    |.nx r'=>NX s.G t g (s.l.drop<|i+1) r'
    |.ct r'=>NX s.G t g (s.l.drop<|i+1) r'
    |.bk r'=>pr (.nx r')
    |.rt v=>pr<|.rt v) p.h) (DQ D):=by rw[eh];exact h.after X2
   refine(p,r,rfl,R2,k2,Ps.bd h2 λq x b e3 R3 r3 h3=>?_);cases x with|nx r=>let(s',rfl,re):=r3;exact(q,r,rfl,(X1.trans X2).trans e3,R3,re,h3)|ct r=>let(s',rfl,re):=r3;exact(q,r,rfl,(X1.trans X2).trans e3,R3,re,h3)|bk r=>let(s',rfl,re):=r3;exact h3.pr R3 (b:=.nx s') (s',rfl,re)|rt w=>let(v,rfl,rv):=r3;exact h3.pr R3 (b:=.rt v) (v,rfl,rv)
 have e:i=⇑s.l:=∅;subst e;rw[J8]at h;unfold NX at h;let(hG,h):=h.gdh;exact .inl (sk.stop o X1 R hG,Ps.pr (b:=FlV.nx σ) h R (σ,rfl,S))
end
end
section
section
variable {X:Cx}{E:XK}{pos:LF}
noncomputable def Nr (G:↑Ob->Prop)(t:W->MG->Option MG)(f:MG->M Bool)(e:MG->M W)(n:Nat):↑W->MG->M ↑W
 |[],ρ=>gdh G<|pr []
 |w::l,ρ=>gdh G (match t w (List.replicate n none++ρ) with
  |none=>no
  |some r=>bd (f r) λb=>if b=true then bd (e r) λx=>bd (Nr G t f e n l ρ) λm=>pr (x::m) else Nr G t f e n l ρ)
noncomputable def O6 (hs:↑Nat)(src:MG->M Sr)(t:W->MG->Option MG)(f:MG->M Bool)(e:MG->M W)(n:Nat):MG->M ↑W:=λρ=>
 gd ((hs.all λi=>(ρ[i]?.join).isNone)=true) (bd (src ρ) λs=>gd (⇑s.l<=sizeLine)<|Nr s.G t f e n s.l ρ)
variable {elt iter tg:Expr}{ifs:↑Expr}{scope:Lz}{ls:↑Str}{gT:TG}{t:W->MG->Option MG}{f:MG->M Bool}{e:MG->M W}{src:MG->M Sr}{hs:↑Nat}{wh:Prop}
def z0 (ht:M1 X.K ⇑ls gT t)(h:tF (cg X E) (O6 hs src t f e ⇑ls) σ H Q):RX X.N ls (tI (cg X E) src) gT (tT (cg X E) f) (tM (cg X E) e) σ H Q:=by
 let(o,ρ,rfl,R,S,h):=h;unfold O6 at h;let(h0,h):=h.gd;refine(rfl,o,ρ,rfl,R,S,Ps.bd h λo1 s J e1 R1 sk h1=>?_);let(hz,h1):=h1.gd;have S1:=S.mono R e1
 refine(λi n ys H=>n=⇑s.l-i/\i<=⇑s.l/\∃o acc,o.H=H/\Ex o1 o/\Rel X.K o/\Rvs X.K o acc ys/\⇑acc<=i/\Ps (cg X E) (Rvs X.K) o (bd (Nr s.G t f e ⇑ls (s.l.drop i) ρ) (λm=>pr<|acc++m) o.h) (λvs H1=>∀q ,H1 q=none->Q (.ref q) (upd H1 q<|.lst vs)),
  (_,rfl,Hy _,o1,[],rfl,Ex.refl _,R1,Rvs.nil,Hc _,?_),?_)
 .have:bd (Nr s.G t f e ⇑ls (s.l.drop 0) ρ) (λm=>pr<|[]++m)=Nr s.G t f e ⇑ls s.l ρ:=by funext h;rw[J9];unfold bd;cases Nr s.G t f e ⇑ls s.l ρ h<;>rfl
  rw[this];exact h1
 rintro i n ys H ⟨rfl,hi,o,acc,rfl,X1,R,A,ha,h⟩
 have S2:=S1.mono R1 X1;have gs:∀ {α β γ:Type}{r:Wo->β->γ->Prop}{m:M α}{k:α->M β}{Q':γ->Hp->Prop},Ps (cg X E) r o (bd (gdh s.G m) k o.h) Q'->s.G o.h/\Ps (cg X E) r o (bd m k o.h) Q':=λ{α β γ r m k Q'} q=>by
  have:bd (gdh s.G m) k o.h=gdh s.G (bd m k) o.h:=by
   unfold bd L2.gdh;by_cases z:s.G o.h;simp only[bf z];simp only[aZ z]
  rw[this]at q;exact q.gdh
 by_cases hlt:i<⇑s.l
 .obtain⟨w,hw⟩:∃w,s.l[i]?=`w:=(_,Hw hlt)
  have hd:s.l.drop i=w::s.l.drop (i+1):=by rw[IU hlt];rw[Hw hlt]at hw;rw[Option.some.inj hw]
  rw[hd]at h;unfold Nr at h;let(hG,h):=gs h;let(hgo,hy):=sk.go o i w X1 R hG hw;refine .inr (hgo,λys' H'=>∃o acc,o.H=H'/\Ex o1 o/\Rel X.K o/\Rvs X.K o acc ys'/\⇑acc<=i+1/\Ps (cg X E) (Rvs X.K) o (bd (Nr s.G t f e ⇑ls (s.l.drop<|i+1) ρ) (λm=>pr<|acc++m) o.h) (λvs H1=>∀q ,H1 q=none->Q (.ref q) (upd H1 q<|.lst vs)),λys' H' q=>(_,∅,rfl,hlt,q),λx H' y=>?_);let(p,rfl,eh,X2,R2,rv):=hy x H' y;cases et:t w (List.replicate ⇑ls none++ρ) with
  |none=>rw[et]at h;exact h.elim
  |some r=>
   rw[et]at h;let(σ2,k1,k2,k3,k4):=ht.ok p w x _ r (List.replicate ⇑ls none++σ) rv ((S2.mono R X2).front _) et;refine k1 _ (?_,?_,?_);rw[k3,List.drop_left'<|by rw[II]];rw[k4,Hk,II]
   have h2:Ps (cg X E) (Rvs X.K) p (bd (f r) (λb=>bd (if b=true then bd (e r) λx=>bd (Nr s.G t f e ⇑ls (s.l.drop<|i+1) ρ) λm=>pr (x::m) else Nr s.G t f e ⇑ls (s.l.drop<|i+1) ρ) λm=>pr<|acc++m) p.h) (λvs H1=>∀q ,H1 q=none->Q (.ref q) (upd H1 q<|.lst vs)):=by rw[eh];rw[aa]at h;exact h.after X2
   refine(p,r,rfl,R2,k2,Ps.bd h2 λq b vb e3 R3 r3 h3=>?_);subst r3;have A3:=(A.mono R X2).mono R2 e3;cases b with
   |false=>
    exact Ov (q,acc,rfl,(X1.trans X2).trans e3,R3,A3,∅,h3)
   |true=>
    rw[bf rfl,aa]at h3;refine Ow (q,r,rfl,R3,k2.mono R2 e3,Ps.bd h3 λq2 x vx e4 R4 r4 h4=>(?_,q2,acc++[x],rfl,((X1.trans X2).trans e3).trans e4,R4,(A3.mono R3 e4).app<|Rvs.cons r4 Rvs.nil,?_,?_));rw[(A3.mono R3 e4).len];omega;rw[Hk,HI];omega
    .rw[aa]at h4;have ee:(λm=>bd (pr (x::m)) λm=>pr<|acc++m)=(λm:↑W=>(pr (acc++[x]++m):M ↑W)):=by funext m h;show Rs.ok (acc++(x::m)) h=Rs.ok (acc++[x]++m) h;rw[HF];rfl
     rw[ee]at h4;exact h4
 have ei:i=⇑s.l:=∅;subst ei;rw[J8]at h;unfold Nr at h;let(hG,h):=gs h;have h:Ps (cg X E) (Rvs X.K) o (pr (acc++[]) o.h) (λvs H1=>∀q ,H1 q=none->Q (.ref q) (upd H1 q<|.lst vs)):=h;rw[HL]at h;exact .inl (sk.stop o X1 R hG,h.pr R A)
structure JQ (X:Cx)(E:XK)(ifs:↑Expr)(f:MG->M Bool):Prop where
 h:MO X ifs (tT (cg X E) f)
noncomputable def Pn:MG->M Bool:=λJ=>pr true
def A1:JQ X E [] Pn:=⟨λgV s σ H Q I h=>oR gV s σ H Q I (by
 let(o,ρ,rfl,R,S,h):=h
 exact Ps.pr (b:=true) h R rfl)⟩
def AZ (h:JT X E c f):JQ X E [c] f:=⟨At h.h⟩
def cI (hcalm:X.calm=true)(S:CScope X ls scope)(hi:JI X E tg iter src)(hg:∀C s2 H2 fp ,PG (cxC X ls scope C s2 H2 fp) tg gT)(ht:M1 X.K ⇑ls gT t)
  (hf:∀C s2 H2 fp ,JQ (cxC X ls scope C s2 H2 fp) E ifs f)(he:∀C s2 H2 fp ,JE (cxC X ls scope C s2 H2 fp) E elt e)(hh:wh)
  (hs':∀x ,LY iter X.env x=pure x:=by intro _;rfl):JF X E (.ListComp elt [(tg,iter,ifs,0)] scope pos) (O6 hs src t f e ⇑ls):=
 (oS hcalm S hi.h hg (λC s2 H2 fp=>(hf C s2 H2 fp).h) (λC s2 H2 fp=>(he C s2 H2 fp).h) hs').impF λσ H Q h=>z0 ht h
end
end
section
section
variable {X:Cx}{E:XK}{pos p:LF}{a b:Expr}{l:MG->M ↑W}
def Rvs.one {K:Zf}{w:W}(h:Rvs K o [w] vs):∃v,vs=[v]/\Rv K o w v:=by unfold Rvs Rvs at h;let(v,r,rfl,h1,rfl):=h;exact(v,rfl,h1)
def Rvs.two {K:Zf}{w x:W}(h:Rvs K o [w,x] vs):∃v u,vs=[v,u]/\Rv K o w v/\Rv K o x u:=by unfold Rvs Rvs Rvs at h;let(v,r,rfl,h1,u,r2,rfl,h2,rfl):=h;exact(v,u,rfl,h1,h2)
noncomputable def OT (ws:↑W):M W:=match ws with|[.str z]=>gd (⇑z<=sizeLine) (pr<|.int ⇑z)|[.tup l]=>pr (.int ⇑l)|[w]=>bd (O1 w) λl=>pr (.int ⇑l)|_=>no
def ET:Mz X E (λxs H Q=>(λxs H Q=>∃z ,xs=[.str z]/\⇑z<=sizeLine/\Q (.int ⇑z) H) xs H Q\/(λxs H Q=>∃p ys ,xs=[.ref p]/\(SqL X.K H p ys\/SqT X.K H p ys)/\Q (.int ⇑ys) H) xs H Q) OT:=by
 intro o ws vs Q R rv h;unfold OT at h;split at h;let(v,rfl,r):=rv.one;let(hz,h):=h.gd;exact .inl (_,by rw[QK.mp r],hz,h.pr R<|QI.mpr rfl);let(v,rfl,r):=rv.one;unfold Rv at r;let(a,us,rfl,s,r):=r;exact .inr (a,us,rfl,.inr s,by rw[r.len];exact h.pr R<|QI.mpr rfl);let(v,rfl,r):=rv.one;let(l,a,us,rfl,s,r,h):=cq R r h;exact .inr (a,us,rfl,.inl s,by rw[r.len];exact h.pr R<|QI.mpr rfl);exact h.elim
def El (hm:X.mg "len"=none)(ha:JA X E [a] l)(hg:Gl X "len")(he:LH [a] X.env=(false ,LD a X.env)::LH [] X.env)(hpl:(LG pos<|LH [] X.env).any (·.1)=false):JE X E (.Call (.Name "len" p) [a] [] pos) (O5 OT l):=
 di (Nj.or pJ) ET hg hm PySem.boot_len ha (he:=he) (hpl:=hpl)
noncomputable def Og (ws:↑W):M W:=match ws with
 |[.int i]=>pr<|.int i
 |[.bl k]=>pr (.int<|if k then 1 else 0)
 |[.str z]=>match PySem.intText? z with|some n=>gd (⇑z<=640) (pr<|.int n)|none=>no
 |_=>no
set_option tactic.hygienic true in
def EV:Mz X E (λxs H Q=>((∃i ,xs=[.int i]/\Q (.int i) H)\/ ∃k ,xs=[.bl k]/\Q (.int<|if k then 1 else 0) H)\/(λxs H Q=>∃ (z:Str) (n:Int) ,xs=[.str z]/\PySem.intText? z=`n/\⇑z<=640/\Q (.int n) H) xs H Q) Og:=by
 intro o ws vs Q R rv h;unfold Og at h;split at h;let(v,rfl,r):=rv.one;exact .inl<|.inl (_,by rw[QI.mp r],h.pr R<|QI.mpr rfl);let(v,rfl,r):=rv.one;exact .inl<|.inr (_,by rw[QH.mp r],h.pr R<|QI.mpr rfl)
 .let(v,rfl,r):=rv.one;rename_i z;cases hn:PySem.intText? z with
  |some n=>
   rw[hn]at h;let(hz,h):=h.gd;exact .inr (_,n,by rw[QK.mp r],hn,hz,h.pr R<|QI.mpr rfl)
  |none=>rw[hn]at h;exact h.elim
 exact h.elim
def Bd (hm:X.mg "int"=none)(ha:JA X E [a] l)(hg:Gl X "int")(he:LH [a] X.env=(false ,LD a X.env)::LH [] X.env)(hpl:(LG pos<|LH [] X.env).any (·.1)=false):JE X E (.Call (.Name "int" p) [a] [] pos) (O5 Og l):=
 jW (hn:=by decide) (hdb:=by decide) (Ni.or jD) EV hg hm PyProof.Rows.boot_int ha (he:=he) (hpl:=hpl)
noncomputable def RU (ws:↑W):M W:=match ws with|[.int i]=>gd (i.natAbs.log2<1920) (pr<|.str<|toString i)|[.str z]=>pr (.str z)|_=>no
def ER:Mz X E (λxs H Q=>(λxs H Q=>∃i ,xs=[.int i]/\i.natAbs.log2<1920/\Q (.str<|toString i) H) xs H Q\/(λxs H Q=>∃ (z:Str) ,xs=[.str z]/\Q (.str z) H) xs H Q) RU:=by
 intro o ws vs Q R rv h;unfold RU at h;split at h;let(v,rfl,r):=rv.one;let(hz,h):=h.gd;exact .inl (_,by rw[QI.mp r],hz,h.pr R<|QK.mpr rfl);let(v,rfl,r):=rv.one;exact .inr (_,by rw[QK.mp r],h.pr R<|QK.mpr rfl);exact h.elim
def A7 (hm:X.mg "str"=none)(ha:JA X E [a] l)(hg:Gl X "str")(he:LH [a] X.env=(false ,LD a X.env)::LH [] X.env)(hpl:(LG pos<|LH [] X.env).any (·.1)=false):JE X E (.Call (.Name "str" p) [a] [] pos) (O5 RU l):=
 jW (hn:=by decide) (hdb:=by decide) (Nk.or pG) ER hg hm PyProof.Rows.boot_str ha (he:=he) (hpl:=hpl)
noncomputable def M4 (ws:↑W):M W:=match ws with|[.int i]=>pr (.int<|if i<0 then -i else i)|_=>no
def Ev (hm:X.mg "abs"=none)(ha:JA X E [a] l)(hg:Gl X "abs")(he:LH [a] X.env=(false ,LD a X.env)::LH [] X.env)(hpl:(LG pos<|LH [] X.env).any (·.1)=false):JE X E (.Call (.Name "abs" p) [a] [] pos) (O5 M4 l):=
 di zE (λo ws vs Q R rv h=>by
  unfold M4 at h;split at h;let(v,rfl,r):=rv.one;exact(_,by rw[QI.mp r],h.pr R<|QI.mpr rfl)
  .exact h.elim) hg hm PyProof.Rows.boot_abs ha (he:=he) (hpl:=hpl)
noncomputable def iOf:W->Option Int|.int i=>`i|_=>none
noncomputable def bOf:W->Option Bool|.bl i=>`i|_=>none
noncomputable def sOf:W->Option Str|.str i=>`i|_=>none
set_option tactic.hygienic true in
theorem dG {K:Zf}{α:Type}{f:W->Option α}{g:α->V}(hf:∀w a v ,f w=`a->Rv K o w v->v=g a):∀ {l:↑W}{xs:↑α}{vs:↑V},P6 f l=`xs->Rvs K o l vs->vs=xs.map g
 |[],xs,vs,e,h=>by unfold Rvs at h;cases e;exact h
 |w::l,xs,vs,e,h=>by
  unfold Rvs at h;let(v,r,rfl,h1,h2):=h;unfold P6 at e;split at e;rename_i d ds e1 e2;cases e;rw[hf w d v e1 h1,dG hf e2 h2];rfl;cases e
def ma {K:Zf}:∀ (w:W) (a:Int) (v:V),iOf w=`a->Rv K o w v->v=.int a:=λw a v e h=>by cases w<;>first|(cases e;exact QI.mp h)|cases e
def zL {K:Zf}:∀ (w:W) (a:Bool) (v:V),bOf w=`a->Rv K o w v->v=.bl a:=λw a v e h=>by cases w<;>first|(cases e;exact QH.mp h)|cases e
def xv {K:Zf}:∀ (w:W) (a:Str) (v:V),sOf w=`a->Rv K o w v->v=.str a:=λw a v e h=>by cases w<;>first|(cases e;exact QK.mp h)|cases e
noncomputable def RW (ws:↑W):M W:=match ws with
 |[w]=>bd (O1 w) λl=>match P6 iOf l with|some ns=>pr (.int ns.sum)|none=>no
 |_=>no
def Ea (hc:X.calm=true)(hm:X.mg "sum"=none)(ha:JA X E [a] l)(hg:Gl X "sum")(he:LH [a] X.env=(false ,LD a X.env)::LH [] X.env)(hpl:(LG pos<|LH [] X.env).any (·.1)=false):JE X E (.Call (.Name "sum" p) [a] [] pos) (O5 RW l):=
 di (zC hc) (λo ws vs Q R rv h=>by
  unfold RW at h;split at h
  .let(v,rfl,r):=rv.one;let(l,a,us,rfl,s,r,h):=cq R r h;cases e:P6 iOf l with
   |none=>rw[e]at h;exact h.elim
   |some ns=>
    rw[e]at h;rw[dG ma e r]at s;exact(a,ns,rfl,s,h.pr R<|QI.mpr rfl)
  .exact h.elim) hg hm PyProof.Rows.boot_sum ha (he:=he) (hpl:=hpl)
noncomputable def M9 (ws:↑W):M W:=match ws with
 |[w]=>bd (O1 w) λl=>match P6 bOf l with|some ns=>pr (.bl<|ns.all id)|none=>no
 |_=>no
def Et (hc:X.calm=true)(hm:X.mg "all"=none)(ha:JA X E [a] l)(hg:Gl X "all")(he:LH [a] X.env=(false ,LD a X.env)::LH [] X.env)(hpl:(LG pos<|LH [] X.env).any (·.1)=false):JE X E (.Call (.Name "all" p) [a] [] pos) (O5 M9 l):=
 di (mE hc) (λo ws vs Q R rv h=>by
  unfold M9 at h;split at h
  .let(v,rfl,r):=rv.one;let(l,a,us,rfl,s,r,h):=cq R r h;cases e:P6 bOf l with
   |none=>rw[e]at h;exact h.elim
   |some ns=>
    rw[e]at h;rw[dG zL e r]at s;exact(a,ns,rfl,s,h.pr R<|QH.mpr rfl)
  .exact h.elim) hg hm PyProof.Rows.boot_all ha (he:=he) (hpl:=hpl)
noncomputable def jL (ws:↑W):M W:=match ws with|[.tup l]=>pr (.tup l)|[w]=>bd (O1 w) λl=>pr (.tup l)|_=>no
def yB (hm:X.mg "tuple"=none)(ha:JA X E [a] l)(hg:Gl X "tuple")(he:LH [a] X.env=(false ,LD a X.env)::LH [] X.env)(hpl:(LG pos<|LH [] X.env).any (·.1)=false):JE X E (.Call (.Name "tuple" p) [a] [] pos) (O5 jL l):=
 jW (hn:=by decide) (hdb:=by decide) mX (λo ws vs Q R rv h=>by
  unfold jL at h;split at h;let(v,rfl,r):=rv.one;have r0:=r;unfold Rv at r;let(a,us,rfl,s,r):=r;exact(a,us,rfl,.inr (s,h.pr R r0));let(v,rfl,r):=rv.one;let(l,a,us,rfl,s,r,h):=cq R r h;exact(a,us,rfl,.inl (s,λq hq=>jh R hq r h))
  .exact h.elim) hg hm PyProof.Rows.boot_tuple ha (he:=he) (hpl:=hpl)
noncomputable def OU (l:MG->M ↑W):MG->M ↑W:=λρ=>bd (l ρ) λws=>match ws with|[.tup l]=>pr l|[w]=>O1 w|_=>no
def yM {w:W}{Q:↑V->Hp->Prop}(R:Rel X.K o)(hr:Rv X.K o w v)(h:Ps (cg X E) (Rvs X.K) o (O1 w o.h) Q):∃l a vs,v=.ref a/\SqL X.K o.H a vs/\Rvs X.K o l vs/\Q vs o.H:=by
 have e:O1 w=bd (O1 w) λl=>pr l:=by funext h;unfold bd;cases O1 w h<;>rfl
 rw[e]at h;let(l,a,vs,e1,e2,e3,h):=cq R hr h;exact(l,a,vs,e1,e2,e3,h.pr R e3)
def A6 (hm:X.mg "list"=none)(ha:JA X E [a] l)(hg:Gl X "list")(he:LH [a] X.env=(false ,LD a X.env)::LH [] X.env)(hpl:(LG pos<|LH [] X.env).any (·.1)=false):JF X E (.Call (.Name "list" p) [a] [] pos) (OU l):=
 (ip (hn:=by decide) (hdb:=by decide) pI hg hm PyProof.Rows.boot_list ha.h (he:=he) (hpl:=hpl)).impF λσ H Q h=>by
  let(o,ρ,rfl,R,S,h):=h;refine(o,ρ,rfl,R,S,Ps.bd h λp x vx e1 R1 r1 h1=>?_);split at h1;let(v,rfl,r):=r1.one;unfold Rv at r;let(a,us,rfl,s,r):=r;exact(a,us,rfl,.inr s,h1.pr R1 r);let(v,rfl,r):=r1.one;let(l,a,us,rfl,s,r,q):=yM R1 r h1;exact(a,us,rfl,.inl s,q);exact h1.elim
noncomputable def isS (w:W):M W:=match w with|.str z=>pr (.str z)|_=>no
noncomputable def OC (x:W)(ws:↑W):M W:=match x,ws with
 |.str sep,[w]=>bd (O0 w) λl=>match P6 sOf l with|some ts=>gd ((ts.map (·.length)).sum+⇑ts*⇑sep<=sizeLine) (pr<|.str<|Str.join sep ts)|none=>no
 |_,_=>no
noncomputable def Pb (chk:W->M W)(f:W->↑W->M W)(fo:MG->M W)(l:MG->M ↑W):MG->M W:=λρ=>bd (fo ρ) λx=>bd (chk x) λx=>bd (l ρ) λws=>f x ws
variable {o e:Expr}{apos cpos:LF}{fo:MG->M W}
def Bc (ho:JE X E o fo)(ha:JA X E [e] l)(hbase:L1 o "join" X.env (LD o X.env)=LD o X.env)
  (hfew:((LG cpos<|LH [e] X.env).all (λx=>!x.1)&&(L3 cpos<|L4 [] X.env).all (λx=>x.1.isSome)&&decide (⇑([e]:↑Expr)+⇑([]:↑L8)+(if ([]:↑L8).isEmpty then 0 else 1)<30))=true)
  (hline:(apos.endLine==cpos.line)=true)(hs:LH [e] X.env=(false ,LD e X.env)::LH [] X.env)(hplain:(LG cpos<|LH [] X.env).any (·.1)=false):
  JE X E (.Call (.Attribute o "join" apos) [e] [] cpos) (Pb isS OC fo l):=
 (uu PySem.F.plainAttrs_str PySem.F.slot_str_join PySem.F.type_str_join AT ho.h ha.h hbase hfew hline hs hplain).imp λσ H Q h=>by
  let(w,ρ,rfl,R,S,h):=h;refine(w,ρ,rfl,R,S,Ps.bd h λp x vx e1 R1 r1 h1=>?_);cases x with
  |str sep=>
   have h1:Ps (cg X E) (Rv X.K) p (bd (l ρ) (λws=>OC (.str sep) ws) p.h) Q:=h1;rw[QK.mp r1];refine(rfl,p,ρ,rfl,R1,S.mono R e1,Ps.bd h1 λq ws vs e2 R2 r2 h2=>?_);rcases ws with _|⟨w',_|⟨_,_⟩⟩
   exact h2.elim
   .have h2:Ps (cg X E) (Rv X.K) q (bd (O0 w') (λl=>match P6 sOf l with
     |some ts=>gd ((ts.map (·.length)).sum+⇑ts*⇑sep<=sizeLine) (pr<|.str<|Str.join sep ts)
     |none=>no) q.h) Q:=h2
    let(v,rfl,r):=r2.one;let(l',a,us,rfl,s,r,h2):=eK R2 r h2;cases e:P6 sOf l' with
    |none=>rw[e]at h2;exact h2.elim
    |some ts=>
     rw[e]at h2;rw[dG xv e r]at s;let(hz,h2):=h2.gd;exact(sep,a,ts,rfl,rfl,.of s,hz,h2.pr R2<|QK.mpr rfl)
   exact h2.elim
  |_=>exact h1.elim
noncomputable def isL (w:W):M W:=match w with
 |.loc k=>λh=>match h[k]? with|some (.lst _)=>.ok (.loc k) h|_=>.bad
 |_=>no
def EJ {α β:Type}{r:Wo->α->β->Prop}{o:Wo}{w:W}{v:V}{k:W->M α}{Q:β->Hp->Prop}(R:Rel X.K o)(hr:Rv X.K o w v)(h:Ps (cg X E) r o (bd (isL w) k o.h) Q):
  ∃j l vs,w=.loc j/\o.h[j]?=some (.lst l)/\v=.ref (o.mu j)/\j<⇑o.h/\o.H (o.mu j)=some (.lst vs)/\Rvs X.K o l vs/\Ps (cg X E) r o (k (.loc j) o.h) Q:=by
 cases w with
 |loc j=>
  unfold Rv at hr;unfold isL bd at h;cases e:o.h[j]? with
  |none=>simp only[e]at h;exact h.elim
  |some b=>
   cases b with
   |lst l=>
    simp only[e]at h;let(vs,h1,h2):=R.ob j _ e;exact(j,l,vs,rfl,e,hr.2,hr.1,h1,h2,h)
   |_=>simp only[e]at h;exact h.elim
 |_=>exact h.elim
noncomputable def bu (x:W)(ws:↑W):M W:=match x,ws with
 |.loc k,[w]=>λh=>match h[k]? with|some (.lst l)=>if ⇑l<sizeLine then .ok .non (h.set k<|.lst<|l++[w]) else .bad|_=>.bad
 |_,_=>no
def v4 (ho:JE X E o fo)(ha:JA X E [e] l)(hbase:L1 o "append" X.env (LD o X.env)=LD o X.env)
  (hfew:((LG cpos<|LH [e] X.env).all (λx=>!x.1)&&(L3 cpos<|L4 [] X.env).all (λx=>x.1.isSome)&&decide (⇑([e]:↑Expr)+⇑([]:↑L8)+(if ([]:↑L8).isEmpty then 0 else 1)<30))=true)
  (hline:(apos.endLine==cpos.line)=true)(hs:LH [e] X.env=(false ,LD e X.env)::LH [] X.env)(hplain:(LG cpos<|LH [] X.env).any (·.1)=false):
  JE X E (.Call (.Attribute o "append" apos) [e] [] cpos) (Pb isL bu fo l):=
 (uu PySem.F.plainAttrs_list PySem.F.slot_list_append PySem.F.type_list_append vU ho.h ha.h hbase hfew hline hs hplain).imp λσ H Q h=>by
  let(w,ρ,rfl,R,S,h):=h;refine(w,ρ,rfl,R,S,Ps.bd h λp x vx e1 R1 r1 h1=>?_);let(j,l0,vs0,rfl,hj,rfl,hlt,hH,hl0,h1):=EJ R1 r1 h1;refine(.inl (rfl,vs0,.of hH),p,ρ,rfl,R1,S.mono R e1,Ps.bd h1 λq ws vs e2 R2 r2 h2=>?_);rcases ws with _|⟨w',_|⟨_,_⟩⟩
  exact h2.elim
  .unfold bu at h2;cases e:q.h[j]? with
   |none=>simp only[e]at h2;exact h2.elim
   |some b=>
    cases b with
    |lst l'=>
     simp only[e]at h2;let(v,rfl,r):=r2.one;let(us,k1,k2):=R2.ob j _ e;by_cases z:⇑l'<sizeLine
     .rw[bf z]at h2;rw[e2.mu j hlt]at k1;refine(p.mu j,us,v,rfl,rfl,k1,by rw[k2.len];exact z,?_);have:=Ps.at (p:=q.put j (.lst<|l'++[w'])<|.lst<|us++[v]) (b:=V.non) h2 rfl (Ex.put e ⇑_) (R2.putL e ⇑_ (k2.app<|Rvs.cons r Rvs.nil))<|QJ.mpr rfl;have em:q.mu j=p.mu j:=e2.mu j hlt;have ew:(q.put j (.lst<|l'++[w'])<|.lst<|us++[v]).H=upd q.H (p.mu j) (.lst<|us++[v]):=by show upd q.H (q.mu j) _=_;rw[em]
      rw[ew]at this;exact this
     rw[aZ z]at h2;exact h2.elim
    |_=>simp only[e]at h2;exact h2.elim
  exact h2.elim
noncomputable def Od (w:W):M W:=match w with
 |.loc k=>λh=>match h[k]? with|some (.lst l)=>.ok (.tl l) (h.set k .gone)|some (.dic ks ws)=>.ok (.dv ks ws) (h.set k .gone)|some (.din b ks ws)=>.ok (.dn b ks ws) (h.set k .gone)|_=>.bad
 |w=>pr w
set_option tactic.hygienic true in
def CJ {f:MG->M W}(h:tM (cg X E) (m1 Od f) σ H Q):tM (cg X E) f σ H Q:=by
 ac_nf;cases x with
 |loc k=>
  unfold Rv at r1;let(_,rfl):=r1;unfold Od at h1;dsimp only at h1;split at h1;rename_i l hl;exact Ps.at (p:=p.ice k) h1 rfl Ex.ice R1.ice<|Rv.iceL R1 hl;rename_i ks ws hl;exact Ps.at (p:=p.ice k) h1 rfl Ex.ice R1.ice<|Rv.iceD R1 hl;rename_i b ks ws hl;exact Ps.at (p:=p.ice k) h1 rfl Ex.ice R1.ice<|Rv.iceN R1 hl;exact h1.elim
 |_=>exact Ps.pr (c:=cg X E) h1 R1 r1
def sJ {f:MG->M W}(h:JE X E e f):JE X E e (m1 Od f):=h.h.imp λJ J J q=>CJ q
noncomputable def Po {κ:Type} [DecidableEq κ]:↑κ->↑W->κ->W->↑W
 |k::ks,w::ws,x,y=>(if k=x then y else w)::Po ks ws x y
 |_,_,_,_=>[]
noncomputable def Qu {κ:Type} [DecidableEq κ] (ks:↑κ)(ws:↑W)(x:κ)(y:W):↑κ×↑W:=if (ks.any λk=>decide<|k=x)=true then (ks ,Po ks ws x y) else (ks++[x] ,ws++[y])
noncomputable def oz (x i v:W):M Unit:=match x with
 |.loc k=>λh=>match h[k]? with
  |some (.lst l)=>match i with
   |.int n=>match ixN ⇑l n with|some j=>.ok () (h.set k<|.lst<|l.set j v)|none=>.bad
   |_=>.bad
  |some (.dic ks ws)=>match OH i with|some q=>if ⇑ks<sizeLine then .ok () (h.set k<|.dic (Qu ks ws q v).1 (Qu ks ws q v).2) else .bad|none=>.bad
  |some (.dit ks ws)=>match i with|.kt q=>if ⇑ks<sizeLine then .ok () (h.set k<|.dit (Qu ks ws q v).1 (Qu ks ws q v).2) else .bad|_=>.bad
  |_=>.bad
 |_=>no
noncomputable def rSetD:M0:=λo i v H Q=>∃a H',o=.ref a/\DPut H a i v H'/\Q H'
def xo (hu:X.A.units+1<Lg):PSet X rSetD:=by intro gV s σ H o i v ov iv u Q I ro ri rv h;let(a,H',rfl,g,q):=h;cases ro;exact wB hu I g ri rv λs4 I4=>(H',I4,q)
def PSet.or (h:PSet X t)(h':PSet X t'):PSet X (λo i v H Q=>t o i v H Q\/t' o i v H Q):=by
 intro gV s σ H o i v ov iv u Q I ro ri rv q;rcases q with q|q
 exact h gV s σ H o i v ov iv u Q I ro ri rv q;exact h' gV s σ H o i v ov iv u Q I ro ri rv q
theorem qE {κ:Type} [DecidableEq κ] {K:Zf}{o:Wo}{x:κ}{y:W}{v:V}(hy:Rv K o y v):∀ {ks:↑κ}{ws:↑W}{kvs:↑(κ×V)},kvs.map (·.1)=ks->Rvs K o ws (kvs.map (·.2))->Rvs K o (Po ks ws x y) ((kvs.map λkv=>if kv.1=x then (kv.1 ,v) else kv).map (·.2))
 |_,ws,[],e,h=>by subst e;unfold Po;exact Rvs.nil
 |_,ws,(k ,u)::r,e,h=>by
  subst e;cases ws with
  |nil=>unfold Rvs at h;cases h
  |cons w ws=>
   unfold Rvs at h;let(u',r',e',h1,h2):=h;cases e';have ih:=qE (x:=x) hy (ks:=r.map (·.1)) (ws:=ws) (kvs:=r) rfl h2;show Rvs K o ((if k=x then y else w)::Po (r.map (·.1)) ws x y) ((if k=x then (k ,v) else (k ,u)).2::_);by_cases z:k=x;rw[bf z,bf z];exact Rvs.cons hy ih;rw[aZ z,aZ z];exact Rvs.cons h1 ih
def oO {κ:Type} [DecidableEq κ] {K:Zf}{o:Wo}{x:κ}{y:W}{v:V}{ks:↑κ}{ws:↑W}{kvs:↑(κ×V)}(hy:Rv K o y v)(hk:kvs.map (·.1)=ks)(h:Rvs K o ws (kvs.map (·.2))):
  (Qs kvs x v).map (·.1)=(Qu ks ws x y).1/\Rvs K o (Qu ks ws x y).2 ((Qs kvs x v).map (·.2)):=by
 subst hk;have ea:((kvs.map (·.1)).any λk=>decide<|k=x)=(kvs.any λkv=>decide<|kv.1=x):=by rw[JB];rfl
 unfold Qs Qu;rw[ea];by_cases z:(kvs.any λkv=>decide<|kv.1=x)=true;rw[bf z,bf z];refine(?_,qE hy rfl h);rw[HG];refine Ih λkv J=>?_;show (if kv.1=x then (kv.1 ,v) else kv).1=kv.1;split<;>rfl;rw[aZ z,aZ z];refine(⇑_,?_);show Rvs K o (ws++[y]) ((kvs++[(x ,v)]).map (·.2));rw[Hh];exact h.app<|Rvs.cons hy Rvs.nil
noncomputable def aO (fo fi fv:MG->M W):MG->M Fl:=λρ=>bd (fv ρ) λv=>bd (fo ρ) λx=>bd (fi ρ) λi=>bd (oz x i v) λJ=>pr<|.nx ρ
variable {i value:Expr}{tpos:LF}{fi fv:MG->M W}
def yy (hu:X.A.units+1<Lg)(ho:JE X E o fo)(hi:JE X E i fi)(hv:JE X E value fv)
  (ha:∀v ,assign (.Subscript o i tpos) X.env v=(do
   let ov<-LN [v] (LD o X.env);let iv<-LN [v,ov] (LD i X.env)
   LM tpos
   LN [v,ov,iv] (setItem ov iv v)
   release [v,ov,iv] []))
  (hs:swapsWithSole [.Subscript o i tpos] value pos.line X.env=pure false)(hw:swappedStores [.Subscript o i tpos] value X.env=pure none)
  (h1:(LP [.Subscript o i tpos] X.env).map (·.2)=[assign (.Subscript o i tpos) X.env]):JS X E (.Assign [.Subscript o i tpos] value pos) (aO fo fi fv):=
 (xE hv.h (xM ho.h hi.h (Rn.or<|xo hu) ha) hs hw h1).imp λD σ H h=>by
  let(w,ρ,rfl,R,S,h):=h;refine(w,ρ,rfl,R,S,Ps.bd h λp v vv e1 R1 r1 h1=>(p,ρ,rfl,R1,S.mono R e1,Ps.bd h1 λq x vx e2 R2 r2 h2=>(q,ρ,rfl,R2,(S.mono R e1).mono R1 e2,Ps.bd h2 λs i vi e3 R3 r3 h3=>?_)));have S3:=((S.mono R e1).mono R1 e2).mono R2 e3;have rv:=(r1.mono R1 e2).mono R2 e3;have rx:=r2.mono R2 e3;cases x with
  |loc k=>
   unfold Rv at rx;let(hk,rfl):=rx;unfold oz bd at h3;cases e:s.h[k]? with
   |none=>simp only[e]at h3;exact h3.elim
   |some b=>
    cases b with
    |ins c ns ws=>simp only[e]at h3;exact h3.elim
    |din b ks ws=>simp only[e]at h3;exact h3.elim
    |gone=>simp only[e]at h3;exact h3.elim
    |lst l=>
     simp only[e]at h3;cases i with
     |int n=>
      simp only at h3;cases ej:ixN ⇑l n with
      |none=>simp only[ej]at h3;exact h3.elim
      |some j=>
       simp only[ej]at h3;let(us,k1,k2):=R3.ob k _ e;refine .inl (_,us,n,j,rfl,QI.mp r3,k1,by rw[k2.len];exact ej,?_);exact Ps.at (p:=s.put k (.lst<|l.set j v)<|.lst<|us.set j vv) (b:=FlV.nx σ) h3 rfl (Ex.put e ⇑_) (R3.putL e ⇑_ (k2.set rv j)) (σ,rfl,S3.mono R3<|Ex.put e ⇑_)
     |_=>exact h3.elim
    |dit ks ws=>
     simp only[e]at h3;cases i with
     |kt x=>
      simp only at h3;by_cases z:⇑ks<sizeLine;simp only[bf z]at h3;let(kvs,k1,k2,k3):=R3.ob k _ e;unfold Rv at r3;let(b,rfl,hb):=r3;let(b1,b2):=oO (x:=x) rv k2 k3;refine .inr (_,_,rfl,.inr (kvs,x,b,k1,rfl,hb,by rw[<-k2,Hb]at z;exact z,rfl),?_);exact Ps.at (p:=s.put k (.dit (Qu ks ws x v).1 (Qu ks ws x v).2)<|.dT<|Qs kvs x vv) (b:=FlV.nx σ) h3 rfl (Ex.put e ⇑_) (R3.putT e ⇑_ b1 b2) (σ,rfl,S3.mono R3<|Ex.put e ⇑_);simp only[aZ z]at h3;exact h3.elim
     |_=>exact h3.elim
    |dic ks ws=>
     simp only[e]at h3;cases ej:OH i with
     |none=>simp only[ej]at h3;exact h3.elim
     |some x=>
      simp only[ej]at h3;by_cases z:⇑ks<sizeLine;simp only[bf z]at h3;let(kvs,k1,k2,k3):=R3.ob k _ e;rw[ju ej r3];let(b1,b2):=oO (x:=x) rv k2 k3;refine .inr (_,_,rfl,.inl (kvs,x,k1,rfl,by rw[<-k2,Hb]at z;exact z,rfl),?_);exact Ps.at (p:=s.put k (.dic (Qu ks ws x v).1 (Qu ks ws x v).2)<|.dK<|Qs kvs x vv) (b:=FlV.nx σ) h3 rfl (Ex.put e ⇑_) (R3.putD e ⇑_ b1 b2) (σ,rfl,S3.mono R3<|Ex.put e ⇑_);simp only[aZ z]at h3;exact h3.elim
  |_=>exact h3.elim
end
end
section
noncomputable def QF (n:Nat)(g:MG->M Fl)(ws:↑W):M W:=bd (g<|ws.map some++List.replicate (n-⇑ws) none) λx=>match x with|.rt w=>pr w|.nx _=>pr .non|_=>no
section
variable {P:K8}{w:K9}{K:Zf}{mg:Str->Option K5}{base:La}{x qual:Str}{st:LI}{f:Lb}{fd:L5}{N ps:↑Str}{k:Nat}{g:MG->M Fl}
noncomputable def RF (K:Zf)(mg:Str->Option K5)(n:Nat)(f:↑W->M W):Sp:=λvs H Q J=>∃o ws,o.H=H/\⇑ws=n/\Rel K o/\Rvs K o ws vs/\Ps (K,mg,E0) (Rv K) o (f ws o.h) Q
def Cl {n m:Nat}{fn:↑W->M W}(F:Fun K x qual st f fd)(S:MH N ps (ae st))(hn:N.length=n)(hm:⇑ps=m)(hf:fn=QF n g)
  (hb:∀ (cdv:K5) (A:Lf) (outer:↑Env) (s:Ld) (H:Hp) (E:XK) ,Room k (A.deeper<|Ma qual (ae st) ↥s f cdv)->JSs (Nx CX0 P w K mg base N qual (ae st) f cdv A outer s H E).nox E0 (bM st) g):
  FnOk P w K mg base CX0 (k+1) f fd ps (RF K mg m fn):=by
 subst hn hm hf;refine F.ok S (λvs H Q E h=>?_) (λcdv A outer s H vs Q E hr h=>?_);let(o,ws,_,hl,_,rv,_):=h;rw[rv.len,hl]
 .let(o,ws,rfl,hl,R,rv,h):=h;refine(_,(hb cdv A outer s o.H E hr).h,?_);have e:RP N vs=vs.map some++List.replicate (N.length-⇑ws) none:=by unfold RP;rw[rv.len]
  rw[e];refine(o,_,rfl,R,Re.args _ rv,Ps.bd h λp x b e1 R1 r1 h1=>?_);cases x with|rt w=>let(v,rfl,r):=r1;exact h1.pr R1 r|nx r=>let(s,rfl,r):=r1;exact h1.pr R1 (QJ.mpr rfl)|bk r=>exact h1.elim|ct r=>exact h1.elim
def EQ {m:Nat}{fn:↑W->M W}(h:∀ws h ,fn ws h=.bad):FnOk P w K mg base CX0 k f fd ps (RF K mg m fn):=by
 have no:∀vs H Q E,¬RF K mg m fn vs H Q E:=λvs H Q E (o,ws,_,_,_,_,q)=>by rw[h]at q;exact q
 exact(λvs H Q E h=>absurd h<|no vs H Q E,λA outer s H args us vs Q E J J J J h=>absurd h<|no vs H Q E)
structure CG (P:K8)(w:K9)(K:Zf)(mg:Str->Option K5)(base:La)(k:Nat)(x:Str)(f:Lb)(fd:L5)(ps:↑Str)(m:Nat)(fn:↑W->M W):Prop where
 ok:FnOk P w K mg base CX0 k f fd ps (RF K mg m fn)
 bi:Binds K fd ps []
 kp:K2 K (.ref f)=true
 mg:mg x=some (.ref f)
end
noncomputable def arW (n:Nat)(f:↑W->M W)(ws:↑W):M W:=if ⇑ws=n then f ws else no
section
variable {X:Cx}{p pos:LF}{e:Expr}{es:↑Expr}{l:MG->M ↑W}{f:↑W->M W}{k:Nat}{fA:Lb}{fd:L5}{ps:↑Str}{x:Str}
def Gj {m:Nat}(C:CG X.prog X.w X.K X.mg X.base k x fA fd ps m f)(hr:Room k X.A)(ha:JA X E0 (e::es) l)(hg:Gl X x)
  (hdb:(x==("__debug__":Str))=false)(he:LH (e::es) X.env=(false ,LD e X.env)::LH es X.env)(hpl:(LG pos<|LH es X.env).any (·.1)=false):
  JE X E0 (.Call (.Name x p) (e::es) [] pos) (O5 (arW m f) l):=(dF C.ok hr hg C.mg C.kp C.bi .nil Qc ha.h hdb he hpl).imp λσ H Q h=>by
 ac_nf;unfold arW at h1;by_cases z:⇑x=m;rw[bf z]at h1;exact(p,x,rfl,z,R1,by rw[HL];exact r1,h1);rw[aZ z]at h1;exact h1.elim
end
section
variable {X:Cx}{E:XK}{p pos:LF}
noncomputable def PH (n:Int):↑W->↑W
 |[]=>[]
 |w::l=>.tup [.int n,w]::PH (n+1) l
theorem gZ:∀ (l:↑W) (n:Int),⇑(PH n l)=⇑l|[],_=>rfl|w::l,n=>by rw[PH,Hf,Hf,gZ l]
theorem g0:∀ (l:↑W) (n:Int) (i:Nat) (w:W),(PH n l)[i]?=`w->∃x,l[i]?=`x/\w=.tup [.int<|n+i,x]|[],_,_,_,h=>by simp [PH]at h|x::l,n,0,w,h=>by rw[PH]at h;cases h;exact(x,rfl,⇑_)|x::l,n,i+1,w,h=>by rw[PH,Jz]at h;let(y,e1,e2):=g0 l (n+1) i w h;exact(y,by simpa using e1,by rw[e2];congr 3;omega)
noncomputable def NE (ws:↑W):M Sr:=match ws with|[w]=>bd (RM w) λs=>pr (PH 0 s.l,s.G)|_=>no
def ua {α β:Type}{r:Wo->α->β->Prop}{w:W}{k:Sr->M α}{Q:β->Hp->Prop}(R:Rel X.K o)(hr:Rv X.K o w v)(h:Ps (cg X E) r o (bd (RM w) k o.h) Q):
  ∃s a,v=.ref a/\(∃vs ,SqL X.K o.H a vs)/\(∀p ,Ex o p->Rel X.K p->s.G p.h->∃vs,SqL X.K p.H a vs/\Rvs X.K p s.l vs)/\Ps (cg X E) r o (k s o.h) Q:=by
 cases w with
 |tl l=>
  unfold Rv at hr;let(a,vs,rfl,s,n,r):=hr;exact((l,λJ=>True),a,rfl,(vs,.of s),λp X J J=>(vs,.of (X.fr a _ s n).1,r.mono R X),h)
 |cl l=>
  unfold Rv at hr;let(a,vs,rfl,s,r):=hr;have sq:∀q,Ex o q->SqL X.K q.H a vs:=λq X=>by
   rcases s with⟨s,n⟩|s
   exact .inl (X.rd s n).1;exact .inr s
  exact((l,λJ=>True),a,rfl,(vs,sq o<|Ex.refl _),λp X J J=>(vs,sq p X,r.mono R X),h)
 |loc j=>
  unfold Rv at hr;let(hj,rfl):=hr;unfold RM bd at h;cases e:o.h[j]? with
  |none=>simp only[e]at h;exact h.elim
  |some b=>
   cases b with
   |lst l=>
    simp only[e]at h;let(vs,h1,h2):=R.ob j _ e;refine((l,λh=>h[j]?=some (.lst l)),_,rfl,(vs,.of h1),λp X Rp g=>?_,h);let(vs',h5,h6):=Rp.ob j _ g;rw[X.mu j hj]at h5;exact(vs',.of h5,h6)
   |_=>simp only[e]at h;exact h.elim
 |_=>exact h.elim
def A5 {x1}{fl:MG->M ↑W}(hm:X.mg "enumerate"=none)(ha:JA X E [a] fl)(hg:Gl X "enumerate")(hs:LH [a] X.env=[(false ,LD a X.env)]):
  JI X E (.Tuple elts x1 tpos) (.Call (.Name "enumerate" p) [a] [] pos) (Pk fl NE):=(Aw hg hm ha.h hs).imp λσ H Q h=>by
 ac_nf;rcases x with _|⟨w,_|⟨_,_⟩⟩
 exact h1.elim
 .have h1:Ps (cg X E) (λp s J=>MZ X.K p J s) p (bd (RM w) (λs=>pr (PH 0 s.l,s.G)) p.h) Q:=h1;let(v,rfl,r):=r1.one;let(s,a,rfl,hq,sk,h1):=ua R1 r h1;refine(a,rfl,hq,h1.pr R1 (λo X R g=>?_,λo i w X R g e=>?_));let(vs,k1,k2):=sk o X R g;exact(vs,k1,by rw[k2.len];exact (gZ _ _).symm)
  .let(vs,k1,k2):=sk o X R g;let(x,e1,rfl):=g0 _ _ _ _ e;let(v,hv,rv):=k2.get e1;refine((vs,v,k1,hv),λy H' q=>?_);let(T,z,hT,rfl,hz,rfl):=q;have:z=v:=by have:=hz vs k1;rw[hv]at this;exact (Option.some.inj this).symm
   subst this;refine((o.mu,o.h,upd o.H T<|.tup [.int i,z]),rfl,rfl,Ex.new hT,R.new hT,Rv.newT R hT<|Rvs.cons (QI.mpr ⇑_)<|Rvs.cons rv Rvs.nil)
 exact h1.elim
end
end
section
section
variable {b:Expr}
def Rv.addLoc {K:Zf}{o:Wo}{q:Lb}{b:Ob}{u:HO}:Rv K (o.add q b u) (.loc ⇑o.h) (.ref q):=by unfold Rv;exact(by show _<⇑(o.h++[b]);simp,by show V.ref q=V.ref (if ⇑o.h=⇑o.h then q else _);rw[bf rfl])
end
end
section
section
variable {X:Cx}{E:XK}{p pos:LF}{a b c:Expr}{fa fb fc:MG->M W}
noncomputable def aM (f g:W->W->M W)(fa fb fc:MG->M W):MG->M W:=λρ=>bd (fa ρ) λx=>bd (fb ρ) λy=>bd (f x y) λz=>bd (asB z) λk=>if k=true then bd (fc ρ) λw=>g y w else pr (.bl false)
def w9 {f g:W->W->M W}(hf:∀ (o:Wo) (x y:W) (vx vy:V) (Q:VK) ,Rel X.K o->Rv X.K o x vx->Rv X.K o y vy->Ps (cg X E) (Rv X.K) o (f x y o.h) Q->r vx vy o.H Q)(hg:OpM X E r' g)(h:tM (cg X E) (aM f g fa fb fc) σ H Q):xa r r' (tM (cg X E) fa) (tM (cg X E) fb) (tM (cg X E) fc) σ H Q:=by
 let(o,ρ,rfl,R,S,h):=h;refine(o,ρ,rfl,R,S,Ps.bd h λp x vx e1 R1 r1 h1=>(p,ρ,rfl,R1,S.mono R e1,Ps.bd h1 λq y vy e2 R2 r2 h2=>hf q x y vx vy _ R2 (r1.mono R1 e2) r2<|Ps.bd h2 λs z vz e3 R3 r3 h3=>?_));let(k,rfl,rfl,h3):=zO r3 h3;refine(k,rfl,?_);cases k with|false=>exact Ov (h3.pr R3<|QH.mpr rfl)|true=>exact Ow (s,ρ,rfl,R3,((S.mono R e1).mono R1 e2).mono R2 e3,Ps.bd h3 λu w vw e4 R4 r4 h4=>hg u y w vy vw Q R4 ((r2.mono R2 e3).mono R3 e4) r4 h4)
def yw {f g:W->W->M W}(ho:OpR X (LK op) r)(hf:OpM X E r f)(ho':OpR X (LK op') r')(hg:OpM X E r' g)(ha:JE X E a fa)(hb:JE X E b fb)(hc:JE X E c fc)
 (hm:lastMarks [op,op'] [b,c]=false):JT X E (.Compare a [op,op'] [b,c] pos) (mB<|aM f g fa fb fc):=(xD ho ho' ha.h hb.h hc.h hm).imp λJ J J h=>w9 hf hg<|CK h
end
section
variable {es:↑Expr}{env:Env}{pos:LF}
def DN:(LG pos<|LH [] env).any (·.1)=false:=by rfl
def AN (hs:LH (e::es) env=(false ,LD e env)::LH es env)(h:(LG pos<|LH es env).any (·.1)=false):(LG pos<|LH (e::es) env).any (·.1)=false:=by rw[hs];show ((false||(LG pos<|LH es env).any (·.1)):Bool)=false;rw[h];rfl
end
section
variable {P:K8}{w:K9}{K:Zf}{mg:Str->Option K5}{base:La}{f:Lb}{fd:L5}{ps:↑Str}{k:Nat}{sp:Sp}
def zf (F:FnOk P w K mg base (CXx P w) k f fd ps sp)(h:∀vs H Q E ,sp' vs H Q E->sp vs H Q E0):FnOk P w K mg base CX0 k f fd ps sp':=
 (λvs H Q E q=>F.len vs H Q E0<|h _ _ _ _ q,λA outer s H args us vs Q E hr he hb hv hs=>L6 (F.run A outer s H args us vs Q E0 hr he hb hv<|h _ _ _ _ hs) λr s' q=>by
  cases r with
  |ok fl=>cases fl<;>exact q
  |error e=>
   let(_,_,_,_,_,_,_,_,_,_,_,_,_,_,z):=q
   exact z.elim)
def pY {ws:↑W}(R:Rel K o)(g:Same o.H H')(hv:Rv K (o.mu,o.h,H') wv v)(h:Ps (K,mg,E0) (Rv K) o (pr wv o.h) Q):Q v H':=
 Ps.at (p:=(o.mu,o.h,H')) h rfl (Ex.same g) (R.same g) hv
end
end
section
section
variable {X:Cx}{E:XK}{p pos:LF}{a b:Expr}{l:MG->M ↑W}
variable {x:Str}{m:Nat}
noncomputable def Nm (fa fb:MG->M W):MG->M ↑W:=λρ=>bd (fa ρ) λx=>bd (fb ρ) λy=>bd (O0 x) λa=>bd (O0 y) λb=>gd (⇑a+⇑b<=sizeLine)<|pr<|a++b
def D7 {fa fb:MG->M W}(ha:JE X E a fa)(hb:JE X E b fb):JF X E (.BinOp a .Add b pos) (Nm fa fb):=(ut xY ha.h hb.h).impF λσ H Q h=>by let(o,ρ,rfl,R,S,h):=h;refine(o,ρ,rfl,R,S,Ps.bd h λp x vx e1 R1 r1 h1=>(p,ρ,rfl,R1,S.mono R e1,Ps.bd h1 λq y vy e2 R2 r2 h2=>?_));let(l,a,vs,rfl,s1,r3,h3):=eK R2 (r1.mono R1 e2) h2;let(m,b,us,rfl,s2,r4,h4):=eK R2 r2 h3;let(hz,h4):=h4.gd;exact(a,b,vs,us,rfl,rfl,s1,s2,by rw[r3.len,r4.len];exact hz,h4.pr R2<|r3.app r4)
end
end
end L2
namespace L2
open PySem
def eI {α β:Type}{f:M α}{g:α->M β}{a:α}(e:f h=.ok a h'):bd f g h=g a h':=by unfold bd;rw[e]
@[simp] def bd_pr {α β:Type}(a:α)(g:α->M β):bd (pr a) g=g a:=rfl
@[simp] def bd_no {α β:Type}(g:α->M β):bd (no:M α) g=no:=rfl
def ag {α:Type}{p:Prop} [Decidable p] {m:M α}(hp:p):gd p m=m:=by funext h;unfold gd;rw[bf hp]
@[simp] def addW_int (i j:Int):M8 (.int i) (.int j)=pr (.int<|i+j):=rfl
def zR {a b:Str}(h:⇑a+⇑b<=sizeLine):M8 (.str a) (.str b)=pr (.str<|a++b):=by unfold M8;exact ag h
@[simp] def subW_int (i j:Int):RV (.int i) (.int j)=pr (.int<|i-j):=ag trivial
def jo {i j:Int}(h:Mx i j):Pu (.int i) (.int j)=pr (.int<|i*j):=by unfold Pu;exact ag h
def yu {i j:Int}(h1: -(2^64)<i)(h2:i<2^64):Mx i j:=.inl<|.inl (h1,h2)
def yt {i j:Int}(h1: -(2^64)<j)(h2:j<2^64):Mx i j:=.inl<|.inr (h1,h2)
def cy {i j:Int}(h1:0<j)(h2:j<2^200):NP (.int i) (.int j)=pr (.int<|i / j):=ag (h1,h2)
def am {i j:Int}(h1:0<j):Pq (.int i) (.int j)=pr (.int<|i%j):=ag h1
def lC {i j:Int}(h:My i j):Ql (.int i) (.int j)=pr (.int<|i^j.toNat):=ag h
@[simp] def ltW_int (i j:Int):ltW (.int i) (.int j)=pr (.bl<|decide<|i<j):=ag trivial
@[simp] def leW_int (i j:Int):leW (.int i) (.int j)=pr (.bl<|decide<|i<=j):=ag trivial
@[simp] def gtW_int (i j:Int):gtW (.int i) (.int j)=pr (.bl<|decide<|j<i):=ag trivial
@[simp] def geW_int (i j:Int):geW (.int i) (.int j)=pr (.bl<|decide<|j<=i):=ag trivial
@[simp] def asB_bl (b:Bool):asB (.bl b)=pr b:=rfl
@[simp] def eqW_int (i j:Int):eqW (.int i) (.int j)=pr (.bl<|decide<|i=j):=by funext h;show Rs.ok (W.bl<|decide<|V.int i=V.int j) h=Rs.ok (W.bl<|decide<|i=j) h;congr 2;rw[decide_eq_decide];exact(V.int.inj,congrArg _)
@[simp] def eqW_str (i j:Str):eqW (.str i) (.str j)=pr (.bl<|decide<|i=j):=by funext h;show Rs.ok (W.bl<|decide<|V.str i=V.str j) h=Rs.ok (W.bl<|decide<|i=j) h;congr 2;rw[decide_eq_decide];exact(V.str.inj,congrArg _)
@[simp] def neW_int (i j:Int):neW (.int i) (.int j)=pr (.bl<|!decide (i=j)):=by funext h;show Rs.ok (W.bl<|!decide (V.int i=V.int j)) h=Rs.ok (W.bl<|!decide (i=j)) h;congr 3;rw[decide_eq_decide];exact(V.int.inj,congrArg _)
@[simp] def neW_str (i j:Str):neW (.str i) (.str j)=pr (.bl<|!decide (i=j)):=by funext h;show Rs.ok (W.bl<|!decide (V.str i=V.str j)) h=Rs.ok (W.bl<|!decide (i=j)) h;congr 3;rw[decide_eq_decide];exact(V.str.inj,congrArg _)
@[simp] def neW_bl (i j:Bool):neW (.bl i) (.bl j)=pr (.bl<|!decide (i=j)):=by funext h;show Rs.ok (W.bl<|!decide (V.bl i=V.bl j)) h=Rs.ok (W.bl<|!decide (i=j)) h;congr 3;rw[decide_eq_decide];exact(V.bl.inj,congrArg _)
def cv {i:Int}{w:W}(h:atI l i=`w):ixW (.tl l) (.int i)=pr w:=by funext hh;unfold ixW;have:ixO (.tl l) (.int i) hh=`w:=h;rw[this];rfl
def f8 {i:Int}{w:W}(h:atI l i=`w):ixW (.tup l) (.int i)=pr w:=by funext hh;unfold ixW;have:ixO (.tup l) (.int i) hh=`w:=h;rw[this];rfl
@[simp] def slW_tl (l:↑W)(lo hi:Option Int):slW (.tl l) lo hi=pr (.tl<|Nv l lo hi):=rfl
@[simp] def slW_cl (l:↑W)(lo hi:Option Int):slW (.cl l) lo hi=pr (.tl<|Nv l lo hi):=rfl
@[simp] def lenW_tl (l:↑W):OT [.tl l]=pr (.int ⇑l):=rfl
@[simp] def lenW_tup (l:↑W):OT [.tup l]=pr (.int ⇑l):=rfl
def zQ {n:Nat}{f:↑W->M W}{ws:↑W}(h:⇑ws=n):arW n f ws=f ws:=bf h
def xf {i:Int}(h:i.natAbs.log2<1920):RU [.int i]=pr (.str<|toString i):=ag h
def g7 {α:Type}(f:α->W)(l:↑α)(d:α){i:Int}(h0:0<=i)(h:i<⇑l):atI (l.map f) i=some (f<|l.getD i.toNat d):=by have hi:i.toNat<⇑l:=∅;have e:atI (l.map f) ((i.toNat:Nat):Int)=some (f<|l.getD i.toNat d):=jG (by rw[Hl,Hw hi,HR,Hw hi];rfl);have e2:((i.toNat:Nat):Int)=i:=∅;rw[e2]at e;exact e
def bp {α:Type}{xs:↑α}{i:Int}{v:α}(h0:0<=i)(h:xs[i.toNat]?=`v):atI xs i=`v:=by have q:=jG h;have e:((i.toNat:Nat):Int)=i:=∅;rw[e]at q;exact q
noncomputable def NR:Fl->M W:=λx=>match x with|.rt w=>pr w|.nx _=>pr .non|_=>no
def gdn0 {α:Type}(m:M α):gd (0<=sizeLine) m=m:=ag ↥_
def gdn1 {α:Type}(m:M α):gd (0+1<=sizeLine) m=m:=ag ↥_
def gdn2 {α:Type}(m:M α):gd (0+1+1<=sizeLine) m=m:=ag ↥_
def gdn3 {α:Type}(m:M α):gd (0+1+1+1<=sizeLine) m=m:=ag ↥_
def gdn4 {α:Type}(m:M α):gd (0+1+1+1+1<=sizeLine) m=m:=ag ↥_
def gdn6 {α:Type}(m:M α):gd (0+1+1+1+1+1+1<=sizeLine) m=m:=ag ↥_
def gdn8 {α:Type}(m:M α):gd (0+1+1+1+1+1+1+1+1<=sizeLine) m=m:=ag ↥_
def gdn10 {α:Type}(m:M α):gd (0+1+1+1+1+1+1+1+1+1+1<=sizeLine) m=m:=ag ↥_
def aj {src:MG->M Sr}{t:W->MG->Option MG}{f:MG->M Bool}{e:MG->M W}{n:Nat}:O6 [] src t f e n ρ=bd (src ρ) λs=>gd (⇑s.l<=sizeLine) (Nr s.G t f e n s.l ρ):=by unfold O6;exact ag rfl
section
theorem qX {t:W->MG->Option MG}{f:MG->M Bool}{e:MG->M W}{n:Nat}{b:W->Bool}{v:W->W}:∀ {l:↑W},(∀w∈l ,∃r,t w (List.replicate n none++ρ)=`r/\f r=pr (b w)/\(b w=true->e r=pr (v w)))->Nr (λJ=>True) t f e n l ρ=pr ((l.filter b).map v)
 |[],_=>by unfold Nr;rw[qM];rfl
 |w::l,h=>by
  let(r,h1,h2,h3):=h w Hi;have ih:=qX (l:=l) λx hx=>h x<|Ht _ hx;unfold Nr;rw[qM,h1];dsimp only;rw[h2,bd_pr];by_cases hb:b w=true;rw[bf hb,h3 hb,bd_pr,ih,bd_pr,KF hb];rfl;rw[aZ hb,ih,Ka hb]
theorem jj {α:Type}{f:W->Option α}{g:α->W}(hf:∀a ,f (g a)=`a):∀l:↑α,P6 f (l.map g)=`l
 |[]=>rfl
 |a::l=>by
  show (match f (g a) ,P6 f (l.map g) with
   |some b,some r=>some (b::r)
   |_,_=>none)=_
  rw[hf,jj hf l]
theorem cF {β:Type}{α:Type}{f:W->Option β}{g:α->W}{k:α->β}(hf:∀a ,f (g a)=some (k a)):∀l:↑α,P6 f (l.map g)=some (l.map k)
 |[]=>rfl
 |a::l=>by
  show (match f (g a) ,P6 f (l.map g) with
   |some b,some r=>some (b::r)
   |_,_=>none)=_
  rw[hf,cF hf l];rfl
theorem d5 {α:Type}{g:α->W}{k:α->V}(hf:∀a ,vOf (g a)=some (k a)):∀l:↑α,Sl (l.map g)=some (l.map k)
 |[]=>rfl
 |a::l=>by
  show (match vOf (g a) ,Sl (l.map g) with
   |some v,some vs=>some (v::vs)
   |_,_=>none)=_
  rw[hf,d5 hf l];rfl
def yW {sep:Str}{ts:↑Str}(h:(ts.map (·.length)).sum+⇑ts*⇑sep<=sizeLine):OC (.str sep) [.tl<|ts.map W.str]=pr (.str<|Str.join sep ts):=by
 have e:OC (.str sep) [.tl<|ts.map W.str]=(match P6 sOf (ts.map W.str) with
  |some (ts:↑Str)=>gd ((ts.map (λz:Str=>⇑z)).sum+⇑ts*⇑sep<=sizeLine) (pr<|W.str<|Str.join sep ts)
  |none=>no):=rfl
 rw[e,jj (f:=sOf) (g:=W.str)<|λa=>rfl];exact ag h
def wy (h1:P6 (Ny h 49) l=`ds)(h2:P6 (Ny h 49) m=`es)(c1:Mn.canLayAll0 ds=true)(c2:Mn.canLayAll0 es=true):eqB (.tl l) (.tl m) h=some (Mn.eqvAll ds es):=by
 show (match (P6 (Ny h 49) l).map Mn.list ,(P6 (Ny h 49) m).map Mn.list with
  |some d,some e=>if d.canLay0=true/\e.canLay0=true then some (Mn.eqv d e) else none
  |_,_=>none)=_
 rw[h1,h2];show (if (Mn.list ds).canLay0=true/\(Mn.list es).canLay0=true then some (Mn.eqv (.list ds)<|.list es) else none)=_;rw[bf (by rw[Mn.canLay0];exact c1,by rw[Mn.canLay0];exact c2),Mn.eqv]
def sZ {b:Bool}(h:∀h ,eqB x y h=`b):eqW x y=pr (.bl b):=by funext hh;unfold eqW;rw[h];rfl
def DP {b:Bool}(h:∀h ,eqB x y h=`b):neW x y=pr (.bl<|!b):=by funext hh;unfold neW;rw[h];rfl
mutual
theorem zi:∀d:Mn,d.canLay0=true->Mn.eqv d d=true|.none,_=>by rw[Mn.eqv]|.bool b,_=>by rw[Mn.eqv];simp|.int b,_=>by rw[Mn.eqv];simp|.str b,_=>by rw[Mn.eqv];simp|.list l,h=>by rw[Mn.eqv];exact eX l (by rw[Mn.canLay0]at h;exact h)|.tuple l,h=>by rw[Mn.eqv];exact eX l (by rw[Mn.canLay0]at h;exact h)|.dict l,h=>by rw[Mn.canLay0]at h;cases h
theorem eX:∀l:↑Mn,Mn.canLayAll0 l=true->Mn.eqvAll l l=true|[],_=>by rw[Mn.eqvAll]|d::l,h=>by rw[Mn.canLayAll0,HD]at h;rw[Mn.eqvAll,zi d h.1,eX l h.2];rfl
end
theorem zB {α:Type}{k:α->Mn}:∀ (l:↑α),(∀a∈l ,(k a).canLay0=true)->Mn.canLayAll0 (l.map k)=true|[],_=>by rw[HM,Mn.canLayAll0]|a::l,h=>by rw[Hg,Mn.canLayAll0,h a Hi,zB l λb hb=>h b<|Ht _ hb];rfl
def iJ (a b:Str):(a++b).cps.toList=a.cps.toList++b.cps.toList:=by show (a.cps++b.cps).toList=_;rw[Array.toList_append]
def sC {x:Str}{ss:↑Str}:cH (.str x) (.tl<|ss.map W.str)=pr (.bl<|!decide (x∈ss)):=by
 funext h;unfold cH;have e:inB (.str x) (.tl<|ss.map W.str) h=some (decide<|x∈ss):=by
  show (match vOf (.str x) ,Sl (ss.map W.str) with
   |some v,some vs=>some (inV v vs)
   |_,_=>none)=_
  rw[d5 (k:=V.str)<|λa=>rfl];show some (inV (.str x)<|ss.map V.str)=_;congr 1;unfold inV;rw[HZ,Iu,decide_eq_true_eq];constructor
  .rintro⟨v,hv,q⟩
   let(y,hy,rfl):=Hq.mp hv;have:y=x:=by simpa [eVs,eVi] using q
   subst this;exact hy
  intro q;exact(.str x,Hq.mpr (x,q,rfl),by simp [eVs,eVi])
 rw[e];rfl
end
end L2
namespace L2
open PySem PySem.Spec PyProof.Rows
section
variable {X:Cx}{E:XK}{p pos:LF}
noncomputable def NF (ws:↑W):M Sr:=match ws with|[w]=>bd (RN w) λs=>pr (PH 0 s.l,s.G)|_=>no
def yA {x1}{fl:MG->M ↑W}(hm:X.mg "enumerate"=none)(ha:JA X E [a] fl)(hg:Gl X "enumerate")(hs:LH [a] X.env=[(false ,LD a X.env)]):
  JI X E (.Tuple elts x1 tpos) (.Call (.Name "enumerate" p) [a] [] pos) (Pk fl NF):=(xL hg hm ha.h hs).imp λσ H Q h=>by
 ac_nf;rcases x with _|⟨w,_|⟨_,_⟩⟩
 exact h1.elim
 .have h1:Ps (cg X E) (λp s J=>MZ X.K p J s) p (bd (RN w) (λs=>pr (PH 0 s.l,s.G)) p.h) Q:=h1;let(v,rfl,r):=r1.one;cases w with
  |tup l=>
   unfold Rv at r;let(a,vs,rfl,s,r):=r;have h1:Ps (cg X E) (λp s J=>MZ X.K p J s) p (pr (PH 0 l,λZ=>True) p.h) Q:=h1;refine(a,rfl,(vs,s),h1.pr R1 (λo X R g=>(vs,X.rdT R1 s,by rw[r.len];exact (gZ _ _).symm),λo i w X R g e=>?_));let(x,e1,rfl):=g0 _ _ _ _ e;let(v,hv,rv):=(r.mono R1 X).get e1;have sq:=X.rdT R1 s;refine((vs,v,sq,hv),λy H' q=>?_);let(T,z,hT,rfl,hz,rfl):=q;have:z=v:=by have:=hz vs sq;rw[hv]at this;exact (Option.some.inj this).symm
   subst this;refine((o.mu,o.h,upd o.H T<|.tup [.int i,z]),rfl,rfl,Ex.new hT,R.new hT,Rv.newT R hT<|Rvs.cons (QI.mpr ⇑_)<|Rvs.cons rv Rvs.nil)
  |_=>exact h1.elim
 exact h1.elim
end
end L2
namespace L2
open PySem
def aB {α β:Type}(a:α)(g:α->M β):bd (pr a) g=g a:=funext λh=>eI (f:=pr a) (a:=a) (h:=h) (h':=h) rfl
def Ok {α:Type}(m:M α)(h:↑Ob)(Q:α->↑Ob->Prop):Prop:=∃a h',m h=.ok a h'/\Q a h'
section
variable {α β:Type}{m:M α}{k:α->M β}{h h':↑Ob}{a:α}
def Ok.imp {P Q:α->↑Ob->Prop}(p:Ok m h P)(q:∀a h' ,P a h'->Q a h'):Ok m h Q:=let (a,h',e,r):=p;(a,h',e,q a h' r)
def aJ {P:α->↑Ob->Prop}{Q:β->↑Ob->Prop}(p:Ok m h P)(q:∀a h' ,P a h'->Ok (k a) h' Q):Ok (bd m k) h Q:=by let(a,h',e,r):=p;let(b,h2,e2,r2):=q a h' r;exact(b,h2,(eI e).trans e2,r2)
def Cc {Q:α->↑Ob->Prop}(e:m h=.ok a h')(q:Q a h'):Ok m h Q:=(a,h',e,q)
def bj {Q:β->↑Ob->Prop}(e:m h=.ok a h')(q:Ok (k a) h' Q):Ok (bd m k) h Q:=by let(b,h2,e2,r2):=q;exact(b,h2,(eI e).trans e2,r2)
def ah {Q:α->↑Ob->Prop}(q:Q a h):Ok (pr a) h Q:=(a,h,rfl,q)
end
section
variable {β:Type}{h:↑Ob}{Q:β->↑Ob->Prop}{j:Nat}{l:↑W}
def Cd {i:Int}{w:W}{k:W->M β}(e:h[j]?=some (.lst l))(e2:atI l i=`w)(q:Ok (k w) h Q):Ok (bd (ixW (.loc j)<|.int i) k) h Q:=by
 refine bj (a:=w) (h':=h) ?_ q;have d:Nz (.loc j) h=none:=by unfold Nz;simp only[e]
 have lo:O1 (.loc j) h=.ok l h:=by unfold O1;simp only[e]
 have:ixO (.loc j) (.int i) h=`w:=by unfold ixO;simp only[d,lo,e2]
 unfold ixW;rw[this]
def d9 {w:W}{k:W->M β}(e:h[j]?=some (.lst l))(z:⇑l<sizeLine)(q:Ok (k .non) (h.set j<|.lst<|l++[w]) Q):Ok (bd (bu (.loc j) [w]) k) h Q:=by refine bj (a:=.non) (h':=h.set j<|.lst<|l++[w]) ?_ q;unfold bu;simp only[e,bf z]
def cL {k:W->M β}(e:h[j]?=some (.lst l))(q:Ok (k<|.loc j) h Q):Ok (bd (isL<|.loc j) k) h Q:=by refine bj (a:=.loc j) (h':=h) ?_ q;unfold isL;simp only[e]
def gY {k:W->M β}(q:Ok (k<|.loc ⇑h) (h++[.lst l]) Q):Ok (bd (PB l) k) h Q:=bj (a:=.loc ⇑h) (h':=h++[.lst l]) rfl q
def iV {k:W->M β}(e:h[j]?=some (.lst l))(q:Ok (k<|.tl l) (h.set j .gone) Q):Ok (bd (Od<|.loc j) k) h Q:=by refine bj (a:=.tl l) (h':=h.set j .gone) ?_ q;unfold Od;simp only[e]
def sB {k:Sr->M β}(e:h[j]?=some (.lst l))(q:Ok (k (l,λh=>h[j]?=some (.lst l))) h Q):Ok (bd (RM<|.loc j) k) h Q:=by refine bj (a:=(l,λh=>h[j]?=some (.lst l))) (h':=h) ?_ q;unfold RM;simp only[e]
def Lw (h:↑Ob)(x:W)(l:↑W):Prop:=x=.tl l\/ ∃j,x=.loc j/\h[j]?=some (.lst l)
def Lw.of (p:Lw h x l):O1 x h=.ok l h:=by
 rcases p with rfl|⟨j,rfl,e⟩
 rfl;unfold O1;simp only[e]
def Lw.len {k:W->M β}(p:Lw h x l)(q:Ok (k<|.int ⇑l) h Q):Ok (bd (OT [x]) k) h Q:=by
 refine bj (a:=.int ⇑l) (h':=h) ?_ q;have e:=p.of;rcases p with rfl|⟨j,rfl,_⟩
 rfl;show bd (O1<|.loc j) (λl=>pr<|W.int ⇑l) h=_;rw[eI e];rfl
def Lw.ix {x w:W}{i:Int}{k:W->M β}(p:Lw h x l)(e2:atI l i=`w)(q:Ok (k w) h Q):Ok (bd (ixW x<|.int i) k) h Q:=by
 rcases p with rfl|⟨j,rfl,e⟩
 rw[cv e2,bd_pr];exact q;exact Cd e e2 q
end
def jy {x:Str}{ss:↑Str}:inV (.str x) (ss.map V.str)=decide (x∈ss):=by
 unfold inV;rw[HZ,Iu,decide_eq_true_eq];constructor
 .rintro⟨v,hv,q⟩
  let(y,hy,rfl):=Hq.mp hv;have:y=x:=by simpa [eVs,eVi] using q
  subst this;exact hy
 intro q;exact(.str x,Hq.mpr (x,q,rfl),by simp [eVs,eVi])
def uM {x:Str}{ss:↑Str}:inW (.str x) (.tl<|ss.map W.str)=pr (.bl<|decide<|x∈ss):=by
 funext h;unfold inW;have e:inB (.str x) (.tl<|ss.map W.str) h=some (decide<|x∈ss):=by
  show (match vOf (.str x) ,Sl (ss.map W.str) with
   |some v,some vs=>some (inV v vs)
   |_,_=>none)=_
  rw[d5 (k:=V.str)<|λa=>rfl];show some (inV (.str x)<|ss.map V.str)=_;rw[jy]
 rw[e];rfl
def FS {β:Type}{Q:β->↑Ob->Prop}{j:Nat}{x:Str}{ss:↑Str}{k:W->M β}(e:h[j]?=some (.lst<|ss.map W.str))(q:Ok (k<|.bl<|decide<|x∈ss) h Q):Ok (bd (inW (.str x)<|.loc j) k) h Q:=by
 refine bj (a:=.bl<|decide<|x∈ss) (h':=h) ?_ q;unfold inW;have d:Nz (.loc j) h=none:=by unfold Nz;simp only[e]
 have lo:O1 (.loc j) h=.ok (ss.map W.str) h:=by unfold O1;simp only[e]
 have e:inB (.str x) (.loc j) h=some (decide<|x∈ss):=by unfold inB;simp only[d,lo,d5 (g:=W.str) (k:=V.str) (λa=>rfl) ss];show some (inV (.str x)<|ss.map V.str)=_;rw[jy]
 rw[e]
def jf {i:Int}(h0: -(2^62)<=i)(h1:i<2^62):QB [.int i]=pr (Oi 0 i.toNat,λJ=>True):=ag (h0,h1)
def lA {i j:Int}(h0: -(2^62)<=i)(h1:i<2^62)(h2: -(2^62)<=j)(h3:j<2^62):QC [.int i,.int j]=pr (Oi i (j-i).toNat,λJ=>True):=ag (h0,h1,h2,h3)
theorem sX {G:↑Ob->Prop}{t:W->MG->Option MG}{g:MG->M Fl}(I:Nat->MG->↑Ob->Prop)(l:↑W)(hG:∀i ρ h ,I i ρ h->G h)
  (hs:∀i w ρ h ,l[i]?=`w->I i ρ h->∃r,t w ρ=`r/\Ok (g r) h λx h'=>∃r',x=.nx r'/\I (i+1) r' h'):
  ∀ (m:↑W) (n:Nat) (ρ:MG) (h:↑Ob),l.drop n=m->n<=⇑l->I n ρ h->Ok (NX G t g m ρ) h λx h'=>∃r',x=.nx r'/\I ⇑l r' h'
 |[],n,ρ,h,e,hn,i=>by have:⇑l<=n:=Kb.mp e;have hn:n=⇑l:=∅;subst hn;refine(.nx ρ,h,?_,ρ,rfl,i);unfold NX;rw[ga<|hG _ _ _ i];rfl
 |w::m,n,ρ,h,e,hn,i=>by
  have hw:l[n]?=`w:=by have:=congrArg Kc e;rw[Kd,Ke]at this;exact this
  have hl:n<⇑l:=(Hm.mp hw).1;have em:l.drop (n+1)=m:=by rw[<-Kf,e];rfl
  let(r,e1,x,h',e2,r',rfl,i'):=hs n w ρ h hw i;let(y,h2,e3,q):=sX I l hG hs m (n+1) r' h' em hl i';refine(y,h2,?_,q);unfold NX;rw[ga<|hG _ _ _ i,e1];dsimp only;rw[eI e2];exact e3
def cz {β:Type}{G:↑Ob->Prop}{t:W->MG->Option MG}{g:MG->M Fl}{k:Fl->M β}{Q:β->↑Ob->Prop}(I:Nat->MG->↑Ob->Prop)(h0:I 0 ρ h)(hG:∀i ρ h ,I i ρ h->G h)
  (hs:∀i w ρ h ,l[i]?=`w->I i ρ h->∃r,t w ρ=`r/\Ok (g r) h λx h'=>∃r',x=.nx r'/\I (i+1) r' h')(hd:∀ρ h ,I ⇑l ρ h->Ok (k<|.nx ρ) h Q):Ok (bd (NX G t g l ρ) k) h Q:=
 aJ (sX I l hG hs l 0 ρ h rfl (Hy _) h0) λx h' (r',e,i)=>by subst e;exact hd r' h' i
theorem uW {G:↑Ob->Prop}{t:W->MG->Option MG}{f:MG->M Bool}{g:MG->M W}{c:Nat}(I:Nat->↑W->↑Ob->Prop)(l:↑W)(hf:∀r ,f r=pr true)(hG:∀i a h ,I i a h->G h)
  (hs:∀i w a h ,l[i]?=`w->I i a h->∃r,t w (List.replicate c none++ρ)=`r/\Ok (g r) h λv h'=>I (i+1) (a++[v]) h'):
  ∀ (m:↑W) (n:Nat) (a:↑W) (h:↑Ob),l.drop n=m->n<=⇑l->I n a h->Ok (Nr G t f g c m ρ) h λr h'=>I ⇑l (a++r) h'
 |[],n,a,h,e,hn,i=>by have:⇑l<=n:=Kb.mp e;have hn:n=⇑l:=∅;subst hn;refine([],h,?_,by show I ⇑l (a++[]) h;rw[HL];exact i);unfold Nr;rw[ga<|hG _ _ _ i];rfl
 |w::m,n,a,h,e,hn,i=>by
  have hw:l[n]?=`w:=by have:=congrArg Kc e;rw[Kd,Ke]at this;exact this
  have hl:n<⇑l:=(Hm.mp hw).1;have em:l.drop (n+1)=m:=by rw[<-Kf,e];rfl
  let(r,e1,v,h',e2,i'):=hs n w a h hw i;let(y,h2,e3,q):=uW I l hf hG hs m (n+1) (a++[v]) h' em hl i';refine(v::y,h2,?_,by show I ⇑l (a++v::y) h2;have q:I ⇑l (a++[v]++y) h2:=q;rw[HF]at q;exact q);unfold Nr;rw[ga<|hG _ _ _ i,e1];dsimp only;rw[hf,bd_pr,bf rfl,eI e2,eI e3];rfl
def dH {β:Type}{G:↑Ob->Prop}{t:W->MG->Option MG}{f:MG->M Bool}{g:MG->M W}{c:Nat}{k:↑W->M β}{Q:β->↑Ob->Prop}(I:Nat->↑W->↑Ob->Prop)(h0:I 0 [] h)(hf:∀r ,f r=pr true)(hG:∀i a h ,I i a h->G h)
  (hs:∀i w a h ,l[i]?=`w->I i a h->∃r,t w (List.replicate c none++ρ)=`r/\Ok (g r) h λv h'=>I (i+1) (a++[v]) h')(hd:∀a h ,I ⇑l a h->Ok (k a) h Q):Ok (bd (Nr G t f g c l ρ) k) h Q:=
 aJ (uW I l hf hG hs l 0 [] h rfl (Hy _) h0) λr h' i=>hd r h' i
def eZ (r:MG):Pn r=pr true:=rfl
structure Fr (j:Nat)(h h':↑Ob):Prop where
 len:⇑h'=⇑h
 eq:∀i,i≠j->h'[i]?=h[i]?
def de {j:Nat}{h:↑Ob}{a b:Ob}(e:h[j]?=`a):(h.set j b)[j]?=`b:=by rw[IQ (Hm.mp e).1]
def dj {j:Nat}{h:↑Ob}{a:Ob}(e:h[j]?=`a):j<⇑h:=(Hm.mp e).1
def Bz {j:Nat}{h r:↑Ob}{a:Ob}(e:h[j]?=`a):(h++r)[j]?=`a:=by rw[HN<|dj e];exact e
def f9 :(h++[a])[⇑h]?=`a:=⇑_
theorem least {p:Nat->Prop}:∀ {n:Nat},(∃r ,r<n/\p r)->∃r,r<n/\p r/\∀j,j<r->¬p j
 |0,(_,h,_)=>absurd h<|Nat.not_lt_zero _
 |n+1,(r,h,q)=>by
  by_cases z:∃r,r<n/\p r;let(r,h1,h2,h3):=least z;exact(r,∅,h2,h3)
  .have:r=n:=by
    by_cases e:r<n;exact absurd (r,e,q) z;omega
   subst this;exact(r,h,q,λj hj hp=>z (j,hj,hp))
section
def oV {G:↑Ob->Prop}{t:W->MG->Option MG}{g:MG->M Fl}{Q:Fl->↑Ob->Prop}(I:Nat->MG->↑Ob->Prop)(h0:I 0 ρ h)(hG:∀i ρ h ,I i ρ h->G h)
  (hs:∀i w ρ h ,l[i]?=`w->I i ρ h->∃r,t w ρ=`r/\Ok (g r) h λx h'=>∃r',x=.nx r'/\I (i+1) r' h')(hd:∀ρ h ,I ⇑l ρ h->Q (.nx ρ) h):Ok (NX G t g l ρ) h Q:=
 (sX I l hG hs l 0 ρ h rfl (Hy _) h0).imp λx h' (r',e,i)=>by subst e;exact hd r' h' i
def wA (l:↑W):NF [.tup l]=pr (PH 0 l,λJ=>True):=rfl
def cU (l:↑W):O1 (.tl l)=pr l:=rfl
def ix0 (a:W)(l:↑W):ixW (.tup (a::l)) (.int 0)=pr a:=f8<|bp ↥_ rfl
def ix1 (a b:W)(l:↑W):ixW (.tup (a::b::l)) (.int 1)=pr b:=f8<|bp ↥_ rfl
def ix2 (a b c:W)(l:↑W):ixW (.tup (a::b::c::l)) (.int 2)=pr c:=f8<|bp ↥_ rfl
def ix3 (a b c d:W)(l:↑W):ixW (.tup (a::b::c::d::l)) (.int 3)=pr d:=f8<|bp ↥_ rfl
def ix4 (a b c d e:W)(l:↑W):ixW (.tup (a::b::c::d::e::l)) (.int 4)=pr e:=f8<|bp ↥_ rfl
def ix5 (a b c d e f:W)(l:↑W):ixW (.tup (a::b::c::d::e::f::l)) (.int 5)=pr f:=f8<|bp ↥_ rfl
def BK {α:Type}(f:α->W)(l:↑α)(lo hi:Option Int):Nv (l.map f) lo hi=(Nv l lo hi).map f:=by unfold Nv;rw[Hb,List.map_take,List.map_drop]
end
end L2
namespace L2
open PySem PySem.Spec PyProof.Rows
section
variable {X:Cx}{E:XK}{p pos:LF}
noncomputable def RK (j:Bool):W->M Sr:=match j with|true=>RN|false=>RM
def kC {j:Bool}{α β:Type}{r:Wo->α->β->Prop}{w:W}{k:Sr->M α}{Q:β->Hp->Prop}(R:Rel X.K o)(hr:Rv X.K o w v)(h:Ps (cg X E) r o (bd (RK j w) k o.h) Q):
  ∃s a,v=.ref a/\(∃vs ,SqK j X.K o.H a vs)/\(∀p ,Ex o p->Rel X.K p->s.G p.h->∃vs,SqK j X.K p.H a vs/\Rvs X.K p s.l vs)/\Ps (cg X E) r o (k s o.h) Q:=by
 cases j with
 |false=>exact ua R hr h
 |true=>
  cases w with
  |tup l=>
   unfold Rv at hr;let(a,vs,rfl,s,r'):=hr;exact((l,λJ=>True),a,rfl,(vs,s),λp X J J=>(vs,X.rdT R s,r'.mono R X),h)
  |_=>exact h.elim
noncomputable def Sq (l m:↑W):↑W:=Jg (λa b=>.tup [a,b]) l m
def i5 {i:Nat}{w:W}(e:(Sq l m)[i]?=`w):∃x y,l[i]?=`x/\m[i]?=`y/\w=.tup [x,y]:=by
 unfold Sq at e;rw[JC]at e;cases h1:l[i]? with
 |none=>rw[h1]at e;cases e
 |some x=>
  cases h2:m[i]? with|none=>rw[h1,h2]at e;cases e|some y=>rw[h1,h2]at e;cases e;exact(x,y,rfl,rfl,rfl)
noncomputable def RO (j k:Bool)(ws:↑W):M Sr:=match ws with|[x,y]=>bd (RK j x) λs=>bd (RK k y) λt=>pr (Sq s.l t.l,λh=>s.G h/\t.G h)|_=>no
def D0 (j k:Bool){x1}{fl:MG->M ↑W}(hm:X.mg "zip"=none)(ha:JA X E [a,b] fl)(hg:Gl X "zip")(hs:LH [a,b] X.env=[(false ,LD a X.env),(false ,LD b X.env)])(hs2:LH [b] X.env=[(false ,LD b X.env)]):
  JI X E (.Tuple elts x1 tpos) (.Call (.Name "zip" p) [a,b] [] pos) (Pk fl<|RO j k):=(Dh (j:=j) (k:=k) hg hm ha.h hs hs2).imp λσ H Q h=>by
 ac_nf;rcases x with _|⟨w,_|⟨w2,_|⟨_,_⟩⟩⟩
 exact h1.elim;exact h1.elim
 .have h1:Ps (cg X E) (λp s J=>MZ X.K p J s) p (bd (RK j w) (λs=>bd (RK k w2) λt=>pr (Sq s.l t.l,λh=>s.G h/\t.G h)) p.h) Q:=h1;let(v,u,rfl,rv,ru):=r1.two;let(s,a,rfl,hq,sk,h1):=kC R1 rv h1;let(t,b,rfl,hq2,sk2,h1):=kC R1 ru h1;refine(a,b,rfl,hq,hq2,h1.pr R1 (λo X R g=>?_,λo i w X R g e=>?_));let(vs,k1,k2):=sk o X R g.1;let(us,k3,k4):=sk2 o X R g.2;exact(vs,us,k1,k3,by rw[k2.len,k4.len];show _=⇑(Sq s.l t.l);unfold Sq;rw[Im]);let(vs,k1,k2):=sk o X R g.1;let(us,k3,k4):=sk2 o X R g.2;let(x,y,ex,ey,rfl):=i5 e;let(v1,hv1,rv1):=k2.get ex;let(v2,hv2,rv2):=k4.get ey;refine((vs,us,v1,v2,k1,k3,hv1,hv2),λq H' yl=>?_);let(T,z1,z2,hT,rfl,hz,rfl):=yl;let(g1,g2):=hz vs us k1 k3;have e1:z1=v1:=Option.some.inj<|g1.symm.trans hv1;have e2:z2=v2:=Option.some.inj<|g2.symm.trans hv2;subst e1 e2;refine((o.mu,o.h,upd o.H T<|.tup [z1,z2]),rfl,rfl,Ex.new hT,R.new hT,Rv.newT R hT<|Rvs.cons rv1<|Rvs.cons rv2 Rvs.nil)
 exact h1.elim
variable {o:Expr}
def yG {x:Str}{zs:↑Str}(hm:X.mg x=some (.ref a))(hq:∀H ,SqT X.K H a<|zs.map V.str)(hg:Gl X x)(hd:(x==("__debug__":Str))=false):JE X E (.Name x pos) (mC<|.tup<|zs.map W.str):=
 kH (v:=.ref a) hg hm rfl (λo=>by
  unfold Rv;refine(a,_,rfl,hq _,?_)
  induction zs with
  |nil=>exact Rvs.nil
  |cons z zs ih=>exact Rvs.cons (QK.mpr rfl)<|gU zs) hd
where
 gU {K:Zf}{o:Wo}:∀zs:↑Str,Rvs K o (zs.map W.str) (zs.map V.str)
  |[]=>Rvs.nil
  |z::zs=>Rvs.cons (QK.mpr rfl)<|gU zs
end
section
noncomputable def Oh (lo:Int):Nat->↑V
 |0=>[]
 |n+1=>.int lo::Oh (lo+1) n
theorem j2:∀ (n:Nat) (lo:Int),⇑(Oh lo n)=n|0,_=>rfl|n+1,lo=>by rw[Oh,Hf,j2 n]
theorem jS {K:Zf}:∀ (n:Nat) (lo:Int),Rvs K o (Oi lo n) (Oh lo n)|0,_=>Rvs.nil|n+1,lo=>Rvs.cons (QI.mpr rfl)<|jS n<|lo+1
theorem iM:∀ (n:Nat) (lo:Int) (its:↑K5),⇑its=n->(∀ (i:Nat) (v:K5) ,its[i]?=`v->∃t,v=K5.int (lo+(i:Int)) t)->Vals (Oh lo n) its
 |0,_,[],_,_=>.nil
 |0,_,_::_,h,_=>by cases h
 |n+1,lo,[],h,_=>by cases h
 |n+1,lo,v::its,h,q=>by
  rw[Oh];refine .cons ?_ (iM n (lo+1) its (Iv.inj h) λi u e=>?_);let(t,e):=q 0 v rfl;exact(t,by rw[e];congr 1;omega);let(t,e):=q (i+1) u (by rw[Jz];exact e);exact(t,by rw[e];congr 1;omega)
end
section
section
variable {X:Cx}{E:XK}
def AF:OpR X (LK .IsNot) (λx y H Q=>∃c d ,x=.bl c/\y=.bl d/\Q (.bl<|!(c==d)) H):=by intro gV s σ H x y v u Q I rx ry h;let(c,d,rfl,rfl,q):=h;cases rx;cases ry;exact isnot_bool<|aV I q rfl
noncomputable def isBW (x y:W):M W:=match x,y with|.bl c,.bl d=>pr (.bl<|c==d)|_,_=>no
noncomputable def PD (x y:W):M W:=match x,y with|.bl c,.bl d=>pr (.bl<|!(c==d))|_,_=>no
def xV:OpM X E (λx y H Q=>∃c d ,x=.bl c/\y=.bl d/\Q (.bl<|!(c==d)) H) PD:=by
 intro o x y vx vy Q R rx ry h;unfold PD at h;split at h;exact(_,_,QH.mp rx,QH.mp ry,h.pr R<|QH.mpr rfl);exact h.elim
end
theorem mt {G:↑Ob->Prop}{t:W->MG->Option MG}{f:MG->M Bool}{g:MG->M W}{c:Nat}(I:Nat->↑W->↑Ob->Prop)(l:↑W)(hG:∀i a h ,I i a h->G h)
  (hs:∀i w a h ,l[i]?=`w->I i a h->∃r,t w (List.replicate c none++ρ)=`r/\Ok (f r) h λb h'=>(b=false/\I (i+1) a h')\/(b=true/\Ok (g r) h' λv h''=>I (i+1) (a++[v]) h'')):
  ∀ (m:↑W) (n:Nat) (a:↑W) (h:↑Ob),l.drop n=m->n<=⇑l->I n a h->Ok (Nr G t f g c m ρ) h λr h'=>I ⇑l (a++r) h'
 |[],n,a,h,e,hn,i=>by have:⇑l<=n:=Kb.mp e;have hn:n=⇑l:=∅;subst hn;refine([],h,?_,by show I ⇑l (a++[]) h;rw[HL];exact i);unfold Nr;rw[ga<|hG _ _ _ i];rfl
 |w::m,n,a,h,e,hn,i=>by
  have hw:l[n]?=`w:=by have:=congrArg Kc e;rw[Kd,Ke]at this;exact this
  have hl:n<⇑l:=(Hm.mp hw).1;have em:l.drop (n+1)=m:=by rw[<-Kf,e];rfl
  let(r,e1,b,h',e2,q):=hs n w a h hw i;rcases q with⟨rfl,i'⟩|⟨rfl,v,h'',e3,i'⟩
  let(y,h2,e3,q):=mt I l hG hs m (n+1) a h' em hl i';refine(y,h2,?_,q);unfold Nr;rw[ga<|hG _ _ _ i,e1];dsimp only;rw[eI e2,aZ ↥_];exact e3;let(y,h2,e4,q):=mt I l hG hs m (n+1) (a++[v]) h'' em hl i';refine(v::y,h2,?_,by show I ⇑l (a++v::y) h2;have q:I ⇑l (a++[v]++y) h2:=q;rw[HF]at q;exact q);unfold Nr;rw[ga<|hG _ _ _ i,e1];dsimp only;rw[eI e2,bf rfl,eI e3,eI e4];rfl
def lP {β:Type}{G:↑Ob->Prop}{t:W->MG->Option MG}{f:MG->M Bool}{g:MG->M W}{c:Nat}{k:↑W->M β}{Q:β->↑Ob->Prop}(I:Nat->↑W->↑Ob->Prop)(h0:I 0 [] h)(hG:∀i a h ,I i a h->G h)
  (hs:∀i w a h ,l[i]?=`w->I i a h->∃r,t w (List.replicate c none++ρ)=`r/\Ok (f r) h λb h'=>(b=false/\I (i+1) a h')\/(b=true/\Ok (g r) h' λv h''=>I (i+1) (a++[v]) h''))(hd:∀a h ,I ⇑l a h->Ok (k a) h Q):Ok (bd (Nr G t f g c l ρ) k) h Q:=
 aJ (mt I l hG hs l 0 [] h rfl (Hy _) h0) λr h' i=>hd r h' i
section
variable {β:Type}{h:↑Ob}{Q:β->↑Ob->Prop}{x:W}{l:↑W}
def Lw.src {k:Sr->M β}(p:Lw h x l)(q:∀G ,(∀h' ,Lw h' x l->G h')->Ok (k (l,G)) h Q):Ok (bd (RM x) k) h Q:=by
 rcases p with rfl|⟨j,rfl,e⟩
 show Ok (bd (pr (l,λJ=>True)) k) h Q;rw[aB];exact q _ λJ J=>trivial
 .refine sB e (q _ λh' r=>?_);rcases r with r|⟨i,r,e'⟩
  cases r;cases r;exact e'
def Lw.keep (p:Lw h x l)(q:∀i ,i<⇑h->h'[i]?=h[i]?):Lw h' x l:=by
 rcases p with rfl|⟨j,rfl,e⟩
 exact .inl rfl;exact .inr (j,rfl,(q j<|dj e).trans e)
end
def Lw.len_eq {β:Type}{Q:β->↑Ob->Prop}{k:W->M β}{N:Int}(p:Lw h x l)(hN:N=(⇑l:Int))(q:Ok (k<|.int N) h Q):Ok (bd (OT [x]) k) h Q:=by subst hN;exact p.len q
end
section
noncomputable def OV:↑Str->↑W->Str->Option W|n::ns,w::ws,f=>if f=n then `w else OV ns ws f|_,_,_=>none
noncomputable def putN:↑Str->↑W->Str->W->↑Str×↑W
 |n::ns,w::ws,f,y=>if n=f then (n::ns ,y::ws) else (n::(putN ns ws f y).1 ,w::(putN ns ws f y).2)
 |_,_,f,y=>([f] ,[y])
section
variable {K:Zf}{o:Wo}
theorem qG {f:Str}{w:W}:∀ {fs:↑(Str×V)}{ns:↑Str}{ws:↑W},fs.map (·.1)=ns->Rvs K o ws (fs.map (·.2))->OV ns ws f=`w->∃v,fs.lookup f=`v/\Rv K o w v
 |[],_,ws,e,_,h=>by subst e;cases ws<;>cases h
 |(g ,x)::fs,_,[],e,r,h=>by subst e;cases h
 |(g ,x)::fs,_,y::ws,e,r,h=>by
  subst e;unfold Rvs at r;let(v,t,e2,r1,r2):=r;cases e2;have h:(if f=g then `y else OV (fs.map (·.1)) ws f)=`w:=h;by_cases z:f=g;rw[bf z]at h;cases h;exact(x,by rw[Ik,z];simp,r1);rw[aZ z]at h;let(v,e3,r3):=qG rfl r2 h;refine(v,?_,r3);rw[Ik,show (f==g)=false by simpa using z];exact e3
theorem qH {f:Str}:∀ {fs:↑(Str×V)},f ∉fs.map (·.1)->fs.lookup f=none|[],_=>rfl|(g ,x)::fs,h=>by rw[Hg,Hd,not_or]at h;rw[Ik,show (f==g)=false by simpa using h.1];exact qH h.2
theorem uq {f:Str}(hy:Rv K o y v):∀ {fs:↑(Str×V)}{ns:↑Str}{ws:↑W},fs.map (·.1)=ns->Rvs K o ws (fs.map (·.2))->(Qq f v fs).map (·.1)=(putN ns ws f y).1/\Rvs K o (putN ns ws f y).2 ((Qq f v fs).map (·.2))
 |[],_,[],e,r=>by subst e;exact(rfl,Rvs.cons hy Rvs.nil)
 |[],_,w::ws,e,r=>by unfold Rvs at r;let(_,_,e2,_):=r;cases e2
 |(g ,x)::fs,_,[],e,r=>by unfold Rvs at r;cases r
 |(g ,x)::fs,_,w::ws,e,r=>by
  subst e;unfold Rvs at r;let(u,t,e2,r1,r2):=r;cases e2;show (List.map (·.1) (if g=f then (g ,v)::fs else (g ,x)::Qq f v fs))=(if g=f then (g::fs.map (·.1) ,y::ws) else (g::(putN (fs.map (·.1)) ws f y).1 ,w::(putN (fs.map (·.1)) ws f y).2)).1/\Rvs K o (if g=f then (g::fs.map (·.1) ,y::ws) else (g::(putN (fs.map (·.1)) ws f y).1 ,w::(putN (fs.map (·.1)) ws f y).2)).2 ((if g=f then (g ,v)::fs else (g ,x)::Qq f v fs).map (·.2));by_cases z:g=f;rw[bf z,bf z];exact(rfl,Rvs.cons hy r2);rw[aZ z,aZ z];let(a,b):=uq hy (fs:=fs) rfl r2;exact(by rw[Hg,a],Rvs.cons r1 b)
def Rel.putI (R:Rel K o){k:Nat}{c:Str}{ns:↑Str}{ws:↑W}{fs:↑(Str×V)}(hk:o.h[k]?=`b)(hb:b≠.gone)(hn:K3 K Lx c=some (some<|.ref C))(h1:fs.map (·.1)=ns)(hl:Rvs K o ws (fs.map (·.2))):Rel K (o.put k (.ins c ns ws)<|.ins C dx fs):=
 R.put hk hb (C,dx,fs,hn,aq,h1,hl.mono R<|Ex.put hk hb)
end
section
variable {X:Cx}{E:XK}
noncomputable def Of (c:Str)(x:W):M (Nat×↑Str×↑W):=match x with
 |.loc k=>λh=>match h[k]? with|some (.ins c' ns ws)=>if c'=c then .ok (k ,ns,ws) h else .bad|_=>.bad
 |_=>no
def pb {α β:Type}{r:Wo->α->β->Prop}{c:Str}{k:Nat×↑Str×↑W->M α}{Q:β->Hp->Prop}(hn:K3 X.K Lx c=some (some<|.ref C))(R:Rel X.K o)(hr:Rv X.K o x v)(h:Ps (cg X E) r o (bd (Of c x) k o.h) Q):
  ∃ (j:Nat) (ns:↑Str) (ws:↑W) (dx:Lb) (fs:↑(Str×V)),x=.loc j/\j<⇑o.h/\o.h[j]?=some (.ins c ns ws)/\v=.ref (o.mu j)/\o.H (o.mu j)=some (.ins C dx fs)/\fs.map (·.1)=ns/\Rvs X.K o ws (fs.map (·.2))/\Ps (cg X E) r o (k (j ,ns,ws) o.h) Q:=by
 cases x with
 |loc j=>
  unfold Rv at hr;let(hj,rfl):=hr;unfold Of bd at h;cases e:o.h[j]? with
  |none=>simp only[e]at h;exact h.elim
  |some b=>
   cases b with
   |ins c' ns ws=>
    simp only[e]at h;by_cases z:c'=c;subst z;rw[bf rfl]at h;let(C',dx,fs,q1,q2,q3,q4):=R.ob j _ e;rw[hn]at q1;cases q1;exact(j,ns,ws,dx,fs,rfl,hj,e,rfl,q2,q3,q4,h);rw[aZ z]at h;exact h.elim
   |_=>simp only[e]at h;exact h.elim
 |_=>exact h.elim
noncomputable def NT (c f:Str)(x:W):M W:=bd (Of c x) λt=>match OV t.2.1 t.2.2 f with|some w=>pr w|none=>no
noncomputable def Qr (c f:Str)(x y:W):M Unit:=bd (Of c x) λt=>λh=>if ⇑t.2.1<1000 then .ok () (h.set t.1<|.ins c (putN t.2.1 t.2.2 f y).1 (putN t.2.1 t.2.2 f y).2) else .bad
variable {c f:Str}{C:Lb}{o:Expr}{fo:MG->M W}{pos pos':LF}
def Eo (hn:K3 X.K Lx c=some (some<|.ref C))(cl:Cls X.K C)(na:NoAttr X.K C f)(ho:JE X E o fo)(hb:L1 o f X.env (LD o X.env)=LD o X.env):JE X E (.Attribute o f pos) (m1 (NT c f) fo):=
 (fk ho.h hb).imp λσ H Q h=>by
  let(w,ρ,rfl,R,S,h):=h;refine(w,ρ,rfl,R,S,Ps.bd h λp x vx e1 R1 r1 h1=>?_);let(j,ns,ws,dx,fs,rfl,hj,e,rfl,q2,q3,q4,h1):=pb hn R1 r1 h1;cases l:OV ns ws f with
  |none=>simp only[l]at h1;exact h1.elim
  |some y=>
   simp only[l]at h1;let(v,lv,rv):=qG q3 q4 l;exact(_,C,dx,fs,v,rfl,q2,cl,na,lv,h1.pr R1 rv)
noncomputable def QT (c f:Str)(fo fv:MG->M W):MG->M Fl:=λρ=>bd (fv ρ) λy=>bd (fo ρ) λx=>bd (Qr c f x y) λJ=>pr<|.nx ρ
def As (hn:K3 X.K Lx c=some (some<|.ref C))(R:Rel X.K p)(S:Re X.K p ρ σ)(rx:Rv X.K p x vx)(ry:Rv X.K p y vy)(h:Ps (cg X E) (RFl X.K) p (bd (Qr c f x y) (λJ=>pr<|.nx ρ) p.h) (DQ D)):
  ∃a dx fs,vx=.ref a/\p.H a=some (.ins C dx fs)/\⇑fs<1000/\D.nx σ (upd p.H a<|.ins C dx<|Qq f vy fs):=by
 unfold Qr at h;rw[aa]at h;let(j,ns,ws,dx,fs,rfl,hj,e,rfl,q2,q3,q4,h):=pb hn R rx h;have ln:⇑fs=⇑ns:=by rw[<-q3,Hb]
 by_cases z:⇑ns<1000
 .have h:Ps (cg X E) (RFl X.K) p (.ok (.nx ρ)<|p.h.set j<|.ins c (putN ns ws f y).1 (putN ns ws f y).2) (DQ D):=by
   have e2:(bd (λh=>if ⇑ns<1000 then Rs.ok () (h.set j<|.ins c (putN ns ws f y).1 (putN ns ws f y).2) else .bad) (λJ=>pr<|Fl.nx ρ) p.h)=.ok (.nx ρ) (p.h.set j<|.ins c (putN ns ws f y).1 (putN ns ws f y).2):=by unfold bd;simp only[bf z];rfl
   rw[<-e2];exact h
  let(a,b):=uq ry q3 q4;refine(p.mu j,dx,fs,rfl,q2,∅,?_);exact Ps.at (p:=p.put j (.ins c (putN ns ws f y).1 (putN ns ws f y).2)<|.ins C dx<|Qq f vy fs) (b:=FlV.nx σ) h rfl (Ex.put e ⇑_) (R.putI e ⇑_ hn a b) (σ,rfl,S.mono R<|Ex.put e ⇑_)
 .have e2:(bd (λh=>if ⇑ns<1000 then Rs.ok () (h.set j<|.ins c (putN ns ws f y).1 (putN ns ws f y).2) else .bad) (λJ=>pr<|Fl.nx ρ) p.h)=.bad:=by unfold bd;simp only[aZ z]
  have h:Ps (cg X E) (RFl X.K) p (bd (λh=>if ⇑ns<1000 then Rs.ok () (h.set j<|.ins c (putN ns ws f y).1 (putN ns ws f y).2) else .bad) (λJ=>pr<|Fl.nx ρ) p.h) (DQ D):=h;rw[e2]at h;exact h.elim
variable {value:Expr}{fv:MG->M W}
def DY (hn:K3 X.K Lx c=some (some<|.ref C))(cl:Cls X.K C)(na:NoAttr X.K C f)(ho:JE X E o fo)(hv:JE X E value fv)(hs:swapsWith value (some<|.Attribute o f pos') pos.line X.env=pure false):JS X E (.Assign [.Attribute o f pos'] value pos) (QT c f fo fv):=
 (si ho.h hv.h hs).imp λD σ H h=>by let(w,ρ,rfl,R,S,h):=h;refine(w,ρ,rfl,R,S,Ps.bd h λp y vy e1 R1 r1 h1=>(p,ρ,rfl,R1,S.mono R e1,Ps.bd h1 λq x vx e2 R2 r2 h2=>?_));let(a,dx,fs,ex,q1,q2,q3):=As hn R2 ((S.mono R e1).mono R1 e2) r2 (r1.mono R1 e2) h2;exact(a,C,dx,fs,ex,q1,cl,na,q2,q3)
structure CGm (P:K8)(w:K9)(K:Zf)(mg:Str->Option K5)(base:La)(k:Nat)(C:Lb)(m:Str)(f:Lb)(fd:L5)(ps:↑Str)(n:Nat)(fn:↑W->M W):Prop where
 ok:FnOk P w K mg base CX0 k f fd ps (RF K mg n fn)
 bi:Binds K fd ps []
 me:MK K C m f
noncomputable def isI (c m:Str)(x:W):M W:=bd (Of c x) λt=>if m∈t.2.1 then no else pr x
noncomputable def Pa (c m:Str)(n:Nat)(fn:↑W->M W)(fo:MG->M W)(l:MG->M ↑W):MG->M W:=λρ=>bd (fo ρ) λx=>bd (isI c m x) λx=>bd (l ρ) λws=>arW n fn (x::ws)
def yZ {α β:Type}{r:Wo->α->β->Prop}{m:Str}{k:W->M α}{Q:β->Hp->Prop}(hn:K3 X.K Lx c=some (some<|.ref C))(R:Rel X.K p)(hr:Rv X.K p x v)(h:Ps (cg X E) r p (bd (isI c m x) k p.h) Q):
  ∃a dx fs,v=.ref a/\p.H a=some (.ins C dx fs)/\fs.lookup m=none/\Ps (cg X E) r p (k x p.h) Q:=by
 unfold isI at h;rw[aa]at h;let(j,ns,ws,dx,fs,rfl,hj,e,rfl,q2,q3,q4,h):=pb hn R hr h;by_cases z:m∈ns;simp only[bf z]at h;exact h.elim;simp only[aZ z,aB]at h;exact(_,dx,fs,rfl,q2,qH (by rw[q3];exact z),h)
end
section
variable {X:Cx}{c m:Str}{C fA:Lb}{fd:L5}{ps:↑Str}{k n:Nat}{fn:↑W->M W}{o e:Expr}{es:↑Expr}{fo:MG->M W}{l:MG->M ↑W}{pos apos p:LF}
def Ek (hn:K3 X.K Lx c=some (some<|.ref C))(cl:Cls X.K C)(F:CGm X.prog X.w X.K X.mg X.base k C m fA fd ps n fn)(hr:Room k X.A)(ho:JE X E0 o fo)(ha:JA X E0 (e::es) l)
  (hst:LH (e::es) X.env=(false ,LD e X.env)::LH es X.env)(hpl:(LG pos<|LH es X.env).any (·.1)=false)
  (ht:LD (.Call (.Attribute o m apos) (e::es) [] pos) X.env=(do
   let ov<-LD o X.env
   LM apos.atName
   let (f ,first)<-LN [ov] (L0 ov m pl)
   callWith pos f first (LG pos<|LH (e::es) X.env) (L3 pos<|L4 [] X.env))):
  JE X E0 (.Call (.Attribute o m apos) (e::es) [] pos) (Pa c m n fn fo l):=(f7 ho.h cl F.me F.ok hr F.bi .nil Qc ha.h hst hpl ht).imp λσ H Q h=>by
 let(w,ρ,rfl,R,S,h):=h;refine(w,ρ,rfl,R,S,Ps.bd h λp x vx e1 R1 r1 h1=>?_);let(a,dx,fs,rfl,q1,q2,h1):=yZ hn R1 r1 h1;refine(a,dx,fs,rfl,q1,q2,p,ρ,rfl,R1,S.mono R e1,Ps.bd h1 λq ws vs e2 R2 r2 h2=>?_);unfold arW at h2;by_cases z:⇑(x::ws)=n;rw[bf z]at h2;exact(q,x::ws,rfl,z,R2,by rw[HL];exact Rvs.cons (r1.mono R1 e2) r2,h2);rw[aZ z]at h2;exact h2.elim
noncomputable def O9 (c:Str)(n:Nat)(fn:↑W->M W)(l:MG->M ↑W):MG->M W:=λρ=>bd (l ρ) λws=>λh=>match arW n fn (.loc ⇑h::ws) (h++[.ins c [] []]) with|.ok .non h'=>.ok (.loc ⇑h) h'|_=>.bad
def Rv.addLocI {K:Zf}{o:Wo}{q:Lb}{b:Ob}{u:HO}:Rv K (o.add q b u) (.loc ⇑o.h) (.ref q):=by unfold Rv;refine(by show _<⇑(o.h++[b]);simp,?_);show V.ref q=V.ref (if ⇑o.h=⇑o.h then q else o.mu ⇑o.h);rw[bf rfl]
end
end
end L2
namespace PySem
open Sem (wp)
def pc {w:K9}{E:K5->Ld->Prop}{k:Nat}{name:Str}{Q:Option K5->Ld->Prop}
  (hx:s.heap.get? a=`o)(hc:o.cls=.type "list")(hdat:o.data=.seq xs k)(hd:o.dict=none)(hmiss:typeLookup (.type "list") name=pure none)(hname:(["__module__","__name__","__qualname__","__doc__","__annotations__"]:↑Str).contains name=false)(hA:A.handled=none)
  (h:∀h' tk ,(∀b ob ,s.heap.get? b=`ob->h'.get? b=`ob)->Q none {s with heap:=h',toks:=tk})(hsz:⇑name+100<=sizeLine):
  Lh (Li prog w) A (getAttr? (.ref a) name) Q E s:=by
 let(c,dct,dat,sl):=o;simp only at hc hdat hd;subst hc hdat hd;let(hp,g,d,tk,os):=s;have hT:∀tk',((hp,g,d,tk',os):Ld).TypeIs (.ref a) "list":=λJ=>(_,hx,rfl)
 have f1:=sub_AttributeError;have f3:=F.slot_list_getattribute.lookup;have f4:=F.slot_list_getattribute.bind<|.ref a;have f5:=am_list_getattr_none;unfold getAttr? getAttrBy? getAttrBy
 repeat (any_goals (first|assumption|exact hT _|((with_reducible show Lh _ _ (call (K5.builtin "list.__getattribute__") _ _) _ _ _);refine Mh F.slot_list_getattribute (hT _) am_entry_list_getattribute (F.args_list_getattribute_2 _ _) (meets_getattribute_miss_list a xs k sl name _ hmiss hname hsz) (hx,hA,λh' tk' e hx'=>?_))|wp_step))
 let(t',u',he):=hx'.there;show Lh _ _ (getattributeRaised _ _ _ _ _ _ _) _ _ _;unfold getattributeRaised
 repeat (any_goals (first|assumption|wp_step))
 exact h _ _ hx'.keeps
def F.entry_dul:entryFor table "dict.update.loop"=some K6.«dict.update.loop»:=entryFor_of_tree (by kernel_rfl)
def F.plain_dul:plainId "dict.update.loop"=true:=⋯
section
variable {prog:K8}{w:K9}{K:Type} [DecidableEq K] {knd:KeyKind prog w K}{A:Lf}{R:Result->Ld->Prop}
def v9:typeLookup (.type "list") "keys"=pure none:=am_miss_of_fast ⋯
end
end PySem
namespace L2
open PySem PySem.Spec PyProof.Rows
section
section
variable {f:MG->M W}
end
end
end L2
namespace L2
open PySem
section
variable {β:Type}{h:↑Ob}{Q:β->↑Ob->Prop}{d:Nat}
def oU {c:Str}{ns:↑Str}{ws:↑W}(e:h[d]?=some (.ins c ns ws)):Of c (.loc d) h=.ok (d ,ns,ws) h:=by unfold Of;simp only[e,if_true]
def cG {c f:Str}{ns:↑Str}{ws:↑W}{w:W}{k:W->M β}(e:h[d]?=some (.ins c ns ws))(e2:OV ns ws f=`w)(q:Ok (k w) h Q):Ok (bd (NT c f<|.loc d) k) h Q:=by refine bj (a:=w) (h':=h) ?_ q;unfold NT;rw[eI<|oU e];simp only[e2];rfl
def ye {c f:Str}{ns ns':↑Str}{ws ws':↑W}{k:Unit->M β}(e:h[d]?=some (.ins c ns ws))(z:⇑ns<1000)(e2:putN ns ws f y=(ns' ,ws'))(q:Ok (k ()) (h.set d<|.ins c ns' ws') Q):Ok (bd (Qr c f (.loc d) y) k) h Q:=by refine bj (a:=()) (h':=h.set d<|.ins c ns' ws') ?_ q;unfold Qr;rw[eI<|oU e];simp only[bf z,e2]
def dS {c m:Str}{ns:↑Str}{ws:↑W}{k:W->M β}(e:h[d]?=some (.ins c ns ws))(z:m ∉ns)(q:Ok (k<|.loc d) h Q):Ok (bd (isI c m<|.loc d) k) h Q:=by refine bj (a:=.loc d) (h':=h) ?_ q;unfold isI;rw[eI<|oU e];simp only[aZ z];rfl
def AJ {c:Str}{n:Nat}{fn:↑W->M W}{ws:↑W}{P:↑Ob->Prop}{k:W->M β}(hn:⇑ws+1=n)(p:Ok (fn (.loc ⇑h::ws)) (h++[.ins c [] []]) λw h'=>w=.non/\P h')(q:∀h' ,P h'->Ok (k<|.loc ⇑h) h' Q):
  Ok (bd (λh=>match arW n fn (.loc ⇑h::ws) (h++[.ins c [] []]) with
 |.ok .non h'=>.ok (.loc ⇑h) h'
 |_=>.bad) k) h Q:=by
 let(w,h',e,rfl,hp):=p;refine bj (a:=.loc ⇑h) (h':=h') ?_<|q h' hp;have:arW n fn (.loc ⇑h::ws)=fn (.loc ⇑h::ws):=zQ hn;simp only[this,e]
end
noncomputable def ctS (g:MG->M Fl):Fl->M Fl:=λx=>match x with|.nx r=>g r|x=>pr x
noncomputable def ctI (f g:MG->M Fl)(ρ:MG):Bool->M Fl:=λb=>if b=true then f ρ else g ρ
def aE (f g:MG->M Fl)(ρ:MG):Q7 f g ρ=bd (f ρ) (ctS g):=by unfold Q7;rfl
def be (g:MG->M Fl)(r:MG):ctS g (.nx r)=g r:=by unfold ctS;rfl
def ba (g:MG->M Fl)(w:W):ctS g (.rt w)=pr (.rt w):=by unfold ctS;rfl
def aY (t:MG->M Bool)(f g:MG->M Fl)(ρ:MG):sIf t f g ρ=bd (t ρ) (ctI f g ρ):=by unfold sIf;rfl
def bR (f g:MG->M Fl)(ρ:MG):ctI f g ρ true=f ρ:=by unfold ctI;rw[bf rfl]
def bS (f g:MG->M Fl)(ρ:MG):ctI f g ρ false=g ρ:=by unfold ctI;rw[aZ Hv]
end L2
namespace L2
open PySem PySem.Spec PyProof.Rows
section
variable {X:Cx}{E:XK}{o e f:Expr}{es:↑Expr}{pos apos cpos:LF}{l:MG->M ↑W}{fo fe ff:MG->M W}
noncomputable def ktW (ws:↑W):M W:=match P6 OH ws with|some ks=>gd (⇑ws<=sizeLine) (pr<|.kt ks)|none=>no
noncomputable def mKt (l:MG->M ↑W):MG->M W:=λρ=>bd (l ρ) ktW
set_option tactic.hygienic true in
theorem o4 {K:Zf}{o:Wo}:∀ {ws:↑W}{vs:↑V}{ks:↑Key},P6 OH ws=`ks->Rvs K o ws vs->vs=ks.map kV
 |[],vs,ks,e,r=>by unfold Rvs at r;cases e;exact r
 |w::ws,vs,ks,e,r=>by
  unfold Rvs at r;let(v,r',rfl,h1,h2):=r;unfold P6 at e;split at e;rename_i b c e1 e2;cases e;rw[ju e1 h1,o4 e2 h2];rfl;cases e
def Ga {x1}(h:JA X E es l):JE X E (.Tuple es x1 pos) (mKt l):=(jV h.h).imp λσ H Q h=>by
 ac_nf;unfold ktW at h1;cases ek:P6 OH x with
 |none=>rw[ek]at h1;exact h1.elim
 |some ks=>
  rw[ek]at h1;let(hz,h1):=h1.gd;refine(by rw[r1.len];exact hz,λq hq=>Ps.at (p:=(p.mu,p.h,upd p.H q<|.tup vx)) h1 rfl (Ex.new hq) (R1.new hq) ?_);unfold Rv;exact(q,rfl,by rw[<-o4 ek r1];exact aq)
noncomputable def oZ:MG->M W:=λJ h=>.ok (.loc ⇑h)<|h++[.dit [] []]
def yI:JE X E (.Dict [] [] pos) oZ:=Qe.imp λσ H Q h=>by let(o,ρ,rfl,R,S,h):=h;intro q hq;exact Ps.at (p:=o.add q (.dit [] [])<|.dT []) h rfl (Ex.add hq) (R.addT hq rfl Rvs.nil) Rv.addLoc
noncomputable def NB (w:W)(h:↑Ob):Option (↑↑Key×↑W):=match w with
 |.loc k=>match h[k]? with|some (.dit ks ws)=>some (ks ,ws)|_=>none
 |_=>none
set_option tactic.hygienic true in
def qT {o:Wo}{w:W}{v:V}{ks:↑↑Key}{ws:↑W}(R:Rel X.K o)(e:NB w o.h=some (ks ,ws))(h:Rv X.K o w v):∃a kvs,v=.ref a/\Rd o.H a (.dT kvs)/\kvs.map (·.1)=ks/\Rvs X.K o ws (kvs.map (·.2)):=by
 cases w with
 |loc k=>
  unfold NB at e;dsimp only at e;split at e;rename_i a b hk;cases e;unfold Rv at h;let(kvs,h1,h2,h3):=R.ob k _ hk;exact(_,kvs,h.2,.inl h1,h2,h3);cases e
 |_=>cases e
noncomputable def OI:W->Option ↑Key|.kt ks=>`ks|.tup l=>P6 OH l|_=>none
def Bq {K:Zf}{o:Wo}{x:W}{v:V}{k:↑Key}(e:OI x=`k)(h:Rv K o x v):∃b,v=.ref b/\SqT K o.H b (k.map kV):=by
 cases x with
 |kt ks=>cases e;unfold Rv at h;let(a,e,h):=h;exact(a,e,.of h)
 |tup l=>
  unfold Rv at h;let(a,vs,e1,s,r):=h;exact(a,e1,by rw[<-o4 (show P6 OH l=`k from e) r];exact s)
 |_=>cases e
def Bp (I:Inv X gV σ H s)(h:SqT X.K H b (k.map kV)):(Lu<|cA X.prog X.w).is s.heap k b:=by let(its,r,(o,h1,h2,n,h3),_):=I.tuple h;exact(o,its.toArray,n,h1,h2,h3,by simpa using j1 r)
def BJ {Ex:K5->Ld->Prop}{Q:K5->Ld->Prop}(hu:A.units+1<Lg)(I:Inv X gV σ H s)(e:Rd H a (.dT kvs))(eb:SqT X.K H b (k.map kV))(rd:RelV d r)(h:∀w' s' ,Inv X gV σ H s'->RelV ((Sj kvs k).getD d) w'->Q w' s'):
  Lh (Li X.prog X.w) A (call (.builtin "dict.get") [.ref a,.ref b,r]) Q Ex s:=by
 let(z,hd,xs,rel,dd):=mq I.hok e;refine call_meetsIn PySem.F.slot_dict_get dd.typeIs PySem.F.entry_dict_get (PySem.F.args_dict_get_3 _ _ _) (meetsH_dict_get_default (Lu<|cA X.prog X.w) a b hd r) (Mj hu,k,xs,Bp I eb,dd,h _ _ (I.tok _) ?_);exact (rel.val k).getD rd
noncomputable def CP (K:Zf)(td ty tx:TE):TE:=λσ H Q=>td σ H λx H1=>∃a,x=.ref a/\IsD H1 a/\ty σ H1 λy H2=>tx σ H2 λz H3=>∃kvs k b,Rd H3 a (.dT kvs)/\y=.ref b/\SqT K H3 b (k.map kV)/\Q ((Sj kvs k).getD z) H3
def xR {td ty tx:TE}(hu:X.A.units+1<Lg)(ho:PE X o td)(he:PE X e ty)(hf:PE X f tx)(m:M2 X o "get" apos e f cpos):PE X (.Call (.Attribute o "get" apos) [e,f] [] cpos) (CP X.K td ty tx):=by
 intro gV s σ H Q I h;refine wpAny_Call_method m.base m.few m.line PySem.F.plainAttrs_dict PySem.F.slot_dict_get PySem.F.type_dict_get (thn (ho gV s σ H _ I h) λu s1 qz=>?_);let(x,H1,I1,rx,a,ex,d,q1):=qz;subst ex;obtain rfl:u=K5.ref a:=rx;let(t1,t2,_):=EK I1 d;refine(t1,t2,?_);rw[m.trees]
 refine Calls.callWith_builtin rfl (Calls.evalArgs_plain (Calls.spliced_cons (thn (he gV s1 σ H1 _ I1 q1) λiv s2 (y,H2,I2,ry,q2)=>
  Calls.spliced_cons (thn (hf gV s2 σ H2 _ I2 q2) λfv s3 (z,H3,I3,rz,kvs,k,b,e3,ey,eb,q3)=>Calls.spliced_nil ?_))))
 subst ey;obtain rfl:iv=K5.ref b:=ry;exact BJ hu I3 e3 eb rz λw' s4 I4 rw'=>(_,H3,I4,rw',q3)
noncomputable def Ol (x:W):M W:=λh=>match NB x h with|some _=>.ok x h|none=>.bad
noncomputable def N4 (x y d:W):M W:=λh=>match NB x h with
 |some (ks ,ws)=>match OI y with|some k=>.ok ((atK ks ws k).getD d) h|none=>.bad
 |none=>.bad
noncomputable def O8 (fo fe ff:MG->M W):MG->M W:=λρ=>bd (fo ρ) λx=>bd (Ol x) λx=>bd (fe ρ) λy=>bd (ff ρ) λd=>N4 x y d
def Be (hu:X.A.units+1<Lg)(ho:JE X E o fo)(he:JE X E e fe)(hf:JE X E f ff)(m:M2 X o "get" apos e f cpos):JE X E (.Call (.Attribute o "get" apos) [e,f] [] cpos) (O8 fo fe ff):=
 (xR hu ho.h he.h hf.h m).imp λσ H Q h=>by
  let(w,ρ,rfl,R,S,h):=h;refine(w,ρ,rfl,R,S,Ps.bd h λp x vx e1 R1 r1 h1=>?_);unfold bd Ol at h1;cases ed:NB x p.h with
  |none=>rw[ed]at h1;exact h1.elim
  |some kw=>
   let(ks0,ws0):=kw;rw[ed]at h1;let(a,kvs0,rfl,d1,_,_):=qT R1 ed r1;refine(a,rfl,.inr (kvs0,d1),p,ρ,rfl,R1,S.mono R e1,Ps.bd (h:=h1) λq y vy e2 R2 r2 h2=>(q,ρ,rfl,R2,(S.mono R e1).mono R1 e2,Ps.bd h2 λs z vz e3 R3 r3 h3=>?_));have rx:=(r1.mono R1 e2).mono R2 e3;have ry:=r2.mono R2 e3;unfold N4 at h3;cases eh:NB x s.h with
   |none=>rw[eh]at h3;exact h3.elim
   |some kw=>
    let(ks,ws):=kw;rw[eh]at h3;cases ek:OI y with
    |none=>simp only[ek]at h3;exact h3.elim
    |some k=>
     simp only[ek]at h3;let(a',kvs,ea,g1,g2,g3):=qT R3 eh rx;cases ea;let(b,rfl,sb):=Bq ek ry;refine(kvs,k,b,g1,rfl,sb,?_);have hv:=iI (x:=k) g2 g3;cases e4:atK ks ws k with
     |none=>
      rw[e4]at hv h3;rw[show Sj kvs k=none from hv];exact Ps.pr (c:=cg X E) (r:=Rv X.K) (a:=z) h3 R3 r3
     |some w=>
      rw[e4]at hv h3;let(v,hv,rv):=hv;rw[show Sj kvs k=`v from hv];exact Ps.pr (c:=cg X E) (r:=Rv X.K) (a:=w) h3 R3 rv
end
section
open Sem (wp)
open Builtin
abbrev MJ (h:La)(z TI TO:Lb)(f0:K5)(f1:Bool):Prop:=
 h.get? z=some {cls:=.type "zip",dict:=none,data:=.fields #[f0,.bool f1,.bool false,.ref TI,.ref TO],slots:= #[]}
def F0 (f:K5):Prop:=f=.none\/ ∃T:Nat,f=LV T
structure YS (h:La)(z TI TO i1 i2 l1 l2:Lb)(T1 T2:String)(xs ys:Array K5)(n:Nat):Prop where
 z:∃f0 f1,F0 f0/\MJ h z TI TO f0 f1
 ti:Mq h TI (.ref i1) (.ref i2)
 to:∃a b,Mq h TO a b
 u1:ItAt h T1 i1 l1 n
 u2:ItAt h T2 i2 l2 n
 s1:SeqAt h T1 l1 xs
 s2:SeqAt h T2 l2 ys
section
variable {prog:K8}{w:K9}{A:Lf}{E:K5->Ld->Prop}{s:Ld}
def qN {z TI TO:Lb}{f1:Bool}{Q:Bool->Ld->Prop}(hz:MJ s.heap z TI TO f0 f1)(hf:F0 f0)(kt:Q true s)(kf:∀h' ,MJ h' z TI TO f0 true->Ia z s.heap h'->Q false {s with heap:=h'}):Lh (Li prog w) A (SmallTypes.ownedTupleIsFree<|.ref z) Q E s:=by
 unfold SmallTypes.ownedTupleIsFree;rcases hf with rfl|⟨T,rfl⟩
 exact Lj<|Mb hz rfl (x:=.none) rfl<|Lm kt
 .refine Lj<|Mb hz rfl (x:=LV T) rfl ?_;show Lh _ _ (loadIfAlive T>>=_) _ _ s;refine Lj<|wpAny_alive ?_;cases s.heap.get? T with
  |none=>exact Lm kt
  |some o=>
   show Lh _ _ (field (.ref z) 1>>=_) _ _ s;refine Lj<|Mb hz rfl (x:=.bool f1) rfl ?_;cases f1 with|true=>exact Lm (kf s.heap hz<|Ia.refl _ _)|false=>exact Lj (Mr hz ⇑_ λh1 z1 e1=>Lm<|kf h1 z1 e1)
where
 wpAny_alive {a:Lb}{M:Model}{Q:Option Le->Ld->Prop}{s:Ld} (h:Q (s.heap.get? a) s):Lh M A (loadIfAlive a) Q E s:=λΓ p _=>by unfold loadIfAlive;rw[Sem.wp_loadIfAlive];simpa using h
def vc {z TI TO i1 i2 l1 l2:Lb}{n:Nat}{Q:K5->Ld->Prop}(hh:A.handled=none)(D:ZA z TI TO i1 i2 l1 l2)(Z:YS s.heap z TI TO i1 i2 l1 l2 T1 T2 xs ys n)(hx:xs[n]?=`x)(hy:ys[n]?=`y)
  (k:∀h' tk ,YS h' z TI TO i1 i2 l1 l2 T1 T2 xs ys (n+1)->Mq h' ↥s x y->h'.objs.size=↥s+1->(∀c o ,c≠z->c≠TO->c≠i1->c≠i2->s.heap.get? c=`o->h'.get? c=`o)->Q (.ref ↥s) {s with heap:=h',toks:=tk}):
  Lh (Li prog w) A (K6.«zip.__next__» ([.ref z],[])) (λfin s'=>∃v ,fin=.done (.ret v)/\Q v s') E s:=by
 let((f0,f1,hf,hz),hti,(a,b,hto),u1,u2,s1,s2):=Z;have nx:n<xs.size:=(Jv.mp hx).1;have ny:n<ys.size:=(Jv.mp hy).1;show Lh _ _ (field (.ref z) 2>>=_) _ _ s;refine Lj<|Mb hz rfl (x:=.bool false) rfl ?_;show Lh _ _ (field (.ref z) 3>>=_) _ _ s;refine Lj<|Mb hz rfl (x:=.ref TI) rfl<|Lj<|Lr hti rfl ?_;show Lh _ _ (SmallTypes.ownedTupleIsFree (.ref z)>>=_) _ _ s;refine Lj (qN hz hf ?_ λh1 z1 e1=>?_)
 .simp only[if_true];refine Lj (Ln<|Lj<|Mb hz rfl (x:=.ref TO) rfl<|Lj<|Mr hz ⇑_ λh1 z1 e1=>?_)
  replace z1:MJ h1 z TI TO .ellipsis f1:=z1
  refine Lj ?_;simp only[Jw,Jx,HX,Ib];refine Lj<|Lj<|Ms ?_;show Lh _ _ (SmallTypes.nextOf (.ref i1)>>=_) _ _ _;refine Lj ((bD (prog:=prog) (w:=w) hh T1 i1 l1 D.b4 xs).item n _ _ _ nx (u1.keep λo q=>e1.extBut _ _ D.a3 q,s1.keep λo q=>e1.extBut _ _ D.b2 q) λx' h2 tk2 px st2 e2=>Lm ?_);have:x'=x:=Option.some.inj<|px.symm.trans hx;subst this;have to2:Mq h2 TO a b:=e2.extBut _ _ D.a8<|e1.extBut _ _ D.a2 hto;refine Lj (Lr to2 rfl<|Lj<|Mt to2 λh3 to3 e3=>?_)
  replace to3:Mq h3 TO x' b:=to3
  refine Lj<|Mu<|Lm<|Lj<|Lj<|Ms ?_;show Lh _ _ (SmallTypes.nextOf (.ref i2)>>=_) _ _ _;refine Lj ((bD (prog:=prog) (w:=w) hh T2 i2 l2 D.b9 ys).item n _ _ _ ny (u2.keep λo q=>e3.extBut _ _ (Ne.symm D.a9)<|e2.extBut _ _ (Ne.symm D.b1)<|e1.extBut _ _ D.a4 q,s2.keep λo q=>e3.extBut _ _ D.b7<|e2.extBut _ _ D.b8<|e1.extBut _ _ D.b6 q) λy' h4 tk4 py st4 e4=>Lm ?_);have:y'=y:=Option.some.inj<|py.symm.trans hy;subst this;have to4:Mq h4 TO x' b:=e4.extBut _ _ D.a9 to3;refine Lj (Lr to4 rfl<|Lj<|Mt to4 λh5 to5 e5=>?_)
  replace to5:Mq h5 TO x' y':=to5
  refine Lj<|Mu<|Lm<|Lm ?_;refine Lj<|Lr to5 rfl<|Lj<|wpAny_newTuple ?_;have zs:h5.objs.size=↥s:=by rw[e5.1,e4.1,e3.1,e2.1,e1.1]
  have z5:MJ h5 z TI TO .ellipsis f1:=e5.extBut _ _ (Ne.symm D.a2)<|e4.extBut _ _ (Ne.symm D.a4)<|e3.extBut _ _ (Ne.symm D.a2)<|e2.extBut _ _ (Ne.symm D.a3) z1;have k5:∀c o,c≠z->c≠TO->c≠i1->c≠i2->s.heap.get? c=`o->h5.get? c=`o:=λc o c1 c2 c3 c4 e=>e5.extBut _ _ c2<|e4.extBut _ _ c4<|e3.extBut _ _ c2<|e2.extBut _ _ c3<|e1.extBut _ _ c1 e;have zl:z<h5.objs.size:=Hj z5;show Lh _ _ (SmallTypes.ownedTupleHandOut (.ref z) (.ref h5.objs.size)>>=_) _ _ _;refine Lj ?_;unfold SmallTypes.ownedTupleHandOut;have z6:MJ (h5.push {cls:=.type "tuple",data:=.seq #[x',y']}) z TI TO .ellipsis f1:=He _ z5;refine Lj (Mr z6 ⇑_ λh7 z7 e7=>?_)
  replace z7:MJ h7 z TI TO (LV h5.objs.size) f1:=z7
  refine Mr z7 ⇑_ λh8 z8 e8=>?_
  replace z8:MJ h8 z TI TO (LV h5.objs.size) false:=z8
  have up:∀c o,c≠z->h5.get? c=`o->h8.get? c=`o:=λc o c1 e=>e8.extBut _ _ c1<|e7.extBut _ _ c1<|He _ e;have pr8:Mq h8 h5.objs.size x' y':=e8.extBut _ _ (IG zl)<|e7.extBut _ _ (IG zl)<|Hu _ rfl;have sz8:h8.objs.size=h5.objs.size+1:=by rw[e8.1,e7.1,H0]
  rw[zs]at z8 pr8 sz8;refine Lm (_,rfl,?_);show Q (.ref h5.objs.size) _;rw[zs];refine k h8 _ ((_,_,.inr (_,rfl),z8),up _ _ D.a1<|k5 _ _ D.a1 D.a5 D.a6 D.a7 hti,(_,_,up _ _ D.a2 to5),?_,?_,s1.keep λo q=>up _ _ D.b2<|k5 _ _ D.b2 D.b3 D.b4 D.b5 q,s2.keep λo q=>up _ _ D.b6<|k5 _ _ D.b6 D.b7 D.b8 D.b9 q) pr8 sz8 λc o c1 c2 c3 c4 e=>up c o c1<|k5 c o c1 c2 c3 c4 e;exact st2.1.keep λo q=>up _ _ D.a3<|e5.extBut _ _ (Ne.symm D.a8)<|e4.extBut _ _ D.b1<|e3.extBut _ _ (Ne.symm D.a8) q;exact st4.1.keep λo q=>up _ _ D.a4<|e5.extBut _ _ (Ne.symm D.a9) q
 .simp only[Ie,if_false];refine Lj ?_;rw[<-I0];simp only[HX,Ib];refine Lj<|Lj<|Lp ?_;show Lh _ _ (SmallTypes.nextOf (.ref i1)>>=_) _ _ _;refine Lj ((bD (prog:=prog) (w:=w) hh T1 i1 l1 D.b4 xs).item n _ _ _ nx (u1.keep λo q=>e1.extBut _ _ D.a3 q,s1.keep λo q=>e1.extBut _ _ D.b2 q) λx' h2 tk2 px st2 e2=>Lm ?_);have:x'=x:=Option.some.inj<|px.symm.trans hx;subst this;refine Lm<|Lj<|Lj<|Lp ?_;show Lh _ _ (SmallTypes.nextOf (.ref i2)>>=_) _ _ _;refine Lj ((bD (prog:=prog) (w:=w) hh T2 i2 l2 D.b9 ys).item n _ _ _ ny (u2.keep λo q=>e2.extBut _ _ (Ne.symm D.b1)<|e1.extBut _ _ D.a4 q,s2.keep λo q=>e2.extBut _ _ D.b8<|e1.extBut _ _ D.b6 q) λy' h4 tk4 py st4 e4=>Lm ?_);have:y'=y:=Option.some.inj<|py.symm.trans hy;subst this;refine Lm (Lm<|Lj<|wpAny_newTuple ?_<|show (2:Nat)<=sizeLine by decide);have zs:h4.objs.size=↥s:=by rw[e4.1,e2.1,e1.1]
  have k4:∀c o,c≠z->c≠i1->c≠i2->s.heap.get? c=`o->h4.get? c=`o:=λc o c1 c3 c4 e=>e4.extBut _ _ c4<|e2.extBut _ _ c3<|e1.extBut _ _ c1 e;have z4:MJ h4 z TI TO f0 true:=e4.extBut _ _ (Ne.symm D.a4)<|e2.extBut _ _ (Ne.symm D.a3) z1;have up:∀c o,h4.get? c=`o->(h4.push {cls:=.type "tuple",data:=.seq #[x',y']}).get? c=`o:=λc o e=>He _ e;refine Lm (_,rfl,?_);show Q (.ref h4.objs.size) _;have pr8:Mq (h4.push {cls:=.type "tuple",data:=.seq #[x',y']}) h4.objs.size x' y':=Hu _ rfl;have sz8:(h4.push {cls:=.type "tuple",data:=.seq #[x',y']}).objs.size=h4.objs.size+1:=H0 ..;rw[zs]at pr8 sz8 ⊢;refine k _ _ ((_,_,hf,up _ _ z4),up _ _<|k4 _ _ D.a1 D.a6 D.a7 hti,(_,_,up _ _<|k4 _ _ D.a2 D.a8 D.a9 hto),?_,?_,s1.keep λo q=>up _ _<|k4 _ _ D.b2 D.b4 D.b5 q,s2.keep λo q=>up _ _<|k4 _ _ D.b6 D.b8 D.b9 q) pr8 sz8 λc o c1 c2 c3 c4 e=>up c o<|k4 c o c1 c3 c4 e;exact st2.1.keep λo q=>up _ _<|e4.extBut _ _ D.b1 q;exact st4.1.keep λo q=>up _ _ q
def wM {z TI TO i1 i2 l1 l2:Lb}{n:Nat}{Q:Fin->Ld->Prop}(hh:A.handled=none)(D:ZA z TI TO i1 i2 l1 l2)(Z:YS s.heap z TI TO i1 i2 l1 l2 T1 T2 xs ys n)(he:(n=xs.size/\n<=ys.size)\/(n<xs.size/\n=ys.size))
  (k:∀h' tk e ,(∀c o ,c≠z->c≠TO->c≠i1->c≠i2->s.heap.get? c=`o->h'.get? c=`o)->(∃o ,h'.get? e=`o/\o.cls=.type "StopIteration")->E (.ref e) {s with heap:=h',toks:=tk}):
  Lh (Li prog w) A (K6.«zip.__next__» ([.ref z],[])) Q E s:=by
 let((f0,f1,hf,hz),hti,(a,b,hto),u1,u2,s1,s2):=Z;show Lh _ _ (field (.ref z) 2>>=_) _ _ s;refine Lj<|Mb hz rfl (x:=.bool false) rfl ?_;show Lh _ _ (field (.ref z) 3>>=_) _ _ s;refine Lj<|Mb hz rfl (x:=.ref TI) rfl<|Lj<|Lr hti rfl ?_;show Lh _ _ (SmallTypes.ownedTupleIsFree (.ref z)>>=_) _ _ s;refine Lj (qN hz hf ?_ λh1 z1 e1=>?_)
 .simp only[if_true];refine Lj (Ln<|Lj<|Mb hz rfl (x:=.ref TO) rfl<|Lj<|Mr hz ⇑_ λh1 z1 e1=>?_)
  replace z1:MJ h1 z TI TO .ellipsis f1:=z1
  refine Lj ?_;simp only[Jw,Jx,HX,Ib];refine Lj<|Lj<|Ms ?_;show Lh _ _ (SmallTypes.nextOf (.ref i1)>>=_) _ _ _;have st1:ItAt h1 T1 i1 l1 n/\SeqAt h1 T1 l1 xs:=(u1.keep λo q=>e1.extBut _ _ D.a3 q,s1.keep λo q=>e1.extBut _ _ D.b2 q)
  rcases he with⟨rfl,_⟩|⟨nx,hy⟩
  .refine Lj ((bD (prog:=prog) (w:=w) hh T1 i1 l1 D.b4 xs).done _ _ _ st1 λh2 e e2 he=>?_);let(oe,g1,g2):=he;have z2:MJ h2 z TI TO .ellipsis f1:=e2 _ _ (Ne.symm D.a3) z1;have ez:e≠z:=λq=>by subst q;rw[z2]at g1;cases g1;simp at g2
   exact Mr z2 ⇑_ λh3 J e3=>k h3 _ e (λc o c1 J c3 J q=>e3.extBut _ _ c1<|e2 _ _ c3<|e1.extBut _ _ c1 q) (oe,e3.extBut _ _ ez g1,g2)
  .refine Lj ((bD (prog:=prog) (w:=w) hh T1 i1 l1 D.b4 xs).item n _ _ _ nx st1 λx' h2 tk2 px st2 e2=>Lm ?_);have to2:Mq h2 TO a b:=e2.extBut _ _ D.a8<|e1.extBut _ _ D.a2 hto;refine Lj (Lr to2 rfl<|Lj<|Mt to2 λh3 to3 e3=>?_);refine Lj<|Mu<|Lm<|Lj<|Lj<|Ms ?_;show Lh _ _ (SmallTypes.nextOf (.ref i2)>>=_) _ _ _;subst hy;refine Lj ((bD (prog:=prog) (w:=w) hh T2 i2 l2 D.b9 ys).done _ _ _ (u2.keep λo q=>e3.extBut _ _ (Ne.symm D.a9)<|e2.extBut _ _ (Ne.symm D.b1)<|e1.extBut _ _ D.a4 q,s2.keep λo q=>e3.extBut _ _ D.b7<|e2.extBut _ _ D.b8<|e1.extBut _ _ D.b6 q) λh4 e e4 he=>?_);let(oe,g1,g2):=he;have z4:MJ h4 z TI TO .ellipsis f1:=e4 _ _ (Ne.symm D.a4)<|e3.extBut _ _ (Ne.symm D.a2)<|e2.extBut _ _ (Ne.symm D.a3) z1;have ez:e≠z:=λq=>by subst q;rw[z4]at g1;cases g1;simp at g2
   exact Mr z4 ⇑_ λh5 J e5=>k h5 _ e (λc o c1 c2 c3 c4 q=>e5.extBut _ _ c1<|e4 _ _ c4<|e3.extBut _ _ c2<|e2.extBut _ _ c3<|e1.extBut _ _ c1 q) (oe,e5.extBut _ _ ez g1,g2)
 .simp only[Ie,if_false];refine Lj ?_;rw[<-I0];simp only[HX,Ib];refine Lj<|Lj<|Lp ?_;show Lh _ _ (SmallTypes.nextOf (.ref i1)>>=_) _ _ _;have st1:ItAt h1 T1 i1 l1 n/\SeqAt h1 T1 l1 xs:=(u1.keep λo q=>e1.extBut _ _ D.a3 q,s1.keep λo q=>e1.extBut _ _ D.b2 q)
  rcases he with⟨rfl,_⟩|⟨nx,hy⟩
  refine Lj ((bD (prog:=prog) (w:=w) hh T1 i1 l1 D.b4 xs).done _ _ _ st1 λh2 e e2 he=>?_);exact k h2 _ e (λc o c1 J c3 J q=>e2 _ _ c3<|e1.extBut _ _ c1 q) he;refine Lj ((bD (prog:=prog) (w:=w) hh T1 i1 l1 D.b4 xs).item n _ _ _ nx st1 λx' h2 tk2 px st2 e2=>Lm ?_);refine Lm<|Lj<|Lj<|Lp ?_;show Lh _ _ (SmallTypes.nextOf (.ref i2)>>=_) _ _ _;subst hy;refine Lj ((bD (prog:=prog) (w:=w) hh T2 i2 l2 D.b9 ys).done _ _ _ (u2.keep λo q=>e2.extBut _ _ (Ne.symm D.b1)<|e1.extBut _ _ D.a4 q,s2.keep λo q=>e2.extBut _ _ D.b8<|e1.extBut _ _ D.b6 q) λh4 e e4 he=>?_);exact k h4 _ e (λc o c1 c2 c3 c4 q=>e4 _ _ c4<|e2.extBut _ _ c3<|e1.extBut _ _ c1 q) he
def vQ {z TI TO i1 i2 l1 l2:Lb}{n:Nat}{Q:Option K5->Ld->Prop}(hh:A.in1.handled=none)(D:ZA z TI TO i1 i2 l1 l2)(Z:YS s.heap z TI TO i1 i2 l1 l2 T1 T2 xs ys n)(hx:xs[n]?=`x)(hy:ys[n]?=`y)
  (k:∀h' tk ,YS h' z TI TO i1 i2 l1 l2 T1 T2 xs ys (n+1)->Mq h' ↥s x y->h'.objs.size=↥s+1->(∀c o ,c≠z->c≠TO->c≠i1->c≠i2->s.heap.get? c=`o->h'.get? c=`o)->Q (some<|.ref ↥s) {s with heap:=h',toks:=tk}):
  Lh (Li prog w) A (LS<|.ref z) Q E s:=by
 have hT:s.TypeIs (.ref z) "zip":=by let(f0,f1,_,hz):=Z.z;exact(_,hz,rfl)
 unfold LS;exact Lj<|wpAny_attempt<|wpAny_callSpecial?_slot (name:=Str.ofString "__next__") hT F.slot_zip_next<|Ll F.slot_zip_next hT F.entry_zip_next (vc hh D Z hx hy λh' tk a1 a2 a3 a4=>Lm<|k h' tk a1 a2 a3 a4)<|F.args_zip_next_1 _
def zn {z TI TO i1 i2 l1 l2:Lb}{n:Nat}{Q:Option K5->Ld->Prop}(hh:A.in1.handled=none)(D:ZA z TI TO i1 i2 l1 l2)(Z:YS s.heap z TI TO i1 i2 l1 l2 T1 T2 xs ys n)(he:(n=xs.size/\n<=ys.size)\/(n<xs.size/\n=ys.size))
  (k:∀h' tk ,(∀c o ,c≠z->c≠TO->c≠i1->c≠i2->s.heap.get? c=`o->h'.get? c=`o)->Q none {s with heap:=h',toks:=tk}):Lh (Li prog w) A (LS<|.ref z) Q E s:=by
 have hT:s.TypeIs (.ref z) "zip":=by let(f0,f1,_,hz):=Z.z;exact(_,hz,rfl)
 unfold LS;refine Lj<|wpAny_attempt<|wpAny_callSpecial?_slot (name:=Str.ofString "__next__") hT F.slot_zip_next<|Ll F.slot_zip_next hT F.entry_zip_next (wM hh D Z he λh' tk e hk (o,g1,g2)=>?_)<|F.args_zip_next_1 _;exact Lj<|Lo (T:="StopIteration") (b:=true) (o,g1,g2) isSubtype_stop<|Lm<|k _ _ hk
def wg {z TI TO:Lb}{f1:Bool}{Q:K5->Ld->Prop}(hz:MJ s.heap z TI TO f0 f1)(h:Q (.ref z) s):Lh (Li prog w) A (pyIter<|.ref z) Q E s:=by
 have hT:s.TypeIs (.ref z) "zip":=(_,hz,rfl)
 refine wpAny_pyIter_slot hT F.slot_zip_iter<|Ll F.slot_zip_iter hT F.entry_zip_iter ?_<|F.args_zip_iter_1 _;show Lh _ _ (ret<|.ref z) _ _ s;exact Lm (_,rfl,"zip",_,hT,F.slot_zip_next.lookup,h)
end
structure YO (h:La)(z TI TO i1 i2 a b:Lb)(T1 T2:String)(n:Nat):Prop where
 z:∃f0 f1,F0 f0/\MJ h z TI TO f0 f1
 ti:Mq h TI (.ref i1) (.ref i2)
 to:∃u v,Mq h TO u v
 u1:ItAt h T1 i1 a n
 u2:ItAt h T2 i2 b n
theorem YO.keep {z TI TO i1 i2 a b:Lb}{n:Nat}(Z:YO h z TI TO i1 i2 a b T1 T2 n)(k:∀c∈[z,TI,TO,i1,i2] ,∀o,h.get? c=`o->h'.get? c=`o):YO h' z TI TO i1 i2 a b T1 T2 n:=
 (let (f0,f1,q1,q2):=Z.z;(f0,f1,q1,k z ⇑_ _ q2),k TI ⇑_ _ Z.ti,let (u,v,q):=Z.to;(u,v,k TO ⇑_ _ q),Z.u1.keep λo q=>k i1 ⇑_ o q,Z.u2.keep λo q=>k i2 ⇑_ o q)
def vf {P:K8}{w:K9}{K:Zf}{xn:Str}{tpos:LF}{a b z TI TO i1 i2:Lb}{j k:Bool}(D:ZA z TI TO i1 i2 a b):M3 P w K (.Name xn tpos) (Itz j k K a b) [z,TI,TO,i1,i2] z (λi h=>YO h z TI TO i1 i2 a b (tyK j) (tyK k) i) where
 mem:=⇑_
 obj:=λi h st c hc=>by
  simp only[Hd,HB,or_false]at hc;rcases hc with rfl|rfl|rfl|rfl|rfl
  let(_,_,_,q):=st.z;exact(_,q,λv z=>by cases z);exact(_,st.ti,λv z=>by cases z);let(_,_,q):=st.to;exact(_,q,λv z=>by cases z);let(o,e,c,d):=st.u1;exact(o,e,λv z=>by rw[d]at z;cases z);let(o,e,c,d):=st.u2;exact(o,e,λv z=>by rw[d]at z;cases z)
 keep:=λi h h' st kk=>st.keep kk
 item:=by
  intro X hP hw hK hc i gV s σ H E I hf st hg;subst hP hw hK;let(xs,ys,x,y,hq1,hq2,hx,hy):=hg;let(is1,rv1,q1):=I.seqK hq1;let(is2,rv2,q2):=I.seqK hq2;let(u,hu,ru):=rv1.get hx;let(v,hv,rv):=rv2.get hy;have fz:=hf z ⇑_;have fO:=hf TO ⇑_;have f1:=hf i1 ⇑_;have f2:=hf i2 ⇑_;refine vQ (I.ok.hd hc) D (st.z,st.ti,st.to,st.u1,st.u2,q1,q2) (by simpa using hu) (by simpa using hv) λh' tk Z' hT hsz hk=>?_;have nT:H ↥s=none:=I.hok.fresh<|Hc _;have lt:∀c o,s.heap.get? c=`o->c≠↥s:=λc o q=>Hs<|Hj q;have ltH:∀c o,H c=`o->c≠↥s:=λc o q z=>by rw[z,nT]at q;cases q
  have neH:∀c o,H c=`o->c≠z/\c≠TO/\c≠i1/\c≠i2:=λc o q=>(λz=>by (rw[z,fz.1]at q;cases q),λz=>by (rw[z,fO.1]at q;cases q),λz=>by (rw[z,f1.1]at q;cases q),λz=>by (rw[z,f2.1]at q;cases q))
  have hk':∀c o,c ∉ [z,TO,i1,i2]->s.heap.get? c=`o->h'.get? c=`o:=λc o n q=>hk c o (λz=>n<|by simp [z]) (λz=>n<|by simp [z]) (λz=>n<|by simp [z]) (λz=>n<|by simp [z]) q;have I1:Inv X gV σ (upd H ↥s (.tup [x,y])) {s with heap:=h',toks:=tk}:=by
   refine I.call' (s':={s with heap:=h',toks:=tk}) (ch:=[z,TO,i1,i2]) rfl (λb o q n hb hx=>?_,λb o q n hb hx=>?_,λb o q n hx=>?_,λb o q hx=>?_,λb xs q=>?_,λb o u q=>?_,λb ps q=>?_) (λb o q=>?_) I.bare λb hb=>?_;exact hk' b o hx q;exact(o.slots,hk' b o hx q);rw[af<|lt b o q];exact n;exact(o,hk' b o hx q);rw[af<|ltH b _ q];exact q;rw[af<|ltH b _ q];exact q;exact(#[],by rw[af<|ltH b _ q,q];simp)
   .by_cases hb:b=↥s;subst hb;rw[aq]at q;cases q;exact(by show 2<=sizeLine;decide,_,.cons ru<|.cons rv .nil,(_,hT,rfl,_,rfl),_,hT,rfl)
    .rw[af hb]at q;refine (I.hok b o q).stay (λc v hc r=>?_) (λc r=>by rw[af<|ltH c _ r];exact r) λc xs r=>by rw[af<|ltH c _ r];exact r
     have:∃o,H c=`o:=by
      rcases hc with rfl|hc
      exact(o,q);exact(_,hc)
     let(o',qo):=this;let(n1,n2,n3,n4):=neH c o' qo;exact hk c v n1 n2 n3 n4 r
   .have fb:MI X gV H b:=by
     simp only[Hd,HB,or_false]at hb;rcases hb with rfl|rfl|rfl|rfl
     exact fz;exact fO;exact f1;exact f2
    exact(fb.2.2.2.1,fb.2.1,fb.2.2.2.2.1,fb.2.2.2.2.2)
  have nn:∀c∈[z,TI,TO,i1,i2],c≠↥s:=λc hc=>by
   simp only[Hd,HB,or_false]at hc;rcases hc with rfl|rfl|rfl|rfl|rfl
   let(_,_,_,q):=st.z;exact lt _ _ q;exact lt _ _ st.ti;let(_,_,q):=st.to;exact lt _ _ q;let(o,e,_):=st.u1;exact lt _ _ e;let(o,e,_):=st.u2;exact lt _ _ e
  refine(_,rfl,Lm (.ref ↥s,upd H ↥s (.tup [x,y]),I1,rfl,(↥s,x,y,nT,rfl,λxs' ys' h1 h2=>by rw[I.seqK_inj h1 hq1,I.seqK_inj h2 hq2];exact(hx,hy),rfl),(Z'.z,Z'.ti,Z'.to,Z'.u1,Z'.u2),λc hc=>?_));rw[af<|nn c hc];exact (hf c hc).1
 done:=by
  intro X hP hw hK hc i gV s σ H E I hf st hg;subst hP hw hK;let(xs,ys,hq1,hq2,hx):=hg;let(is1,rv1,q1):=I.seqK hq1;let(is2,rv2,q2):=I.seqK hq2;have l1:=⇑rv1;have l2:=⇑rv2;have fz:=hf z ⇑_;have fO:=hf TO ⇑_;have f1:=hf i1 ⇑_;have f2:=hf i2 ⇑_
  refine zn (I.ok.hd hc) D (st.z,st.ti,st.to,st.u1,st.u2,q1,q2) (by
   rw[Ho,Ho]
   omega) λh' tk hk=>(rfl,?_)
  refine I.call' (s':={s with heap:=h',toks:=tk}) (ch:=[z,TO,i1,i2]) rfl (λb o q n hb hx=>?_,λb o q n hb hx=>?_,λb o q n hx=>n,λb o q hx=>?_,λb xs q=>q,λb o u q=>q,λb ps q=>(#[],by rw[q];simp)) (λb o q=>?_) I.bare λb hb=>?_;exact hk b o (λz=>hx<|by simp [z]) (λz=>hx<|by simp [z]) (λz=>hx<|by simp [z]) (λz=>hx<|by simp [z]) q;exact(o.slots,hk b o (λz=>hx<|by simp [z]) (λz=>hx<|by simp [z]) (λz=>hx<|by simp [z]) (λz=>hx<|by simp [z]) q);exact(o,hk b o (λz=>hx<|by simp [z]) (λz=>hx<|by simp [z]) (λz=>hx<|by simp [z]) (λz=>hx<|by simp [z]) q)
  .refine (I.hok b o q).stay (λc v hc r=>?_) (λc r=>r) λc xs r=>r;have:∃o,H c=`o:=by
    rcases hc with rfl|hc
    exact(o,q);exact(_,hc)
   let(o',qo):=this;exact hk c v (λz=>by rw[z,fz.1]at qo;cases qo) (λz=>by rw[z,fO.1]at qo;cases qo) (λz=>by rw[z,f1.1]at qo;cases qo) (λz=>by rw[z,f2.1]at qo;cases qo) r
  .have fb:MI X gV H b:=by
    simp only[Hd,HB,or_false]at hb;rcases hb with rfl|rfl|rfl|rfl
    exact fz;exact fO;exact f1;exact f2
   exact(fb.2.2.2.1,fb.2.1,fb.2.2.2.2.1,fb.2.2.2.2.2)
 self:=λJ J J J J st h=>by let(_,_,_,q):=st.z;exact wg q h
section
variable {X:Cx}
def Au {j k:Bool}{xn:Str}(hg:Gl X "zip")(hm:X.mg "zip"=none)(ha:PA X [a,b] ta)(hs:LH [a,b] X.env=[(false ,LD a X.env),(false ,LD b X.env)])(hs2:LH [b] X.env=[(false ,LD b X.env)]):PI X (.Name xn tpos) (.Call (.Name "zip" p) [a,b] [] pos) (iZip j k X.K ta):=by
 intro gV s σ H R I h;refine Call_ (dU I hg hm boot_zip<|PyProof.Rows.callWith_type1 (thn (ha pos gV s σ H _ I h) λus s1 qz=>?_) (by rw[hs,hs2])<|by rw[hs2];rfl);let(vs,H1,I1,r1,q1):=qz;let(a',b',e,(xs,hq1),(ys,hq2),q):=q1;subst e;let(u,v,rfl,ru,rv):=r1.two;cases ru;cases rv;let(is1,rv1,t1):=I1.seqK hq1;let(is2,rv2,t2):=I1.seqK hq2;have lt:∀ {T:String}{l:Lb}{u:Array K5},SeqAt s1.heap T l u->l<↥s1:=λ{T l u} h=>by rcases h with⟨_,o,e,_⟩|⟨_,o,e,_⟩<;>exact Hj e
 refine n9 t1 t2 λh' Z hsz hk=>wpAny_pyIter_zip Z.z ?_;have I2:Inv X gV σ H1 {s1 with heap:=h'}:=I1.kept (t':=s1.toks) hk;refine(↥s1+4,[↥s1+4,↥s1+2,↥s1+3,↥s1,↥s1+1],_,_,H1,rfl,I2,vf (j:=j) (k:=k)<|wN (lt t1)<|lt t2,((_,_,.inl rfl,Z.z),Z.ti,Z.to,Z.u1,Z.u2),λc hc=>?_,q);have hc':↥s1<=c:=by
  simp only[Hd,HB,or_false]at hc;rcases hc with rfl|rfl|rfl|rfl|rfl
  exact IE _ _;exact IE _ _;exact IE _ _;exact Hc _;exact IE _ _
 exact I1.fpOk hc'<|I1.hok.fresh hc'
end
end
section
section
variable {X:Cx}{E:XK}{p pos:LF}
def A2 (j k:Bool){xn:Str}{fl:MG->M ↑W}(hm:X.mg "zip"=none)(ha:JA X E [a,b] fl)(hg:Gl X "zip")(hs:LH [a,b] X.env=[(false ,LD a X.env),(false ,LD b X.env)])(hs2:LH [b] X.env=[(false ,LD b X.env)]):
  JI X E (.Name xn tpos) (.Call (.Name "zip" p) [a,b] [] pos) (Pk fl<|RO j k):=(Au (j:=j) (k:=k) hg hm ha.h hs hs2).imp λσ H Q h=>by
 ac_nf;rcases x with _|⟨w,_|⟨w2,_|⟨_,_⟩⟩⟩
 exact h1.elim;exact h1.elim
 .have h1:Ps (cg X E) (λp s J=>MZ X.K p J s) p (bd (RK j w) (λs=>bd (RK k w2) λt=>pr (Sq s.l t.l,λh=>s.G h/\t.G h)) p.h) Q:=h1;let(v,u,rfl,rv,ru):=r1.two;let(s,a,rfl,hq,sk,h1):=kC R1 rv h1;let(t,b,rfl,hq2,sk2,h1):=kC R1 ru h1;refine(a,b,rfl,hq,hq2,h1.pr R1 (λo X R g=>?_,λo i w X R g e=>?_));let(vs,k1,k2):=sk o X R g.1;let(us,k3,k4):=sk2 o X R g.2;exact(vs,us,k1,k3,by rw[k2.len,k4.len];show _=⇑(Sq s.l t.l);unfold Sq;rw[Im]);let(vs,k1,k2):=sk o X R g.1;let(us,k3,k4):=sk2 o X R g.2;let(x,y,ex,ey,rfl):=i5 e;let(v1,hv1,rv1):=k2.get ex;let(v2,hv2,rv2):=k4.get ey;refine((vs,us,v1,v2,k1,k3,hv1,hv2),λq H' yl=>?_);let(T,z1,z2,hT,rfl,hz,rfl):=yl;let(g1,g2):=hz vs us k1 k3;have e1:z1=v1:=Option.some.inj<|g1.symm.trans hv1;have e2:z2=v2:=Option.some.inj<|g2.symm.trans hv2;subst e1 e2;refine((o.mu,o.h,upd o.H T<|.tup [z1,z2]),rfl,rfl,Ex.new hT,R.new hT,Rv.newT R hT<|Rvs.cons rv1<|Rvs.cons rv2 Rvs.nil)
 exact h1.elim
end
end
section
abbrev KN:↑(PKy×Lb×V)->↑(PKy×Lb×K5)->Prop:=Paired λp q=>p.1=q.1/\p.2.1=q.2.1/\RelV p.2.2 q.2.2
noncomputable def kvN (xs:↑(PKy×Lb×V)):↑(PKy×V):=xs.map λx=>(x.1 ,x.2.2)
noncomputable def Qt (xs:↑(PKy×Lb×V))(k:PKy)(c:Lb)(v:V):↑(PKy×Lb×V):=
 if (xs.any λx=>decide<|x.1=k)=true then xs.map (λx=>if x.1=k then (x.1 ,x.2.1,v) else x) else xs++[(k ,c,v)]
def uE (xs:↑(PKy×Lb×V))(k:PKy):((kvN xs).any λkv=>decide<|kv.1=k)=(xs.any λx=>decide<|x.1=k):=by unfold kvN;rw[JB];rfl
def uD (xs:↑(PKy×Lb×V))(k:PKy)(c:Lb)(v:V):kvN (Qt xs k c v)=Qs (kvN xs) k v:=by
 unfold Qt Qs;rw[uE];by_cases z:(xs.any λx=>decide<|x.1=k)=true
 .rw[bf z,bf z];unfold kvN;rw[HG,HG];refine Ih λx J=>?_;show ((if x.1=k then (x.1 ,x.2.1,v) else x).1 ,(if x.1=k then (x.1 ,x.2.1,v) else x).2.2)=if x.1=k then (x.1 ,v) else (x.1 ,x.2.2)
  split<;>rfl
 rw[aZ z,aZ z];unfold kvN;rw[Hh];rfl
def KN.val (r:KN xs ys)(k:PKy):RelO (Sj (kvN xs) k) ((Mi ys k).map (·.2)):=by
 induction r with
 |nil=>exact True.intro
 | @cons p q ps qs h t ih=>
   let(h1,_,h2):=h;show RelO (Sj ((p.1 ,p.2.2)::kvN ps) k) _;by_cases e:p.1=k
   .have e':q.1=k:=h1.symm.trans e;have b:Mi (q::qs) k=some q.2:=by simp [Mi,ID,e']
    rw[i7 (show (p.1 ,p.2.2).1=k from e),b];exact h2
   .have e':¬q.1=k:=λz=>e<|h1.trans z;have b:Mi (q::qs) k=Mi qs k:=by simp [Mi,ID,e']
    rw[i8 (show¬(p.1 ,p.2.2).1=k from e),b];exact ih
def KN.repl (r:KN xs ys)(k:PKy)(ry:RelV y u):
  KN (xs.map λx=>if x.1=k then (x.1 ,x.2.1,y) else x) (ys.map<|putAt k u):=by
 induction r with
 |nil=>exact .nil
 | @cons p q ps qs h t ih=>
   rw[Hg,Hg];refine .cons ?_ ih;let(h1,h2,h3):=h;unfold putAt;by_cases e:p.1=k;rw[bf e,bf<|h1.symm.trans e];exact(h1,h2,ry);rw[aZ e,aZ<|λz=>e<|h1.trans z];exact(h1,h2,h3)
def KN.put (r:KN xs ys)(k:PKy)(ry:RelV y u):KN (Qt xs k b y) (storedH ys k b u):=by
 have e:(xs.any λx=>decide<|x.1=k)=(Mi ys k).isSome:=by rw[<-uE,kT,(r.val k).isSome_eq,IL]
 unfold Qt storedH;rw[e];by_cases q:(Mi ys k).isSome=true;rw[bf q,bf q];exact r.repl k ry;rw[aZ q,aZ q];exact Paired.snoc r (rfl,rfl,ry)
def vt (h:x∈Qt xs k c v):(∃y∈xs ,y.1=x.1/\y.2.1=x.2.1)\/(x.1=k/\x.2.1=c):=by
 unfold Qt at h;split at h;let(y,hy,rfl):=Hq.mp h;refine .inl (y,hy,?_);split<;>exact(rfl,rfl)
 .rcases Ij.mp h with h|h
  exact .inl (x,h,rfl,rfl);rw[HC.mp h];exact .inr (rfl,rfl)
section
variable {X:Cx}{gV:↑(Lb×Le)}{σ:St}{H:Hp}{s:Ld}{a c:Lb}{b:Bool}{k:PKy}{xs:↑(PKy×Lb×V)}{A:Lf}{Ex:K5->Ld->Prop}
theorem jx:∀ {ks:↑Int}{us:↑K5},Vals (ks.map V.int) us->ItemsAre (Lc X.prog X.w) ks us
 |[],_,r=>by rw[HM]at r;cases r;exact .nil
 |k::ks,_,r=>by
  rw[Hg]at r;cases r with
  |cons h t=>
   let(tk,e):=(show∃t ,_=K5.int k t from h)
   subst e;exact .cons (by simp [Lc,K5.isInt])<|jx t
def iw (I:Inv X gV σ H s)(h:KeyN X.K H b c k):IsPk X.prog X.w b s.heap k c:=by
 let(d,h1,h2):=h;let(its2,r2,(o2,g1,g2,n2,g3),_):=I.tuple h2;let(its,r,(o,q1,q2,n,q3),_):=I.tuple h1;have kd:IsTupleKey (Lc X.prog X.w) s.heap k.2 d:=(o2,its2.toArray,n2,g1,g2,g3,by simpa using jx r2)
 cases b with
 |false=>
  let(u,v,rfl,ru,rv):=r.two;cases rv;let(t,e):=(show∃t ,u=K5.int k.1 t from ru)
  subst e;exact(o,_,n,d,_,q1,q2,q3,kd,by simp [K5.isInt],rfl)
 |true=>
  let(u,v,rfl,ru,rv):=r.two;cases ru;let(t,e):=(show∃t ,v=K5.int k.1 t from rv)
  subst e;exact(o,_,n,d,_,q1,q2,q3,kd,by simp [K5.isInt],rfl)
def nY (I:Inv X gV σ H s){ep:Nat}(e:H a=some (.dN b xs ep))(hk:∀x∈xs ,KeyN X.K H b x.2.1 x.1):⇑xs<=sizeLine/\(a==Ls)=false/\∃ys,KN xs ys/\s.heap.DictOfH (c8 X.prog X.w b) a ys:=by
 let(z,y,ys,r,o,es,h1,h2,h3,h4,h5):=(show ObjOk X.prog X.w H s.heap a (.dN b xs ep) from I.hok a _ e)
 refine(z,y,ys,r,o,es,ep,h1,h2,h3,h4,?_,h5);clear h4 h5 e
 induction r with
 |nil=>intro x hx;exact nomatch hx
 | @cons p q ps qs hq t ih=>
   intro x hx;rcases Hd.mp hx with e|hx
   subst e;have:=iw I<|hk p Hi;rw[<-hq.1,<-hq.2.1];exact this;exact ih (λx hx=>hk x<|Ht _ hx) (by rw[Hf]at z;omega) x hx
def vT {Q:K5->Ld->Prop}(hu:A.units+2<Lg)(I:Inv X gV σ H s){ep:Nat}(e:H a=some (.dN b xs ep))(hk:∀x∈xs ,KeyN X.K H b x.2.1 x.1)(hc:KeyN X.K H b c k)(l:Sj (kvN xs) k=`v)(h:∀w' s' ,Inv X gV σ H s'->RelV v w'->Q w' s'):
  Lh (Li X.prog X.w) A (getItem (.ref a)<|.ref c) Q Ex s:=by
 let(z,hd,ys,rel,dd):=nY I e hk;let(w',hw,rw'):=RelO.some_of (v:=v) (o:=(Mi ys k).map (·.2)) (by rw[<-l];exact rel.val k);let(p,hp,hp2):=Hn.mp hw;refine wpAny_getItem_heap (knd:=c8 X.prog X.w b) hu (iw I hc) dd hp ?_;rw[hp2];exact h w' _ (I.tok _) rw'
def vS {Q:Unit->Ld->Prop}(hu:A.units+2<Lg)(I:Inv X gV σ H s){ep:Nat}(e:H a=some (.dN b xs ep))(hk:∀x∈xs ,KeyN X.K H b x.2.1 x.1)(hc:KeyN X.K H b c k)(l:⇑xs<sizeLine)(rv:RelV v r)(h:∀s' ep' ,Inv X gV σ (upd H a<|.dN b (Qt xs k c v) ep') s'->Q () s'):
  Lh (Li X.prog X.w) A (setItem (.ref a) (.ref c) r) Q Ex s:=by
 let(z,hd,ys,rel,dd):=nY I e hk;have hz:⇑ys<=sizeLine:=by rw[<-Paired.length rel];exact z
 have hl:⇑(Qt xs k c v)<=sizeLine:=by have:=hJ (kvN xs) k v;rw[<-uD xs k c v]at this;unfold kvN at this;rw[Hb,Hb]at this;omega
 refine wpAny_setItem_heap (hsz:=hz) (knd:=c8 X.prog X.w b) hu (iw I hc) dd λh' dd' hs=>?_;let(q,es,ep2,hq,h2,h3,h4,_,h5):=dd';refine h _ ep2 ?_;exact pC I (by rw[e];exact True.intro) hs (q,hq) (hl,hd,_,rel.put k rv,q,es,hq,h2,h3,h4,h5)
end
section
variable {X:Cx}{E:XK}{a b:Expr}{pos:LF}{fa fb fv:MG->M W}
noncomputable def NA (w:W)(h:↑Ob):Option (Bool×↑PKy×↑W):=match w with
 |.loc k=>match h[k]? with|some (.din b ks ws)=>some (b ,ks,ws)|_=>none
 |.dn b ks ws=>some (b ,ks,ws)
 |_=>none
set_option tactic.hygienic true in
def mr {w:W}{b:Bool}{ws:↑W}(R:Rel X.K o)(e:NA w o.h=some (b ,ks,ws))(h:Rv X.K o w v):∃a xs ep,v=.ref a/\o.H a=some (.dN b xs ep)/\xs.map (·.1)=ks/\(∀x∈xs ,KeyN X.K o.H b x.2.1 x.1)/\Rvs X.K o ws (xs.map (·.2.2)):=by
 cases w with
 |loc k=>
  unfold NA at e;dsimp only at e;split at e;rename_i b' ks' ws' hk;cases e;unfold Rv at h;let(xs,h1,h2,h3,h4):=R.ob k _ hk;exact(_,xs.1,xs.2,h.2,h1,h2,h3,h4);cases e
 |dn b' ks' ws'=>
  unfold NA at e;cases e;unfold Rv at h;let(a,xs,e,h1,_,h2,h3,h4):=h;exact(a,xs.1,xs.2,e,h1,h2,h3,h4)
 |_=>cases e
noncomputable def OG (b:Bool)(w:W):Option PKy:=match b,w with
 |false,.tup [.int i,.tup l]=>(P6 iOf l).map λns=>(i ,ns)
 |true,.tup [.tup l,.int i]=>(P6 iOf l).map λns=>(i ,ns)
 |_,_=>none
set_option tactic.hygienic true in
def iu {b:Bool}{w:W}(e:OG b w=`k)(h:Rv X.K o w v):∃c,v=.ref c/\KeyN X.K o.H b c k:=by
 unfold OG at e;split at e;rename_i i l;let(ns,e1,rfl):=Hn.mp e;unfold Rv at h;let(c,vs,rfl,s,r):=h;let(u,v,rfl,ru,rv):=r.two;unfold Rv at rv;let(d,us,rfl,s2,r2):=rv;have eu:=QI.mp ru;subst eu;have e2:us=ns.map V.int:=dG ma e1 r2;subst e2;exact(c,rfl,d,s,s2);rename_i l i;let(ns,e1,rfl):=Hn.mp e;unfold Rv at h;let(c,vs,rfl,s,r):=h;let(u,v,rfl,ru,rv):=r.two;unfold Rv at ru;let(d,us,rfl,s2,r2):=ru;have eu:=QI.mp rv;subst eu;have e2:us=ns.map V.int:=dG ma e1 r2;subst e2;exact(c,rfl,d,s,s2);cases e
noncomputable def CO (b:Bool):TE:=λJ H Q=>∀p,H p=none->Q (.ref p) (upd H p<|.dN b [] 0)
def zq {w:K9}(b:Bool)(h:La)(hb:Ls<h.objs.size):ObjOk P w H (h.push {cls:=.type "dict",data:=.dict #[]}) h.objs.size (.dN b [] 0):=
 (Hy _,beq_eq_false_iff_ne.mpr<|Ne.symm<|Hs hb,[],.nil,_,#[],Hu _ rfl,(rfl,rfl,rfl),rfl,rfl,JZ)
def xQ (b:Bool):PE X (.Dict [] [] pos) (CO b):=λgV s σ H Q I h=>
 wpAny_Dict_empty (.ref ↥s,_,I.laid (a:=↥s) (o:=.dN b [] 0) (t':=s.toks) (λJ J q=>He _ q) (Hc _)<|zq b s.heap I.big,rfl,h _<|I.hok.fresh<|Hc _)
noncomputable def jX (b:Bool):MG->M W:=λJ h=>.ok (.loc ⇑h)<|h++[.din b [] []]
def yJ (b:Bool):JE X E (.Dict [] [] pos) (jX b):=(xQ b).imp λσ H Q h=>by let(o,ρ,rfl,R,S,h):=h;intro q hq;exact Ps.at (p:=o.add q (.din b [] [])<|.dN b [] 0) h rfl (Ex.add hq) (R.add hq (([] ,0),aq,rfl,λJ hx=>absurd hx HB,Rvs.nil)) Rv.addLoc
noncomputable def rIxN (K:Zf):R2:=λx y H Q=>∃a b xs ep c k v,x=.ref a/\y=.ref c/\H a=some (.dN b xs ep)/\(∀x∈xs ,KeyN K H b x.2.1 x.1)/\KeyN K H b c k/\Sj (kvN xs) k=`v/\Q v H
def G7 (hu:X.A.units+2<Lg):IxR X (rIxN X.K):=by intro value slice gV s σ H x y v u Q I rx ry h hs;let(a,b,xs,ep,c,k,z,rfl,rfl,e,hk,hc,l,q):=h;cases rx;cases ry;let(_,_,ys,_,dd):=nY I e hk;exact tail_any dd.typeIs PySem.F.slot_dict_getitem.lookup (vT hu I e hk hc l λw' s3 I3 rw'=>(z,H,I3,rw',q)) hs
noncomputable def Ox (x y:W):M W:=λh=>match NA x h with
 |some (b ,ks,ws)=>match OG b y with
  |some k=>match atK ks ws k with|some w=>.ok w h|none=>.bad
  |none=>.bad
 |none=>.bad
def AB:OpM X E (rIxN X.K) Ox:=by
 intro o x y vx vy Q R rx ry h;unfold Ox at h;cases e1:NA x o.h with
 |none=>rw[e1]at h;exact h.elim
 |some t=>
  let(b,ks,ws):=t;rw[e1]at h;cases e2:OG b y with
  |none=>simp only[e2]at h;exact h.elim
  |some k=>
   simp only[e2]at h;cases e3:atK ks ws k with
   |none=>simp only[e3]at h;exact h.elim
   |some w=>
    simp only[e3]at h;let(a,xs,ep,rfl,g1,g2,g3,g4):=mr R e1 rx;let(c,rfl,hc):=iu e2 ry;have hv:=iI (x:=k) (kvs:=kvN xs) (ks:=ks) (ws:=ws) (by unfold kvN;rw[HG];exact g2) (by unfold kvN;rw[HG];exact g4);rw[e3]at hv;let(v,hv,rv):=hv;exact(a,b,xs,ep,c,k,v,rfl,rfl,g1,g3,hc,hv,Ps.pr (c:=cg X E) (r:=Rv X.K) (a:=w) h R rv)
def Em (hu:X.A.units+64<Lg)(ha:JE X E a fa)(hb:JE X E b fb)(hs:kQ b):JE X E (.Subscript a b pos) (m2 Ox fa fb):=
 (qi (G7<|HQ (J2 (by decide:2<=64) _) hu) ha.h hb.h hs).imp λJ J J h=>w5 AB h
noncomputable def rSetN (K:Zf):M0:=λo i v H Q=>∃a b xs ep c k,o=.ref a/\i=.ref c/\H a=some (.dN b xs ep)/\(∀x∈xs ,KeyN K H b x.2.1 x.1)/\KeyN K H b c k/\⇑xs<sizeLine/\∀ep',Q<|upd H a<|.dN b (Qt xs k c v) ep'
def Ft (hu:X.A.units+2<Lg):PSet X (rSetN X.K):=by intro gV s σ H o i v ov iv u Q I ro ri rv h;let(a,b,xs,ep,c,k,rfl,rfl,e,hk,hc,l,q):=h;cases ro;cases ri;exact vS hu I e hk hc l rv λs4 ep' I4=>(_,I4,q ep')
noncomputable def jN (x i v:W):M Unit:=match x with
 |.loc j=>λh=>match h[j]? with
  |some (.din b ks ws)=>match OG b i with|some k=>if ⇑ks<sizeLine then .ok () (h.set j<|.din b (Qu ks ws k v).1 (Qu ks ws k v).2) else .bad|none=>.bad
  |_=>.bad
 |_=>no
noncomputable def fX (fo fi fv:MG->M W):MG->M Fl:=λρ=>bd (fv ρ) λv=>bd (fo ρ) λx=>bd (fi ρ) λi=>bd (jN x i v) λJ=>pr<|.nx ρ
def vV {fo fi:MG->M W}(hu:X.A.units+64<Lg)(ho:JE X E o fo)(hi:JE X E i fi)(hv:JE X E value fv)
  (ha:∀v ,assign (.Subscript o i tpos) X.env v=(do
   let ov<-LN [v] (LD o X.env);let iv<-LN [v,ov] (LD i X.env)
   LM tpos
   LN [v,ov,iv] (setItem ov iv v)
   release [v,ov,iv] []))
  (hs:swapsWithSole [.Subscript o i tpos] value pos.line X.env=pure false)(hw:swappedStores [.Subscript o i tpos] value X.env=pure none)
  (h1:(LP [.Subscript o i tpos] X.env).map (·.2)=[assign (.Subscript o i tpos) X.env]):JS X E (.Assign [.Subscript o i tpos] value pos) (fX fo fi fv):=
 (xE hv.h (xM ho.h hi.h (Ft<|HQ (J2 (by decide:2<=64) _) hu) ha) hs hw h1).imp λD σ H h=>by
  let(w,ρ,rfl,R,S,h):=h;refine(w,ρ,rfl,R,S,Ps.bd h λp v vv e1 R1 r1 h1=>(p,ρ,rfl,R1,S.mono R e1,Ps.bd h1 λq x vx e2 R2 r2 h2=>(q,ρ,rfl,R2,(S.mono R e1).mono R1 e2,Ps.bd h2 λs i vi e3 R3 r3 h3=>?_)));have S3:=((S.mono R e1).mono R1 e2).mono R2 e3;have rv:=(r1.mono R1 e2).mono R2 e3;have rx:=r2.mono R2 e3;cases x with
  |loc j=>
   unfold Rv at rx;let(hj,rfl):=rx;unfold jN bd at h3;cases e:s.h[j]? with
   |none=>simp only[e]at h3;exact h3.elim
   |some ob=>
    cases ob with
    |din b ks ws=>
     simp only[e]at h3;cases ek:OG b i with
     |none=>simp only[ek]at h3;exact h3.elim
     |some k=>
      simp only[ek]at h3;by_cases z:⇑ks<sizeLine
      .simp only[bf z]at h3;let((xs,ep),g1,g2,g3,g4):=R3.ob j _ e;dsimp only at g1 g2 g3 g4;let(c,rfl,hc):=iu ek r3;let(b1,b2):=oO (x:=k) (kvs:=kvN xs) (ks:=ks) (ws:=ws) rv (by unfold kvN;rw[HG];exact g2) (by unfold kvN;rw[HG];exact g4);rw[<-uD xs k c vv]at b1 b2;unfold kvN at b1 b2;rw[HG]at b1 b2;refine(_,b,xs,ep,c,k,rfl,rfl,g1,g3,hc,by rw[<-g2,Hb]at z;exact z,λep'=>?_);refine Ps.at (p:=s.put j (.din b (Qu ks ws k v).1 (Qu ks ws k v).2)<|.dN b (Qt xs k c vv) ep') (b:=FlV.nx σ) h3 rfl (Ex.put e ⇑_) (R3.putN e ⇑_ b1 (λx hx=>?_) b2) (σ,rfl,S3.mono R3<|Ex.put e ⇑_);rcases vt hx with⟨y,hy,q1,q2⟩|⟨q1,q2⟩
       rw[<-q1,<-q2];exact g3 y hy;rw[q1,q2];exact hc
      simp only[aZ z]at h3;exact h3.elim
    |_=>simp only[e]at h3;exact h3.elim
  |_=>exact h3.elim
end
end
section
def xH (its:↑K5):slicePick its.toArray none none (some<|-1)=its.reverse.toArray:=by
 unfold slicePick;have hb:Me none none (some<|-1) its.toArray.size=(((⇑its:Nat):Int)-1 ,-1,-1):=by rw[Ho];rfl
 rw[hb];show ((sliceRange (((⇑its:Nat):Int)-1) (-1)<|-1).filterMap (its.toArray[·]?)).toArray=_;congr 1;have hr:sliceRange (((⇑its:Nat):Int)-1) (-1) (-1)=(List.range ⇑its).map λk=>⇑its-1-k:=by
  unfold sliceRange;have c:(if (-1:Int)>0 then (if ((⇑its:Nat):Int)-1< -1 then (-1-(((⇑its:Nat):Int)-1)+ -1-1) / -1 else 0) else (if ((⇑its:Nat):Int)-1> -1 then (((⇑its:Nat):Int)-1 - -1 - -1-1) / (- -1) else 0)).toNat=⇑its:=by
   rw[aZ ↥_];by_cases z:((⇑its:Nat):Int)-1> -1;rw[bf z,show (- -1:Int)=1 by decide,Int.ediv_one];omega;rw[aZ z];omega
  show (List.range (if (-1:Int)>0 then (if ((⇑its:Nat):Int)-1< -1 then (-1-(((⇑its:Nat):Int)-1)+ -1-1) / -1 else 0) else (if ((⇑its:Nat):Int)-1> -1 then (((⇑its:Nat):Int)-1 - -1 - -1-1) / (- -1) else 0)).toNat).map _=_;rw[c];refine Ih λk hk=>?_;have:=Ii.mp hk;show (((⇑its:Nat):Int)-1+ -1*(k:Int)).toNat=⇑its-1-k;omega
 rw[hr];apply JD;intro i;have hall:∀ (n:Nat),n<=⇑its->((List.range n).map λk=>⇑its-1-k).filterMap (its.toArray[·]?)=its.reverse.take n:=by
  intro n
  induction n with
  |zero=>intro _;rfl
  |succ n ih=>
   intro hn;have e1:its.reverse[n]?=some (its[⇑its-1-n]'∅):=by rw[List.getElem?_reverse ∅,Hw]
   rw[IV,Hh,List.filterMap_append,ih ∅,Iw,e1];congr 1;show List.filterMap (its.toArray[·]?) [⇑its-1-n]=[its[⇑its-1-n]'∅];rw[Jc];rw[J6,Hw ∅];rfl
 rw[hall ⇑its<|Hc _,<-KG,Hz]
section
variable {X:Cx}{E:XK}{e st:Expr}{te:TE}{ts:TO}{pos p2:LF}{fa:MG->M W}{fs:MG->M (Option Int)}
noncomputable def tRev (K:Zf)(te:TE)(ts:TO):TE:=λσ H Q=>te σ H λx H1=>ts σ H1 λo H2=>o=some (-1)/\∃a xs,x=.ref a/\SqL K H2 a xs/\∀p,H2 p=none->Q (.ref p) (upd H2 p<|.lst xs.reverse)
def Dk (he:PE X e te)(hs:PO X `st ts):PE X (.Subscript e (.Slice none none `st p2) pos) (tRev X.K te ts):=by intro gV s σ H Q I h;refine Subscript_ (thn (he gV s σ H _ I h) λv s1 qz=>?_);let(x,H1,I1,r1,q1):=qz;refine wpAny_Slice ?_;rw[evalPart_none];refine Lm (Lm<|thn (hs gV s1 σ H1 _ I1 q1) λvs s3 qz=>?_);let(u,H3,I3,pu,q3):=qz;let(rfl,a,xs,rfl,hx,q):=q3;cases r1;have I4:Inv X gV σ H3 {s3 with heap:=s3.heap.push {cls:=.type "slice",data:=.fields #[.none,.none,vs]}}:=I3.kept (t':=s3.toks) λb ob q=>He _ q;show Lh (Li X.prog X.w) X.A (subscriptTail e (.Slice none none `st p2) (.ref a)<|.ref ↥s3) (EP X gV σ Q) X.xe {s3 with heap:=s3.heap.push {cls:=.type "slice",data:=.fields #[.none,.none,vs]}};let(its,r,ht,hz):=I4.list hx;have hlen:=⇑r;refine tail_any (ops:=[.ref a,.ref ↥s3]) ht.isList.typeIs slot_list_getitem.lookup ?_ (by with_unfolding_all rfl);refine wpAny_getItem_list_slice ht.isList (La.IsSliceOf.new ..) .none .none pu ⇑_ ?_ (by rw[Ho]<;>omega);rw[xH];refine(.ref _,_,I4.laid (t':=s3.toks) (o:=.lst xs.reverse) (λb ob q=>He _ q) (Hc _) ?_,rfl,q _<|I4.hok.fresh<|Hc _);exact(by rw[KG];exact hz,_,0,r.reverse,Hu _ rfl)
theorem Rvs.reverse {K:Zf}:∀ {l:↑W}{vs:↑V},Rvs K o l vs->Rvs K o l.reverse vs.reverse|[],vs,h=>by unfold Rvs at h;subst h;exact Rvs.nil|w::l,vs,h=>by unfold Rvs at h;let(v,r,rfl,h1,h2):=h;rw[Jr,Jr];exact (Rvs.reverse h2).app<|Rvs.cons h1 Rvs.nil
noncomputable def QA (x:W)(o:Option Int):M W:=match o with|some (-1)=>bd (O1 x) λl=>pr (.tl l.reverse)|_=>no
noncomputable def Ph (fa:MG->M W)(fs:MG->M (Option Int)):MG->M W:=λρ=>bd (fa ρ) λx=>bd (fs ρ) λo=>QA x o
def Ed (he:JE X E e fa)(hs:JO X E `st fs):JE X E (.Subscript e (.Slice none none `st p2) pos) (Ph fa fs):=(Dk he.h hs.h).imp λσ H Q h=>by
 let(o,ρ,rfl,R,S,h):=h;refine(o,ρ,rfl,R,S,Ps.bd h λp x vx e1 R1 r1 h1=>(p,ρ,rfl,R1,S.mono R e1,Ps.bd h1 λq a va e2 R2 r2 h2=>?_));subst r2;have rx:=r1.mono R1 e2;unfold QA at h2;split at h2;let(l,a',vs,rfl,s,r,h2):=cq R2 rx h2;exact(rfl,a',vs,rfl,s,λq' hq=>fZ R2 hq r.reverse h2);exact h2.elim
end
end
section
section
variable {X:Cx}{E:XK}
open Classical in
noncomputable def eqK (prog:K8)(w:K9)(h:La)(ns:↑Int)(u:K5):Bool:=match u with|.ref c=>decide (IsTupleKey (Lc prog w) h ns c)|_=>false
open Classical in
noncomputable def Pp:↑Int->Int|[]=>0|[a]=>a|a::l=>if Pp l<a then a else Pp l
theorem g8:∀ {l:↑Int},l≠ []->Pp l∈l/\∀x∈l,x<=Pp l
 |[],h=>absurd rfl h
 |[a],_=>(HC.mpr rfl,λx hx=>by rw[HC.mp hx];exact Ix _)
 |a::b::l,_=>by
  let(h1,h2):=g8 (l:=b::l) ⇑_;show (if Pp (b::l)<a then a else Pp (b::l))∈_/\∀x∈_,x<=(if Pp (b::l)<a then a else Pp (b::l));by_cases c:Pp (b::l)<a
  .rw[bf c];refine(Hi,λx hx=>?_);rcases Hd.mp hx with rfl|hx
   exact Ix _;have:=h2 x hx;omega
  .rw[aZ c];refine(Ht _ h1,λx hx=>?_);rcases Hd.mp hx with rfl|hx
   omega;exact h2 x hx
theorem mM (bt:Nat->Nat->Bool):∀n,Mv bt n<=n
 |0=>Hc _
 |n+1=>by
  unfold Mv;split;exact Hc _;exact Jh<|mM bt n
theorem zP (f:Nat->Int):∀n j,j<=n->f j<=f (Mv (λi j=>decide<|f i>f j) n)
 |0,j,h=>by rw[Nat.le_zero.mp h];exact Ix _
 |n+1,j,h=>by
  unfold Mv;have ih:=zP f n;by_cases c:f (n+1)>f (Mv (λi j=>decide<|f i>f j) n)
  .rw[bf<|bN c];by_cases e:j=n+1;rw[e];exact Ix _;have:=ih j ∅;omega
  .rw[aZ<|by rw[bg c];simp];by_cases e:j=n+1;rw[e];omega;exact ih j ∅
def uy (e:ns=xs.toList.map (·.1)){i:Nat}(h:i<xs.size):ns[i]?=some (Mm xs i):=by rw[e,Hl,JG,KH h];unfold Mm;rw[KH h];rfl
def wF (hc:X.calm=true):CallR X (.builtin "max") (λxs H Q=>∃ (p:Lb) (ns:↑Int) ,xs=[.ref p]/\SqL X.K H p (ns.map V.int)/\ns≠ []/\Q (.int<|Pp ns) H):=by
 intro gV s σ H xs us Q I r h;let(p,ns,rfl,hq,hne,q):=h;let(u,rfl,ru):=Sk r;cases ru;let(its,rv,pl,hz):=I.list hq;have hi:=gO rv;let(xs,e):=hi.allInts.items;have hl:s.heap.IsList p (intItems xs):=by rw[<-e];exact pl.isList
 have en:ns=xs.toList.map (·.1):=by rw[<-nums_intItems,<-e];exact (show numsOf its.toArray.toList=ns from hi.numsOf).symm
 have sz:xs.size=⇑ns:=by rw[en,Hb,HY]
 have pos:0<xs.size:=by rw[sz];exact KI.mpr hne
 refine max_intList (I.ok.hd hc) hl pos λv h' tk hv hk=>?_;let(t,rfl):=intItems_at hv;have il:=mM (λi j=>decide<|Mm xs i>Mm xs j)<|xs.size-1;have e1:=uy en (i:=Mv (λi j=>decide<|Mm xs i>Mm xs j)<|xs.size-1) ∅;let(m1,m2):=g8 hne;let(k,hk'):=Kg m1;have kl:=(Hm.mp hk').1;have e2:=uy en (i:=k) ∅;rw[hk']at e2;have a1:=m2 _<|HH e1;have a2:=zP (Mm xs) (xs.size-1) k ∅;have:Mm xs (Mv (λi j=>decide<|Mm xs i>Mm xs j)<|xs.size-1)=Pp ns:=by have:=Option.some.inj e2;omega
 rw[this];exact(.int<|Pp ns,H,I.kept (t':=tk) hk,(t,rfl),q)
noncomputable def NN (f:↑Int->Int)(ws:↑W):M W:=match ws with
 |[w]=>bd (O1 w) λl=>match P6 iOf l with|some ns=>gd (ns≠ []) (pr<|.int<|f ns)|none=>no
 |_=>no
variable {a:Expr}{p pos:LF}{l:MG->M ↑W}
def Gu {f:↑Int->Int}:Mz X E (λxs H Q=>∃ (p:Lb) (ns:↑Int) ,xs=[.ref p]/\SqL X.K H p (ns.map V.int)/\ns≠ []/\Q (.int<|f ns) H) (NN f):=λo ws vs Q R rv h=>by
 unfold NN at h;split at h
 .let(v,rfl,r):=rv.one;let(l,a,us,rfl,s,r,h):=cq R r h;cases e:P6 iOf l with
  |none=>rw[e]at h;exact h.elim
  |some ns=>
   rw[e]at h;let(hn,h):=h.gd;have e2:us=ns.map V.int:=dG ma e r;subst e2;exact(a,ns,rfl,s,hn,h.pr R<|QI.mpr rfl)
 exact h.elim
def Ba (hc:X.calm=true)(hm:X.mg "max"=none)(ha:JA X E [a] l)(hg:Gl X "max")(he:LH [a] X.env=(false ,LD a X.env)::LH [] X.env)(hpl:(LG pos<|LH [] X.env).any (·.1)=false):JE X E (.Call (.Name "max" p) [a] [] pos) (O5 (NN Pp) l):=
 di (wF hc) Gu hg hm rfl ha ↥_ ↥_ he hpl
end
end
section
open Sem (wp)
open AutoSeq1 (wpAny_loadPart')
section
variable {prog:K8}{w:K9}{A:Lf}{E:K5->Ld->Prop}{s:Ld}
def mW {Q:↑K5->Ld->Prop}{a b c:Int}{n:Nat}(hh:A.handled=none)(hr:IsRange s.heap r a b c t u v)(hsmall:K6.Range.small a b c=true)
  (hn:K6.Range.rangeSize a b c=n)(hlen:n<=2^24)
  (hQ:∀ (h':La) (tk:Nat) (acc':Array K5) ,(∀b o' ,s.heap.get? b=`o'->h'.get? b=`o')->ItemsOf (λi v=>∃t ,v=.int (a+i*c) t) acc' n->Q acc'.toList {s with heap:=h',toks:=tk}):
  Lh (Li prog w) A (collect<|.ref r) Q E s:=by
 unfold collect;refine Lj<|wpAny_runValue<|codeAny_builtin F.entry_proto_collect ?_;rw[Lf.under_plainId F.plain_proto_collect _];show Lh _ A.in1 (newList []>>=λl=>again<|.builtin "list.__iadd__" ([l,.ref r],[])) _ _ s
 refine Lj<|Mc ?_;refine Lm (plainId_quiet F.plain_list_iadd _,codeAny_builtin F.entry_list_iadd ?_);rw[Lf.under_plainId F.plain_list_iadd _];show Lh _ A.in1 (K6.List.listExtendWith (.ref ↥s) (.ref r)<|.ref ↥s) _ _ _
 have hS:(s.heap.push {cls:=.type "list",data:=.seq ([]:↑K5).toArray}).get? ↥s=some {cls:=.type "list",data:=.seq #[] 0}:=Hu _ rfl
 refine LJ (wpAny_extend_range (A:=A) (R:=λre s'=>∃h' tk acc' c' ,re=.ok (.ret<|.ref ↥s)/\s'={s with heap:=h',toks:=tk}/\(∀b o' ,s.heap.get? b=`o'->h'.get? b=`o')/\h'.get? ↥s=some {cls:=.type "list",dict:=none,data:=.seq acc' c',slots:= #[]}/\ItemsOf (λi v=>∃t ,v=.int (a+i*c) t) acc' n)
  (s:={s with heap:=s.heap.push {cls:=.type "list",data:=.seq ([]:↑K5).toArray}}) hh (He _ hr) hsmall hn hlen _ _ 0 hS λh' tk acc' c' hk hS' hacc=>(h',tk,acc',c',rfl,rfl,λb o' hb=>hk b o' (Hs<|Hj hb)<|He _ hb,hS',hacc)) (λfin s' h=>?_) (λe s' h=>?_)
 .have fin':∀ {re:Result}{s':Ld},(∃h' tk acc' c' ,re=.ok (.ret<|.ref ↥s)/\s'={s with heap:=h',toks:=tk}/\(∀b o' ,s.heap.get? b=`o'->h'.get? b=`o')/\h'.get? ↥s=some {cls:=.type "list",dict:=none,data:=.seq acc' c',slots:= #[]}/\ItemsOf (λi v=>∃t ,v=.int (a+i*c) t) acc' n)->re=.ok (.ret<|.ref ↥s)/\Lh (Li prog w) A (match K5.ref ↥s with
   |K5.ref a=>do
    match (<-load a).data with|Data.seq xs _=>pure xs.toList|_=>unsupported "internal:collect"
   |_=>unsupported "internal:collect") Q E s':=by
   rintro re s' ⟨h',tk,acc',c',rfl,rfl,hk,hS',hacc⟩
   refine(rfl,?_);show Lh _ A (load ↥s>>=_) _ _ _;refine Lj<|wpAny_load hS' ?_;exact Lm<|hQ h' tk acc' hk hacc
  cases fin with
  |done f=>
   let(e,q):=fin' h;cases e;exact q
  |again c'=>exact(h.1,L6 h.2 λre s'' hr=>by
   let(e,q):=fin' hr;subst e
   exact q)
 let(_,_,_,_,e,_):=h;cases e
end
def jp (r:Lb)(a b c:Int)(t u v:Tok)(n:Nat)(hsmall:K6.Range.small a b c=true)(hn:K6.Range.rangeSize a b c=n)(hlen:n<=2^24)(hz:n<=sizeLine):
  Meets (K6.«tuple.__new__» ([.type "tuple",.ref r],[]))
   (λA R s=>A.handled=none/\IsRange s.heap r a b c t u v/\∀ (h':La) (tk:Nat) (acc':Array K5) ,(∀b o' ,s.heap.get? b=`o'->h'.get? b=`o')->ItemsOf (λi v=>∃t ,v=.int (a+i*c) t) acc' n->R (.ok<|.ret<|.ref h'.objs.size) {s with heap:=h'.push {cls:=.type "tuple",data:=.seq acc'},toks:=tk}):=
 .of_wp λprog w A R s h=>by
  let(hp,g,d,tk,os):=s;let(hh,ht,h):=h;have hsub:=sub_tuple_self;have hinit:=init_tuple_lookup;have hmh:=madeHere_tuple;have hT:Ld.TypeIs (hp,g,d,tk,os) (.ref r) "range":=(_,ht,rfl)
  wp_walk using wpAny_loadPart' ht,wpAny_typeOf hT,mW (A:=A.in1) hh ht hsmall hn hlen
  intro h' tk' acc' hk hacc;show Lh _ _ (K6.Tuple.tupleExact acc'.toList.toArray>>=λv=>ret v) _ _ _;unfold K6.Tuple.tupleExact;refine Lj<|Mc ?_ (by show acc'.toList.toArray.size<=sizeLine;have:=hacc.1;simp only[Kh];omega);refine Lm (_,rfl,?_);have e:acc'.toList.toArray=acc':=⇑_;rw[e];exact h h' tk' acc' hk hacc
section
variable {prog:K8}{w:K9}{A:Lf}{E:K5->Ld->Prop}{s:Ld}
def fL {a b c:Int}{n:Nat}{Q:K5->Ld->Prop}(hh:A.handled=none)(hr:IsRange s.heap r a b c t u v)(hsmall:K6.Range.small a b c=true)
  (hn:K6.Range.rangeSize a b c=n)(hlen:n<=2^24)(hz:n<=sizeLine)
  (h:∀ (h':La) (tk:Nat) (acc':Array K5) ,(∀b o' ,s.heap.get? b=`o'->h'.get? b=`o')->ItemsOf (λi v=>∃t ,v=.int (a+i*c) t) acc' n->Q (.ref h'.objs.size) {s with heap:=h'.push {cls:=.type "tuple",data:=.seq acc'},toks:=tk}):
  Lh (Li prog w) A (call (.type "tuple") [.ref r]) Q E s:=
 callType_new F.called_tuple ↥_ (F.typeCall_tuple_1 _) (F.newCall_tuple_1 _) (λobj=>F.args_object_init_2 obj _) F.entry_tuple_new
  (jp r a b c t u v n hsmall hn hlen hz) (hh,hr,λh' tk acc' hk hacc=>((_,Hu _ rfl,rfl),h h' tk acc' hk hacc))
end
noncomputable def tTR (ta:TA):TE:=λσ H Q=>ta σ H λvs H1=>∃i j:Int,vs=[.int i,.int j]/\(-(2^62)<=i/\i<2^62/\ -(2^62)<=j/\j<2^62)/\(j-i).toNat<=sizeLine/\∀l,H1 l=none->Q (.ref l) (upd H1 l<|.tup<|Oh i (j-i).toNat)
section
variable {X:Cx}{E:XK}{a b:Expr}{p p2 pos pos2:LF}
def vH (hc:X.calm=true)(hgl:Gl X "tuple")(hml:X.mg "tuple"=none)(hg:Gl X "range")(hm:X.mg "range"=none)(ha:PA X [a,b] ta)(hs:LH [a,b] X.env=[(false ,LD a X.env),(false ,LD b X.env)])(hs2:LH [b] X.env=[(false ,LD b X.env)])
  (he:LH [.Call (.Name "range" p2) [a,b] [] pos2] X.env=(false ,LD (.Call (.Name "range" p2) [a,b] [] pos2) X.env)::LH [] X.env)(hpl:(LG pos<|LH [] X.env).any (·.1)=false):
  PE X (.Call (.Name "tuple" p) [.Call (.Name "range" p2) [a,b] [] pos2] [] pos) (tTR ta):=by
 intro gV s σ H Q I h;refine L7<|dU I hgl hml PyProof.Rows.boot_tuple ?_ ↥_ ↥_;refine PyProof.Rows.callWith_type1 ?_ he hpl;rw[he];refine Calls.spliced_cons ?_;refine Call_ (dU I hg hm boot_range<|PyProof.Rows.callWith_type1 (thn (ha pos2 gV s σ H _ I h) λus s1 qz=>?_) (by rw[hs,hs2])<|by rw[hs2];rfl);let(vs,H1,I1,r1,q1):=qz;let(i,j,e,(q1,q2,q3,q4),hz,q):=q1;subst e;cases r1 with
 |cons r rr=>
  cases rr with
  |cons r' rr=>
   cases rr;let(t,rfl):=r;let(t',rfl):=r';refine call_range_2<|Calls.spliced_nil ?_;have I2:Inv X gV σ H1 {s1 with heap:=s1.heap.push {cls:=.type "range",data:=.fields #[.int i t,.int j t',.int 1 s1.toks]},toks:=s1.toks+1}:=I1.kept λb o e=>He _ e;have hn:K6.Range.rangeSize i j 1=((j-i).toNat:Int):=by rw[rangeSize_one];split<;>omega
   refine fL (I2.ok.hd hc) (IsRange.new ..) (small_one q1 q2 q3 q4) hn (HA hz ↥_) hz λh' tk acc' hk hacc=>?_;have vs:Vals (Oh i (j-i).toNat) acc'.toList:=iM _ _ _ (by rw[HY,hacc.1]) λk v e=>by let(t,e):=hacc.2 k v (by rw[<-JG];exact e);exact(t,by rw[e];congr 1;omega)
   have I3:Inv X gV σ H1 {s1 with heap:=h',toks:=tk}:=I2.kept (t':=tk) hk;exact(.ref _,_,I3.laid (t':=tk) (λb o e=>He _ e) (Hc _) (show ObjOk X.prog X.w _ (h'.push {cls:=.type "tuple",data:=.seq acc'}) _ (.tup<|Oh i (j-i).toNat) from(by rw[j2];exact hz,acc'.toList,vs,by rw[Kh];exact IsTupD.new _ _)),rfl,q _<|I3.hok.fresh<|Hc _)
noncomputable def trW (ws:↑W):M W:=match ws with|[.int i,.int j]=>gd ((-(2^62)<=i/\i<2^62/\ -(2^62)<=j/\j<2^62)/\(j-i).toNat<=sizeLine) (pr<|.tup<|Oi i (j-i).toNat)|_=>no
def vY {l:MG->M ↑W}(hc:X.calm=true)(hml:X.mg "tuple"=none)(hm:X.mg "range"=none)(ha:JA X E [a,b] l)(hgl:Gl X "tuple")(hg:Gl X "range")(hs:LH [a,b] X.env=[(false ,LD a X.env),(false ,LD b X.env)])(hs2:LH [b] X.env=[(false ,LD b X.env)])
  (he:LH [.Call (.Name "range" p2) [a,b] [] pos2] X.env=(false ,LD (.Call (.Name "range" p2) [a,b] [] pos2) X.env)::LH [] X.env)(hpl:(LG pos<|LH [] X.env).any (·.1)=false):JE X E (.Call (.Name "tuple" p) [.Call (.Name "range" p2) [a,b] [] pos2] [] pos) (O5 trW l):=
 (vH hc hgl hml hg hm ha.h hs hs2 he hpl).imp λσ H Q h=>by
  let(o,ρ,rfl,R,S,h):=h;refine(o,ρ,rfl,R,S,Ps.bd h λp x vx e1 R1 r1 h1=>?_);unfold trW at h1;split at h1;let(v,u,rfl,r,ru):=r1.two;let(hz,h1):=h1.gd;exact(_,_,by rw[QI.mp r,QI.mp ru],hz.1,hz.2,λl hl=>jh R1 hl (jS _ _) h1);exact h1.elim
end
end
section
section
variable {prog:K8}{w:K9}{A:Lf}{E:K5->Ld->Prop}{s:Ld}
def RawD (h:La)(d:Lb)(es:Array DictEntry)(ep:Nat):Prop:=∃o,h.get? d=`o/\o.ExactDict/\o.data=.dict es ep
def ym {Q:K5->Ld->Prop}(k:∀ (h':La) (e:Lb) ,(∀b o ,s.heap.get? b=`o->h'.get? b=`o)->s.heap.get? e=none->(∃o ,h'.get? e=`o/\o.cls=.type "StopIteration")->Q (.ref e) {s with heap:=h'}):
  Lh (Li prog w) A (newExc (.type "StopIteration") []) Q E s:=by
 have f:firstArgMember (.type "StopIteration") []=pure .none:=by unfold firstArgMember;rfl
 unfold newExc;refine Lj<|wpAny_newTuple ?_<|Hy _;rw[f];refine Lj (Lm<|Mc ?_<|show 6<=_ by decide);refine k _ _ (λb o q=>He _<|He _ q) (by rw[H0];exact Kt<|IH _) (_,Hu _ rfl,rfl)
def RawD.keep {ep:Nat}(hd:RawD h d es ep)(k:∀o ,h.get? d=`o->h'.get? d=`o):RawD h' d es ep:=by let(o,a,b,c):=hd;exact(o,k o a,b,c)
end
end
end L2
namespace L2
open PyProof.Rows
section
variable (n:Nat)(lt:Nat->Nat->Bool)
noncomputable def QW (p:Array Nat)(i:Nat):Option Nat:=match p[i]? with|some a=>if a<n then `a else none|none=>none
noncomputable def sLt (p:Array Nat)(i j:Nat):Option Bool:=match QW n p i,QW n p j with|some a,some b=>some (lt a b)|_,_=>none
noncomputable def QL (p:Array Nat)(lo:Nat):Nat->Nat->Option Nat|0,k=>`k|f+1,k=>match sLt n lt p (lo+k) (lo+k-1) with|some true=>`k|some false=>QL p lo f (k+1)|none=>none
noncomputable def oI (p:Array Nat)(lo r:Nat):Option Nat:=match QL n lt p lo (r-1) 1 with
 |some k=>if (k==r)=true then `k else if k>1 then (match sLt n lt p lo (lo+k-1) with
  |some true=>`k
  |_=>none) else none
 |none=>none
noncomputable def iS (p:Array Nat)(lo k:Nat):Nat->Nat->Nat->Option Nat|0,l,_=>`l|f+1,l,r=>if l≥r then `l else match sLt n lt p (lo+k) (lo+(l+r) / 2) with|some true=>iS p lo k f l ((l+r) / 2)|some false=>iS p lo k f ((l+r) / 2+1) r|none=>none
noncomputable def QO (lo:Nat):Nat->Nat->Array Nat->Option (Array Nat)|0,_,p=>`p|f+1,k,p=>match iS n lt p lo k k 0 k with|some l=>QO lo f (k+1) (bubble p (lo+k)<|lo+k-(lo+l))|none=>none
noncomputable def QN (left:Bool)(key:Nat)(a:Array Nat)(i:Nat):Option Bool:=match QW n a i with|some x=>if key<n then (if left=true then some (lt x key) else some (!lt key x)) else none|none=>none
noncomputable def sUp (left:Bool)(key:Nat)(a:Array Nat)(base hint mx:Nat):Nat->Nat->Nat->Option (Nat×Nat)|0,la,o=>some (la ,o)|f+1,la,o=>if o≥mx then some (la ,o) else match QN n lt left key a (base+(hint+o)) with|some true=>sUp left key a base hint mx f o (2*o+1)|some false=>some (la ,o)|none=>none
noncomputable def QR (left:Bool)(key:Nat)(a:Array Nat)(base hint mx:Nat):Nat->Nat->Nat->Option (Nat×Nat)|0,la,o=>some (la ,o)|f+1,la,o=>if o≥mx then some (la ,o) else match QN n lt left key a (base+(hint-o)) with|some false=>QR left key a base hint mx f o (2*o+1)|some true=>some (la ,o)|none=>none
noncomputable def QX (left:Bool)(key:Nat)(a:Array Nat)(base:Nat):Nat->Nat->Nat->Option Nat|0,_,hi=>`hi|f+1,lo,hi=>if lo≥hi then `hi else match QN n lt left key a (base+(lo+(hi-lo) / 2)) with|some true=>QX left key a base f (lo+(hi-lo) / 2+1) hi|some false=>QX left key a base f lo (lo+(hi-lo) / 2)|none=>none
noncomputable def QV (left:Bool)(key:Nat)(a:Array Nat)(base m hint:Nat):Option Nat:=match QN n lt left key a (base+hint) with
 |some true=>(match sUp n lt left key a base hint (m-hint) m 0 1 with
  |some (la ,o)=>QX n lt left key a base m (hint+la+1) (hint+min o (m-hint))
  |none=>none)
 |some false=>(match QR n lt left key a base hint (hint+1) m 0 1 with
  |some (la ,o)=>QX n lt left key a base m (hint+1-min o (hint+1)) (hint-la)
  |none=>none)
 |none=>none
structure Mg where
 out:Array Nat
 ia:Nat
 ib:Nat
 ac:Nat
 bc:Nat
 g:Nat
section
variable (a b:Array Nat)
noncomputable def QP (s:Mg):Array Nat:=s.out++a.extract s.ia a.size++b.extract s.ib b.size
noncomputable def QY (s:Mg):Array Nat:=s.out++b.extract s.ib b.size++a.extract s.ia a.size
noncomputable def PK (y x:Nat)(s:Mg):Option (Array Nat)×Mg×Bool:=if lt y x=true then
  (if (s.ib+1==b.size)=true then (some (QP a b (s.out.push y,s.ia,s.ib+1,0,s.bc+1,s.g)) ,(s.out.push y,s.ia,s.ib+1,0,s.bc+1,s.g),true)
   else (none ,(s.out.push y,s.ia,s.ib+1,0,s.bc+1,s.g),decide<|s.bc+1≥s.g))
 else
  (if (s.ia+1+1==a.size)=true then (some (QY a b (s.out.push x,s.ia+1,s.ib,s.ac+1,0,s.g)) ,(s.out.push x,s.ia+1,s.ib,s.ac+1,0,s.g),true)
   else (none ,(s.out.push x,s.ia+1,s.ib,s.ac+1,0,s.g),decide<|s.ac+1≥s.g))
noncomputable def Q2:Nat->Mg->Option (Array Nat ⊕ Mg)
 |0,s=>some<|.inr s
 |f+1,s=>match QW n b s.ib,QW n a s.ia with
  |some y,some x=>(match PK lt a b y x s with
   |(some r ,_,_)=>some (.inl r)
   |(none ,s',true)=>some (.inr s')
   |(none ,s',false)=>Q2 f s')
  |_,_=>none
noncomputable def ON (s:Mg):Option (Mg×Bool):=match QW n b s.ib with
 |none=>none
 |some y=>match QV n lt false y a s.ia (a.size-s.ia) 0 with
  |none=>none
  |some k=>if (k>0/\((s.ia+k+1==a.size)=true\/(s.ia+k==a.size)=true))\/(s.ib+1==b.size)=true then none
   else match QW n a (s.ia+k) with
   |none=>none
   |some x=>match QV n lt true x b (s.ib+1) (b.size-(s.ib+1)) 0 with
    |none=>none
    |some j=>if (j>0/\(s.ib+1+j==b.size)=true)\/(s.ia+k+1+1==a.size)=true then none
     else some ((((if j>0 then (if k>0 then s.out++a.extract s.ia (s.ia+k) else s.out).push y++b.extract (s.ib+1) (s.ib+1+j) else (if k>0 then s.out++a.extract s.ia (s.ia+k) else s.out).push y)).push x,s.ia+k+1,s.ib+1+j,k,j,if s.g>1 then s.g-1 else s.g) ,(decide (k<7)&&decide (j<7)))
noncomputable def QZ:Nat->Mg->Option Mg|0,s=>`s|f+1,s=>match ON n lt a b s with|none=>none|some (s' ,true)=>`s'|some (s' ,false)=>QZ f s'
noncomputable def lm (t:Nat):Nat->Mg->Option (Array Nat)
 |0,_=>none
 |f+1,s=>match Q2 n lt a b t (s.out,s.ia,s.ib,0,0,s.g) with
  |some (.inl r)=>`r
  |some (.inr s1)=>(match QZ n lt a b t (s1.out,s1.ia,s1.ib,s1.ac,s1.bc,s1.g+1) with
   |some s2=>lm t f (s2.out,s2.ia,s2.ib,s2.ac,s2.bc,s2.g+1)
   |none=>none)
  |none=>none
noncomputable def r6:Option (Array Nat):=match QW n b 0 with|some y=>if (1==b.size)=true then none else if (0+1==a.size)=true then none else lm n lt a b (a.size+b.size) (a.size+b.size) (#[y],0,1,0,0,7)|none=>none
end
noncomputable def Q3 (p:Array Nat)(x y:Nat):Option (Array Nat):=match QW n p x with
 |none=>none
 |some key=>match QV n lt false key p 0 x 0 with
  |none=>none
  |some k=>if (x-k==0)=true then none else match QW n p (0+k+(x-k)-1) with
   |none=>none
   |some last=>match QV n lt true last p x y (y-1) with
    |none=>none
    |some m=>if (m==0)=true then none else if x-k<=m then (match r6 n lt (p.extract (0+k) x) (p.extract x<|x+m) with
     |some r=>some (r.toList.zipIdx.foldl (λa q=>a.setIfInBounds (0+k+q.2) q.1) p)
     |none=>none) else none
noncomputable def Q0:Nat->Nat->Nat->Nat|f+1,m,r=>if m<64 then m+r else Q0 f (m / 2) (max r<|m%2)|0,m,r=>m+r
noncomputable def Q5 (p:Array Nat)(lo:Nat):Option (Nat×Array Nat):=match oI n lt p lo (n-lo) with
 |none=>none
 |some k=>if k<Q0 n n 0 then (match QO n lt lo (min (n-lo) (Q0 n n 0)-max k 1) (max k 1) p with
  |some p'=>some (min (n-lo) (Q0 n n 0) ,p')
  |none=>none) else some (k ,p)
noncomputable def Q9:Option (Array Nat):=match Q5 n lt (Iy<|List.range n) 0 with|none=>none|some (x ,p)=>if x=n then `p else match Q5 n lt p x with|none=>none|some (y ,p')=>if x+y=n then Q3 n lt p' x y else none
end
noncomputable def O2 (x y:↑Int×Int):Bool:=if x.1=y.1 then decide (x.2<y.2) else HT.lexLt x.1 y.1
end L2
namespace L2
open PySem PySem.W PyProof.Rows
section
variable {M:Model}{A:Lf}{E:K5->Ld->Prop}{s:Ld}{σ β:Type}{f:Nat->β->StateT σ Sem (ForInStep β)}{Q:β->σ->Prop}{st:σ}
def fU {b:β}(h:Q b st):wpS M A E s (forIn ([]:↑Nat) b f) Q st:=by rw[Ib];exact wpS_pure h
def aH {x:Nat}{b:β}(h:wpS M A E s (f x b) (λr st'=>match r with
  |.done b'=>Q b' st'
  |.yield b'=>wpS M A E s (forIn l b' f) Q st') st):wpS M A E s (forIn (x::l) b f) Q st:=by
 rw[HX];refine wpS_bind (wpS_mono h λr st' h'=>?_);cases r with|done b'=>exact wpS_pure h'|yield b'=>exact h'
def bV {a b:Nat}{c:β}(h:wpS M A E s (forIn (Io a<|b-a) c f) Q st):wpS M A E s (forIn [a:b] c f) Q st:=by rw[Std.Legacy.Range.forIn_eq_forIn_range',show ([a:b]:Std.Legacy.Range).size=b-a by simp [Std.Legacy.Range.size]];exact h
end
set_option tactic.hygienic true in
def ij {n i a:Nat}(h:QW n p i=`a):p[i]?=`a/\a<n:=by
 unfold QW at h;split at h
 .rename_i b e;split at h;rename_i l;cases h;exact(e,l);cases h
 cases h
section
variable {prog:K8}{w:K9}{A:Lf}{E:K5->Ld->Prop}{s:Ld}{κ:SortKind}{it:Array Keyed}{n:Nat}{lt:Nat->Nat->Bool}
noncomputable def sSt (κ:SortKind)(it:Array Keyed)(p:Array Nat)(pe:Array (Nat×Nat×Nat))(g:Nat):SortSt:=SortSt.mk' κ (p.map<|kas_item it) pe g none
def Ans (prog:K8)(w:K9)(A:Lf)(s:Ld)(κ:SortKind)(it:Array Keyed)(n:Nat)(lt:Nat->Nat->Bool):Prop:=
 ∀a b:Nat,a<n->b<n->∀Q:Bool->Ld->Prop,Q (lt a b) s->Lh (Li prog w) A (keyLt' κ (kas_item it a).1 (kas_item it b).1) Q (λJ J=>False) s
variable {p:Array Nat}{pe:Array (Nat×Nat×Nat)}{g:Nat}
def bv {i a:Nat}{Q:Keyed->SortSt->Prop}{st:SortSt}(h:QW n q i=`a)(k:Q (kas_item it a) st):wpS (Li prog w) A E s (elem' (q.map<|kas_item it) i) Q st:=by rw[elem'_eq,Array.getElem?_map,(ij h).1];exact wpS_pure k
def ug (H:Ans prog w A s κ it n lt){a b:Nat}{Q:Option Bool->SortSt->Prop}(ha:a<n)(hb:b<n)(k:Q (some<|lt a b) (sSt κ it p pe g)):wpS (Li prog w) A E s (lt' (kas_item it a)<|kas_item it b) Q (sSt κ it p pe g):=by rw[lt'_eq];refine wpS_bind<|wpS_get ?_;refine wpS_bind (wpS_lift<|wpAny_attempt<|LJ (H a b ha hb (λr s'=>r=lt a b/\s'=s) (rfl,rfl)) (λr s' hr=>?_) λJ J z=>z.elim);let(rfl,rfl):=hr;exact(rfl,wpS_pure k)
set_option tactic.hygienic true in
def C5 (H:Ans prog w A s κ it n lt){i j:Nat}{c:Bool}{Q:Option Bool->SortSt->Prop}(h:sLt n lt p i j=`c)(k:Q `c (sSt κ it p pe g)):wpS (Li prog w) A E s (ltAt' i j) Q (sSt κ it p pe g):=by
 unfold sLt at h;split at h;rename_i a b ea eb;cases h;rw[ltAt'_eq];refine wpS_bind<|wpS_get ?_;show wpS _ _ _ _ (do let x<-elem' (p.map<|kas_item it) i;let y<-elem' (p.map<|kas_item it) j;lt' x y) Q _;refine wpS_bind<|bv ea<|wpS_bind<|bv eb<|ug H (ij ea).2 (ij eb).2 k;cases h
set_option tactic.hygienic true in
theorem B7 {lo:Nat}{f:Nat->Option (Option Nat)×Nat->StateT SortSt Sem (ForInStep<|Option (Option Nat)×Nat)}{st:SortSt}
  (hf:∀x k c R ,sLt n lt p (lo+k) (lo+k-1)=`c->R (if c=true then .done (none ,k) else .yield (none ,k+1)) st->wpS (Li prog w) A E s (f x (none ,k)) R st):∀ (l:↑Nat) (k k':Nat) (Q:Option (Option Nat)×Nat->SortSt->Prop),QL n lt p lo ⇑l k=`k'->Q (none ,k') st->wpS (Li prog w) A E s (forIn l (none ,k) f) Q st
 |[],k,k',Q,h,q=>by rw[Ig,QL]at h;cases h;exact fU q
 |x::l,k,k',Q,h,q=>by
  rw[Hf,QL]at h;split at h;rename_i e;cases h;exact aH (hf x k true _ e<|by rw[bf rfl];exact q);rename_i e;exact aH (hf x k false _ e<|by rw[aZ ⇑_];exact B7 hf l (k+1) k' Q h q);cases h
set_option tactic.hygienic true in
def kD (H:Ans prog w A s κ it n lt){lo r k:Nat}{Q:Option Nat->SortSt->Prop}(h:oI n lt p lo r=`k)(q:Q `k (sSt κ it p pe g)):wpS (Li prog w) A E s (countRun' lo r) Q (sSt κ it p pe g):=by
 unfold oI at h;split at h
 .rename_i k1 e1;rw[countRun'_eq];dsimp only;refine wpS_bind<|bV<|B7 (lo:=lo) (λx k c R hc hR=>?_) _ 1 k1 _ (by rw[Iz];exact e1) ?_;refine wpS_bind<|C5 H hc ?_;cases c<;>exact wpS_pure hR
  .dsimp only;split at h;rename_i z;cases h;rw[bf z];exact wpS_pure q
   .rename_i z;rw[aZ z];split at h
    .rename_i z1;rw[bf z1];split at h;rename_i e2;cases h;refine wpS_bind<|C5 H e2 ?_;exact wpS_pure q;cases h
    cases h
 cases h
set_option tactic.hygienic true in
theorem oC {lo k:Nat}{f:Nat->Option Bool×Nat×Nat->StateT SortSt Sem (ForInStep<|Option Bool×Nat×Nat)}{st:SortSt}
  (h1:∀x l r R ,l≥r->R (.done (none ,l,r)) st->wpS (Li prog w) A E s (f x (none ,l,r)) R st)
  (h2:∀x l r c R ,¬l≥r->sLt n lt p (lo+k) (lo+(l+r) / 2)=`c->R (.yield<|if c=true then (none ,l,(l+r) / 2) else (none ,(l+r) / 2+1,r)) st->wpS (Li prog w) A E s (f x (none ,l,r)) R st):
  ∀ (ls:↑Nat) (l r l':Nat) (Q:Option Bool×Nat×Nat->SortSt->Prop),iS n lt p lo k ⇑ls l r=`l'->(∀r' ,Q (none ,l',r') st)->wpS (Li prog w) A E s (forIn ls (none ,l,r) f) Q st
 |[],l,r,l',Q,h,q=>by rw[Ig,iS]at h;cases h;exact fU<|q _
 |x::ls,l,r,l',Q,h,q=>by
  rw[Hf,iS]at h;split at h;rename_i z;cases h;exact aH<|h1 x l r _ z<|q _
  .rename_i z;split at h;rename_i e;exact aH (h2 x l r true _ z e<|by rw[bf rfl];exact oC h1 h2 ls _ _ l' Q h q);rename_i e;exact aH (h2 x l r false _ z e<|by rw[aZ ⇑_];exact oC h1 h2 ls _ _ l' Q h q);cases h
def oE (src d:Nat):bubble (p.map<|kas_item it) src d=(bubble p src d).map (kas_item it):=kas_swaps_map (kas_item it) (λk=>src-k) (λk=>src-k-1) _ p
set_option tactic.hygienic true in
theorem p7 {lo:Nat}{f:Nat->Option Bool×Unit->StateT SortSt Sem (ForInStep<|Option Bool×Unit)}
  (hf:∀k l p R ,iS n lt p lo k k 0 k=`l->R (.yield (none ,())) (sSt κ it (bubble p (lo+k)<|lo+k-(lo+l)) pe g)->wpS (Li prog w) A E s (f k (none ,())) R (sSt κ it p pe g)):
  ∀ (m k:Nat) (p p':Array Nat) (Q:Option Bool×Unit->SortSt->Prop),QO n lt lo m k p=`p'->Q (none ,()) (sSt κ it p' pe g)->wpS (Li prog w) A E s (forIn (Io k m) (none ,()) f) Q (sSt κ it p pe g)
 |0,k,p,p',Q,h,q=>by rw[QO]at h;cases h;exact fU q
 |m+1,k,p,p',Q,h,q=>by
  rw[QO]at h;split at h;rename_i l e;rw[List.range'_succ];exact aH<|hf k l p _ e<|p7 hf m (k+1) _ p' Q h q;cases h
def B6 (H:Ans prog w A s κ it n lt){lo m ok:Nat}{Q:Bool->SortSt->Prop}(h:QO n lt lo (m-max ok 1) (max ok 1) p=`p')(q:Q true (sSt κ it p' pe g)):wpS (Li prog w) A E s (binarySort' lo m ok) Q (sSt κ it p pe g):=by
 rw[binarySort'_eq];refine wpS_bind<|bV<|p7 (λk l p R e hR=>?_) _ _ p p' _ h ?_
 .dsimp only;refine wpS_bind (bV<|oC (lo:=lo) (k:=k) (λx l r R z hR=>?_) (λx l r c R z e hR=>?_) _ 0 k l _ (by rw[Iz];exact e) λr'=>?_);dsimp only;rw[bf z];exact wpS_pure hR;dsimp only;rw[aZ z];refine wpS_bind<|C5 H e ?_;cases c<;>exact wpS_pure hR;show wpS _ _ _ _ (do moveDown' (lo+k) (lo+l);pure (ForInStep.yield (none ,()))) _ _;rw[moveDown'_eq];refine wpS_bind<|wpS_modify<|wpS_pure ?_;show R _ (SortSt.mk' κ (bubble (p.map<|kas_item it) (lo+k)<|lo+k-(lo+l)) pe g none);rw[oE];exact hR
 exact wpS_pure q
end
section
noncomputable def gal':Bool->Keyed->Array Keyed->Nat->Nat->Nat->StateT SortSt Sem (Option Nat):=sortPriv%PySem.Builtin.gallop
section
variable {prog:K8}{w:K9}{A:Lf}{E:K5->Ld->Prop}{s:Ld}{κ:SortKind}{it:Array Keyed}{n:Nat}{lt:Nat->Nat->Bool}
variable {p:Array Nat}{pe:Array (Nat×Nat×Nat)}{g:Nat}
set_option tactic.hygienic true in
def nG (H:Ans prog w A s κ it n lt){left c:Bool}{key i:Nat}{Q:Option Bool->SortSt->Prop}(h:QN n lt left key a i=`c)(q:Q `c (sSt κ it p pe g)):
  wpS (Li prog w) A E s (do let x<-elem' (a.map<|kas_item it) i;if left=true then lt' x (kas_item it key) else do let r<-lt' (kas_item it key) x;pure (r.map (!·))) Q (sSt κ it p pe g):=by
 unfold QN at h;split at h
 .rename_i x e;have ax:=(ij e).2;refine wpS_bind<|bv e ?_;split at h
  .rename_i hk;split at h;rename_i l;cases h;rw[bf l];exact ug H ax hk q;rename_i l;cases h;rw[aZ l];exact wpS_bind<|ug H hk ax<|wpS_pure q
  cases h
 cases h
abbrev GS:=Option (Option Nat)×Nat×Nat
section
variable {f:Nat->GS->StateT SortSt Sem (ForInStep GS)}{st:SortSt}{left:Bool}{key base hint mx:Nat}{a:Array Nat}
set_option tactic.hygienic true in
theorem Fu (h1:∀x la o R ,o≥mx->R (.done (none ,la,o)) st->wpS (Li prog w) A E s (f x (none ,la,o)) R st)
  (h2:∀x la o c R ,¬o≥mx->QN n lt left key a (base+(hint+o))=`c->R (if c=true then .yield (none ,o,2*o+1) else .done (none ,la,o)) st->wpS (Li prog w) A E s (f x (none ,la,o)) R st):
  ∀ (l:↑Nat) (la o la' o':Nat) (Q:GS->SortSt->Prop),sUp n lt left key a base hint mx ⇑l la o=some (la' ,o')->Q (none ,la',o') st->wpS (Li prog w) A E s (forIn l (none ,la,o) f) Q st
 |[],la,o,la',o',Q,h,q=>by rw[Ig,sUp]at h;cases h;exact fU q
 |x::l,la,o,la',o',Q,h,q=>by
  rw[Hf,sUp]at h;split at h;rename_i z;cases h;exact aH<|h1 x la o _ z q
  .rename_i z;split at h;rename_i e;exact aH (h2 x la o true _ z e<|by rw[bf rfl];exact Fu h1 h2 l _ _ la' o' Q h q);rename_i e;cases h;exact aH (h2 x la o false _ z e<|by rw[aZ ⇑_];exact q);cases h
set_option tactic.hygienic true in
theorem xt (h1:∀x la o R ,o≥mx->R (.done (none ,la,o)) st->wpS (Li prog w) A E s (f x (none ,la,o)) R st)
  (h2:∀x la o c R ,¬o≥mx->QN n lt left key a (base+(hint-o))=`c->R (if c=true then .done (none ,la,o) else .yield (none ,o,2*o+1)) st->wpS (Li prog w) A E s (f x (none ,la,o)) R st):
  ∀ (l:↑Nat) (la o la' o':Nat) (Q:GS->SortSt->Prop),QR n lt left key a base hint mx ⇑l la o=some (la' ,o')->Q (none ,la',o') st->wpS (Li prog w) A E s (forIn l (none ,la,o) f) Q st
 |[],la,o,la',o',Q,h,q=>by rw[Ig,QR]at h;cases h;exact fU q
 |x::l,la,o,la',o',Q,h,q=>by
  rw[Hf,QR]at h;split at h;rename_i z;cases h;exact aH<|h1 x la o _ z q
  .rename_i z;split at h;rename_i e;exact aH (h2 x la o false _ z e<|by rw[aZ ⇑_];exact xt h1 h2 l _ _ la' o' Q h q);rename_i e;cases h;exact aH (h2 x la o true _ z e<|by rw[bf rfl];exact q);cases h
set_option tactic.hygienic true in
theorem oF (h1:∀x lo hi R ,lo≥hi->R (.done (none ,lo,hi)) st->wpS (Li prog w) A E s (f x (none ,lo,hi)) R st)
  (h2:∀x lo hi c R ,¬lo≥hi->QN n lt left key a (base+(lo+(hi-lo) / 2))=`c->R (.yield<|if c=true then (none ,lo+(hi-lo) / 2+1,hi) else (none ,lo,lo+(hi-lo) / 2)) st->wpS (Li prog w) A E s (f x (none ,lo,hi)) R st):
  ∀ (l:↑Nat) (lo hi k:Nat) (Q:GS->SortSt->Prop),QX n lt left key a base ⇑l lo hi=`k->(∀lo' ,Q (none ,lo',k) st)->wpS (Li prog w) A E s (forIn l (none ,lo,hi) f) Q st
 |[],lo,hi,k,Q,h,q=>by rw[Ig,QX]at h;cases h;exact fU<|q _
 |x::l,lo,hi,k,Q,h,q=>by
  rw[Hf,QX]at h;split at h;rename_i z;cases h;exact aH<|h1 x lo hi _ z<|q _
  .rename_i z;split at h;rename_i e;exact aH (h2 x lo hi true _ z e<|by rw[bf rfl];exact oF h1 h2 l _ _ k Q h q);rename_i e;exact aH (h2 x lo hi false _ z e<|by rw[aZ ⇑_];exact oF h1 h2 l _ _ k Q h q);cases h
end
set_option tactic.hygienic true in
def j9 (H:Ans prog w A s κ it n lt){left:Bool}{key base m hint k:Nat}{Q:Option Nat->SortSt->Prop}(h:QV n lt left key a base m hint=`k)(q:Q `k (sSt κ it p pe g)):wpS (Li prog w) A E s (gal' left (kas_item it key) (a.map<|kas_item it) base m hint) Q (sSt κ it p pe g):=by
 unfold QV at h;unfold gal';split at h
 .rename_i e0;split at h
  .rename_i la o e1;refine wpS_bind<|nG H e0 ?_;dsimp only;rw[bf rfl];refine wpS_bind<|bV<|Fu (left:=left) (key:=key) (base:=base) (hint:=hint) (mx:=m-hint) (a:=a) (n:=n) (lt:=lt) (λx la o R z hR=>?_) (λx la o c R z e hR=>?_) _ 0 1 la o _ (by rw[Iz];exact e1) ?_;dsimp only;rw[bf z];exact wpS_pure hR;dsimp only;rw[aZ z];refine wpS_bind<|nG H e ?_;cases c<;>exact wpS_pure hR
   .dsimp only;refine wpS_bind (bV<|oF (left:=left) (key:=key) (base:=base) (a:=a) (n:=n) (lt:=lt) (λx lo hi R z hR=>?_) (λx lo hi c R z e hR=>?_) _ _ _ k _ (by rw[Iz];exact h) λlo'=>?_);dsimp only;rw[bf z];exact wpS_pure hR;dsimp only;rw[aZ z];refine wpS_bind<|nG H e ?_;cases c<;>exact wpS_pure hR;exact wpS_pure q
  cases h
 .rename_i e0;split at h
  .rename_i la o e1;refine wpS_bind<|nG H e0 ?_;dsimp only;rw[aZ ⇑_];refine wpS_bind<|bV<|xt (left:=left) (key:=key) (base:=base) (hint:=hint) (mx:=hint+1) (a:=a) (n:=n) (lt:=lt) (λx la o R z hR=>?_) (λx la o c R z e hR=>?_) _ 0 1 la o _ (by rw[Iz];exact e1) ?_;dsimp only;rw[bf z];exact wpS_pure hR;dsimp only;rw[aZ z];refine wpS_bind<|nG H e ?_;cases c<;>exact wpS_pure hR
   .dsimp only;refine wpS_bind (bV<|oF (left:=left) (key:=key) (base:=base) (a:=a) (n:=n) (lt:=lt) (λx lo hi R z hR=>?_) (λx lo hi c R z e hR=>?_) _ _ _ k _ (by rw[Iz];exact h) λlo'=>?_);dsimp only;rw[bf z];exact wpS_pure hR;dsimp only;rw[aZ z];refine wpS_bind<|nG H e ?_;cases c<;>exact wpS_pure hR;exact wpS_pure q
  cases h
 cases h
end
end
section
noncomputable def Pr:Array Keyed->Array Keyed->StateT SortSt Sem (Array Keyed):=sortPriv%PySem.Builtin.mergeLo
section
variable {prog:K8}{w:K9}{A:Lf}{E:K5->Ld->Prop}{s:Ld}{κ:SortKind}{it:Array Keyed}{n:Nat}{lt:Nat->Nat->Bool}
variable {p:Array Nat}{pe:Array (Nat×Nat×Nat)}{a b:Array Nat}
abbrev M6:=Option (Array Keyed)×Array Keyed×Nat×Nat×Nat×Nat
abbrev M7:=Option (Array Keyed)×Array Keyed×Nat×Nat×Nat×Nat×Nat
abbrev M5:=Option (Array Keyed)×Array Keyed×Nat×Nat×Nat
abbrev t6 (it:Array Keyed)(r:Option (Array Nat))(s:Mg):M6:=(r.map (·.map (kas_item it)) ,s.out.map<|kas_item it,s.ia,s.ib,s.ac,s.bc)
abbrev t7 (it:Array Keyed)(s:Mg):M7:=(none ,s.out.map<|kas_item it,s.ia,s.ib,s.g,s.ac,s.bc)
abbrev t5 (it:Array Keyed)(r:Option (Array Nat))(s:Mg):M5:=(r.map (·.map (kas_item it)) ,s.out.map<|kas_item it,s.ia,s.ib,s.g)
set_option tactic.hygienic true in
theorem B4 {f:Nat->M6->StateT SortSt Sem (ForInStep M6)}{st:SortSt}{g:Nat}
  (hf:∀x (m:Mg) y z R ,m.g=g->QW n b m.ib=`y->QW n a m.ia=`z->R (if (PK lt a b y z m).2.2=true then .done (t6 it (PK lt a b y z m).1 (PK lt a b y z m).2.1) else .yield (t6 it none (PK lt a b y z m).2.1)) st->wpS (Li prog w) A E s (f x<|t6 it none m) R st):
  ∀ (l:↑Nat) (m:Mg) (r:Array Nat ⊕ Mg) (Q:M6->SortSt->Prop),m.g=g->Q2 n lt a b ⇑l m=`r->(∀q ,r=.inl q->∀m',Q (t6 it `q m') st)->(∀m' ,r=.inr m'->m'.g=g->Q (t6 it none m') st)->wpS (Li prog w) A E s (forIn l (t6 it none m) f) Q st
 |[],m,r,Q,hg,h,q1,q2=>by rw[Ig,Q2]at h;cases h;exact fU<|q2 _ rfl hg
 |x::l,m,r,Q,hg,h,q1,q2=>by
  rw[Hf,Q2]at h;split at h
  .rename_i y z ey ez;have gg:(PK lt a b y z m).2.1.g=g:=by
    unfold PK
    repeat' split
    all_goals exact hg
   split at h
   .rename_i q m' d e;have d1:d=true:=by
     unfold PK at e
     repeat' split at e
     all_goals (injection e with e1 e2;first|(injection e2 with _ e3;exact e3.symm)|cases e1)
    refine aH<|hf x m y z _ hg ey ez ?_;rw[e,d1];cases h;exact q1 _ rfl _
   rename_i m' e;rw[e]at gg;refine aH<|hf x m y z _ hg ey ez ?_;rw[e];cases h;exact q2 _ rfl gg;rename_i m' e;rw[e]at gg;refine aH<|hf x m y z _ hg ey ez ?_;rw[e];exact B4 hf l m' r Q gg h q1 q2
  cases h
set_option tactic.hygienic true in
theorem xq {f:Nat->M7->StateT SortSt Sem (ForInStep M7)}
  (hf:∀x (m m':Mg) d G R ,ON n lt a b m=some (m' ,d)->R (if d=true then .done (t7 it m') else .yield (t7 it m')) (sSt κ it p pe m'.g)->wpS (Li prog w) A E s (f x<|t7 it m) R (sSt κ it p pe G)):
  ∀ (l:↑Nat) (m m':Mg) (G:Nat) (Q:M7->SortSt->Prop),QZ n lt a b ⇑l m=`m'->(∀G ,Q (t7 it m')<|sSt κ it p pe G)->wpS (Li prog w) A E s (forIn l (t7 it m) f) Q (sSt κ it p pe G)
 |[],m,m',G,Q,h,q=>by rw[Ig,QZ]at h;cases h;exact fU<|q _
 |x::l,m,m',G,Q,h,q=>by
  rw[Hf,QZ]at h;split at h;cases h;rename_i m1 e;cases h;exact aH<|hf x m _ true G _ e<|q _;rename_i m1 e;exact aH<|hf x m _ false G _ e<|xq hf l _ m' _ Q h q
set_option tactic.hygienic true in
theorem ue {t:Nat}{f:Nat->M5->StateT SortSt Sem (ForInStep M5)}
  (hf:∀x (m:Mg) r G R ,Q2 n lt a b t (m.out,m.ia,m.ib,0,0,m.g)=`r->(∀q ,r=.inl q->∀m',R (.done<|t5 it (some q) m')<|sSt κ it p pe G)->(∀m1 ,r=.inr m1->∃m2,QZ n lt a b t (m1.out,m1.ia,m1.ib,m1.ac,m1.bc,m1.g+1)=`m2/\R (.yield<|t5 it none (m2.out,m2.ia,m2.ib,m2.ac,m2.bc,m2.g+1)) (sSt κ it p pe<|m2.g+1))->wpS (Li prog w) A E s (f x<|t5 it none m) R (sSt κ it p pe G)):
  ∀ (l:↑Nat) (m:Mg) (r:Array Nat) (G:Nat) (Q:M5->SortSt->Prop),lm n lt a b t ⇑l m=`r->(∀m' G ,Q (t5 it `r m')<|sSt κ it p pe G)->wpS (Li prog w) A E s (forIn l (t5 it none m) f) Q (sSt κ it p pe G)
 |[],m,r,G,Q,h,q=>by rw[Ig,lm]at h;cases h
 |x::l,m,r,G,Q,h,q=>by
  rw[Hf,lm]at h;split at h;rename_i r1 e;cases h;exact aH (hf x m _ G _ e (λq' hq m'=>by cases hq;exact q m' G) λm1 hm=>by cases hm)
  .rename_i m1 e;split at h;rename_i m2 e2;exact aH (hf x m _ G _ e (λq' hq=>by cases hq) λm1' hm=>by cases hm;exact(m2,e2,ue hf l _ r _ Q h q));cases h
  cases h
def eJ (q:Array Nat)(i j:Nat):(q.map<|kas_item it).extract i j=(q.extract i j).map (kas_item it):=⇑_
def bY (q:Array Nat)(y:Nat):(q.map<|kas_item it).push (kas_item it y)=(q.push y).map (kas_item it):=⇑_
def gE (q r:Array Nat):q.map (kas_item it)++r.map (kas_item it)=(q++r).map (kas_item it):=⇑_
def dc {σ α:Type}{M:Model}{c:Prop} [Decidable c] {x y:StateT σ Sem α}{R:α->σ->Prop}{st:σ}(h:c)(q:wpS M A E s x R st):wpS M A E s (if c then x else y) R st:=by rw[bf h];exact q
def aI {σ α:Type}{M:Model}{c:Prop} [Decidable c] {x y:StateT σ Sem α}{R:α->σ->Prop}{st:σ}(h:¬c)(q:wpS M A E s y R st):wpS M A E s (if c then x else y) R st:=by rw[aZ h];exact q
def Zi {β:Type}{c:Prop}{i:Decidable c}{M:Model}{Q:β->SortSt->Prop}{st:SortSt}{K:Nat->StateT SortSt Sem β}{x y:Nat}(h:∀g,g=(if c then x else y)->wpS M A E s (K g) Q st):wpS M A E s (if c then K x else K y) Q st:=by by_cases z:c;exact dc z (h x (bf z).symm);exact aI z (h y (aZ z).symm)
set_option tactic.hygienic true in
def Ai (H:Ans prog w A s κ it n lt){Q:Array Keyed->SortSt->Prop}(h:r6 n lt a b=`r)(q:∀g ,Q (r.map<|kas_item it)<|sSt κ it p pe g):wpS (Li prog w) A E s (Pr (a.map<|kas_item it)<|b.map<|kas_item it) Q (sSt κ it p pe 7):=by
 refine Classical.byContradiction λZz=>?_;unfold r6 at h;split at h
 .rename_i y e0;split at h;cases h
  .rename_i z1;split at h;cases h
   .rename_i z2;refine Zz ?_;clear Zz;unfold Pr;refine wpS_bind<|wpS_lift<|Ln (rfl,?_);refine wpS_bind<|bv e0 ?_;rw[show (#[kas_item it y]:Array Keyed)=(#[y]:Array Nat).map (kas_item it) by simp];rw[Array.size_map,Array.size_map];rw[aZ z1,aZ z2];refine wpS_bind<|wpS_get ?_;refine wpS_bind (bV<|ue (κ:=κ) (it:=it) (p:=p) (pe:=pe) (a:=a) (b:=b) (n:=n) (lt:=lt) (t:=a.size+b.size) (λx m r G R e hR1 hR2=>?_) _ (#[y],0,1,0,0,7) r 7 _ (by rw[Iz];exact h) λm' G=>?_)
    .refine wpS_bind (bV<|B4 (it:=it) (a:=a) (b:=b) (n:=n) (lt:=lt) (g:=m.g) (λx m y z R hg ey ez hR=>?_) _ (m.out,m.ia,m.ib,0,0,m.g) r _ rfl (by rw[Iz];exact e) (λq hq m'=>?_) λm1 hm hg=>?_)
     .refine wpS_bind<|bv ey<|wpS_bind<|bv ez<|wpS_bind<|ug H (ij ey).2 (ij ez).2 ?_;unfold PK at hR;cases hc:lt y z with
      |true=>
       rw[bf hc]at hR;dsimp only;rw[bf rfl];refine wpS_bind<|bv ey ?_
       try dsimp only
       by_cases z1:(m.ib+1==b.size)=true;rw[bf z1]at hR;rw[bf z1];refine wpS_pure ?_;dsimp only[t6,QP,Option.map]at hR;rw[bY,eJ,eJ,gE,gE];exact hR
       .rw[aZ z1]at hR;rw[aZ z1];dsimp only at hR;by_cases z2:m.bc+1≥m.g;rw[bf<|bN z2]at hR;rw[bf<|by rw[<-hg];exact z2];refine wpS_pure ?_;dsimp only[t6,Option.map]at hR;rw[bY];exact hR;rw[aZ<|by simpa using z2]at hR;rw[aZ<|by rw[<-hg];exact z2];refine wpS_pure ?_;dsimp only[t6,Option.map]at hR;rw[bY];exact hR
      |false=>
       rw[aZ<|show¬lt y z=true by rw[hc];simp]at hR;dsimp only;rw[aZ ⇑_];refine wpS_bind<|bv ez ?_
       try dsimp only
       by_cases z1:(m.ia+1+1==a.size)=true;rw[bf z1]at hR;rw[bf z1];refine wpS_pure ?_;dsimp only[t6,QY,Option.map]at hR;rw[bY,eJ,eJ,gE,gE];exact hR
       .rw[aZ z1]at hR;rw[aZ z1];dsimp only at hR;by_cases z2:m.ac+1≥m.g;rw[bf<|bN z2]at hR;rw[bf<|by rw[<-hg];exact z2];refine wpS_pure ?_;dsimp only[t6,Option.map]at hR;rw[bY];exact hR;rw[aZ<|by simpa using z2]at hR;rw[aZ<|by rw[<-hg];exact z2];refine wpS_pure ?_;dsimp only[t6,Option.map]at hR;rw[bY];exact hR
     exact wpS_pure<|hR1 _ hq (m'.out,m'.ia,m'.ib,0,0,m.g)
     .let(m2,e2,hR3):=hR2 m1 hm;refine wpS_bind<|wpS_lift<|Ln (rfl,?_);refine wpS_bind (bV<|xq (κ:=κ) (it:=it) (p:=p) (pe:=pe) (a:=a) (b:=b) (n:=n) (lt:=lt) (λx m m' d G R hl hR=>?_) _ (m1.out,m1.ia,m1.ib,m1.ac,m1.bc,m.g+1) m2 G _ (by rw[Iz,<-hg];exact e2) λG=>?_)
      .refine Classical.byContradiction λZz=>?_;unfold ON at hl;split at hl;cases hl
       rename_i y ey;split at hl;cases hl
       rename_i k ek;split at hl;cases hl
       rename_i nk;split at hl;cases hl
       rename_i x ex;split at hl;cases hl
       rename_i j ej;split at hl;cases hl
       rename_i nj;have a1:¬(m.ib+1==b.size)=true:=λz=>nk<|.inr z;have a2:k>0->¬(m.ia+k+1==a.size)=true:=λhk z=>nk<|.inl (hk,.inl z);have a3:k>0->¬(m.ia+k==a.size)=true:=λhk z=>nk<|.inl (hk,.inr z);have a4:j>0->¬(m.ib+1+j==b.size)=true:=λhj z=>nj<|.inl (hj,z);have a5:¬(m.ia+k+1+1==a.size)=true:=λz=>nj<|.inr z;clear nk nj;injection hl with hl
       let(rfl,rfl):=Prod.mk.inj hl;refine Zz ?_;clear Zz;dsimp only;have fin:∀ (o:Array Nat) (g':Nat),o=(if j>0 then (if k>0 then m.out++a.extract m.ia (m.ia+k) else m.out).push y++b.extract (m.ib+1) (m.ib+1+j) else (if k>0 then m.out++a.extract m.ia (m.ia+k) else m.out).push y)->g'=(if m.g>1 then m.g-1 else m.g)->wpS (Li prog w) A E s (if (decide (k<7)&&decide (j<7))=true then pure (ForInStep.done<|t7 it (o.push x,m.ia+k+1,m.ib+1+j,k,j,g')) else pure (ForInStep.yield<|t7 it (o.push x,m.ia+k+1,m.ib+1+j,k,j,g'))) R (sSt κ it p pe g'):=λo g' ho hg'=>by
        rw[<-ho,<-hg']at hR;by_cases hd:(decide (k<7)&&decide (j<7))=true;rw[bf hd]at hR;exact dc hd<|wpS_pure hR;rw[aZ hd]at hR;exact aI hd<|wpS_pure hR
       clear hR;generalize m.g-1=x0 at fin⊢;generalize m.g=y0 at fin⊢;apply Zi (x:=x0) (y:=y0);intro g0 hg0;refine wpS_bind<|wpS_modify ?_;show wpS _ _ _ _ _ _ (sSt κ it p pe g0);refine wpS_bind<|bv ey<|wpS_bind<|j9 H ek ?_;dsimp only;by_cases hk:k>0
       .rw[bf hk]at fin;refine dc hk<|aI (a2 hk)<|aI (a3 hk)<|wpS_bind<|bv ey ?_;refine aI a1<|wpS_bind<|bv ex<|wpS_bind<|j9 H ej ?_;dsimp only;by_cases hj:j>0;rw[bf hj]at fin;refine dc hj<|aI (a4 hj)<|wpS_bind<|bv ex ?_;refine aI a5 ?_;rw[eJ,eJ,gE,bY,gE,bY];exact fin _ _ rfl hg0;rw[aZ hj]at fin;obtain rfl:j=0:=∅;refine aI hj<|wpS_bind<|bv ex ?_;refine aI a5 ?_;rw[eJ,gE,bY,bY];exact fin _ _ rfl hg0
       .rw[aZ hk]at fin;obtain rfl:k=0:=∅;refine aI hk<|wpS_bind<|bv ey ?_;refine aI a1<|wpS_bind<|bv ex<|wpS_bind<|j9 H ej ?_;dsimp only;by_cases hj:j>0;rw[bf hj]at fin;refine dc hj<|aI (a4 hj)<|wpS_bind<|bv ex ?_;refine aI a5 ?_;rw[eJ,bY,gE,bY];exact fin _ _ rfl hg0;rw[aZ hj]at fin;obtain rfl:j=0:=∅;refine aI hj<|wpS_bind<|bv ex ?_;refine aI a5 ?_;rw[bY,bY];exact fin _ _ rfl hg0
      refine wpS_bind<|wpS_modify<|wpS_pure ?_;exact hR3
    exact wpS_pure<|q G
 cases h
end
end
section
section
variable {prog:K8}{w:K9}{A:Lf}{E:K5->Ld->Prop}{s:Ld}{κ:SortKind}{it:Array Keyed}{n:Nat}{lt:Nat->Nat->Bool}{p:Array Nat}
def Cp {σ:Type}{M:Model}{st st':σ}{Q:PUnit->σ->Prop}(h:Q ⟨⟩ st'):wpS M A E s (set st':StateT σ Sem PUnit) Q st:=by unfold wpS;rw[StateT.run_set];exact Lm (rfl,h)
def Fw (k:Nat)(p:Array Nat):∀l:↑(Nat×Nat),(l.map λq=>(kas_item it q.1 ,q.2)).foldl (λa q=>a.setIfInBounds (0+k+q.2) q.1) (p.map<|kas_item it)=(l.foldl (λa q=>a.setIfInBounds (0+k+q.2) q.1) p).map (kas_item it):=by
 intro l
 induction l generalizing p with
 |nil=>rfl
 |cons q l ih=>
  rw[Hg,IT,IT,<-ih];congr 1;simp
set_option tactic.hygienic true in
def C4 (H:Ans prog w A s κ it n lt){x y u v:Nat}{Q:Bool->SortSt->Prop}(h:Q3 n lt p x y=`r)(q:∀g ,Q true<|sSt κ it r #[(0 ,x+y,u)] g):wpS (Li prog w) A E s (mergeAt' 0) Q (sSt κ it p #[(0 ,x,u),(x ,y,v)] 7):=by
 refine Classical.byContradiction λZz=>?_;unfold Q3 at h;split at h;cases h
 rename_i key e1;split at h;cases h
 rename_i k e2;split at h;cases h
 rename_i z1;split at h;cases h
 rename_i last e3;split at h;cases h
 rename_i m e4;split at h;cases h
 rename_i z2;split at h
 .rename_i z3;split at h;rename_i mg e5;cases h;refine Zz ?_;clear Zz;unfold mergeAt';refine wpS_bind<|wpS_get ?_;have p1:(pendingOf<|sSt κ it p #[(0 ,x,u),(x ,y,v)] 7)[0]?=some (0 ,x,u):=rfl;have p2:(pendingOf<|sSt κ it p #[(0 ,x,u),(x ,y,v)] 7)[0+1]?=some (x ,y,v):=rfl;rw[p1,p2];refine wpS_bind<|Cp ?_;show wpS _ _ _ _ _ _ (sSt κ it p ((#[(0 ,x,u),(x ,y,v)]:Array (Nat×Nat×Nat)).setIfInBounds 0 (0 ,x+y,u)|>.eraseIdxIfInBounds 1) 7);rw[show ((#[(0 ,x,u),(x ,y,v)]:Array (Nat×Nat×Nat)).setIfInBounds 0 (0 ,x+y,u)|>.eraseIdxIfInBounds 1)= #[(0 ,x+y,u)] by simp [Array.eraseIdxIfInBounds]];refine wpS_bind<|bv e1<|wpS_bind<|j9 H e2 ?_;dsimp only;refine aI z1<|wpS_bind<|bv e3<|wpS_bind<|j9 H e4 ?_;dsimp only;refine aI z2<|dc z3 ?_;refine wpS_bind ?_;show wpS _ _ _ _ (Pr ((p.map<|kas_item it).extract (0+k) x)<|(p.map<|kas_item it).extract x<|x+m) _ _;rw[eJ,eJ];refine Ai H e5 λg=>?_;refine wpS_bind<|wpS_modify<|wpS_bind<|wpS_get<|wpS_pure ?_;show Q true (SortSt.mk' κ (Js (λ(a:Array Keyed) (x:Keyed×Nat)=>a.setIfInBounds (0+k+x.2) x.1) (p.map<|kas_item it) (mg.map<|kas_item it).toList.zipIdx) #[(0 ,x+y,u)] g none);rw[Array.toList_map,List.zipIdx_map,show (Prod.map (kas_item it) id:Nat×Nat->Keyed×Nat)=λq=>(kas_item it q.1 ,q.2) from rfl,Fw];exact q g;cases h
 cases h
theorem B5:∀f m r,minRun' f m r=Q0 f m r|0,m,r=>rfl|f+1,m,r=>by rw[minRun'_succ,Q0,B5 f]
abbrev L2S:=Option Unit×Nat
set_option tactic.hygienic true in
def C6 {k:Nat}{f:Nat->L2S->StateT SortSt Sem (ForInStep L2S)}{x:Nat}{R:L2S->SortSt->Prop}
  (hA:∀i lo st R ,lo≥k+2->R (.done (none ,lo)) st->wpS (Li prog w) A E s (f i (none ,lo)) R st)
  (hB:∀i lo y p p' R ,¬lo≥k+2->Q5 (k+2) lt p lo=some (y ,p')->R (.yield (none ,lo+y)) (sSt κ it p' #[(lo ,y,0)] 7)->wpS (Li prog w) A E s (f i (none ,lo)) R (sSt κ it p #[] 7))
  (hC:∀i lo y p p' z R ,¬lo≥k+2->Q5 (k+2) lt p lo=some (y ,p')->(∀u ,R (.yield (none ,lo+y))<|sSt κ it p' #[(0 ,z,u),(lo ,y,0)] 7)->wpS (Li prog w) A E s (f i (none ,lo)) R (sSt κ it p #[(0 ,z,0)] 7))
  (e1:Q5 (k+2) lt p0 0=some (x ,p1))(h:(if x=k+2 then `p1 else match Q5 (k+2) lt p1 x with
   |none=>none
   |some (y ,p')=>if x+y=k+2 then Q3 (k+2) lt p' x y else none)=`r)
  (q1:p1=r->R (none ,k+2) (sSt κ it r #[(0 ,k+2,0)] 7))(q2:∀y u p2 ,Q3 (k+2) lt p2 x y=`r->R (none ,k+2) (sSt κ it p2 #[(0 ,x,u),(x ,y,0)] 7)):
  wpS (Li prog w) A E s (forIn (0::1::Io 2 k) (none ,0) f) R (sSt κ it p0 #[] 7):=by
 refine aH<|hB 0 0 x p0 p1 _ ∅ e1 ?_;dsimp only;rw[Nat.zero_add];by_cases z:x=k+2;rw[bf z]at h;cases h;subst z;exact aH<|hA 1 _ _ _ (Hc _)<|q1 rfl
 .rw[aZ z]at h;split at h;cases h
  rename_i y p2 e2;split at h
  .rename_i z2;refine aH (hC 1 x y p1 p2 x _ ∅ e2 λu=>?_);dsimp only;rw[z2];cases k with|zero=>exact fU (q2 y u p2 h)|succ k=>rw[List.range'_succ];exact aH<|hA 2 _ _ _ (Hc _)<|q2 y u p2 h
  cases h
set_option tactic.hygienic true in
def B3 (H:Ans prog w A s κ it n lt){lo y M:Nat}{pe:Array (Nat×Nat×Nat)}{g:Nat}(hM:Q0 n n 0=M)(h:Q5 n lt p lo=some (y ,p')):∃f,oI n lt p lo (n-lo)=`f/\((f<M/\y=min (n-lo) M/\QO n lt lo (min (n-lo) M-max f 1) (max f 1) p=`p')\/(¬f<M/\y=f/\p'=p)):=by
 unfold Q5 at h;rw[hM]at h;split at h;cases h
 rename_i f e;refine(f,e,?_);split at h
 .rename_i z;split at h;rename_i q e2;cases h;exact .inl (z,rfl,e2);cases h
 rename_i z;cases h;exact .inr (z,rfl,rfl)
set_option tactic.hygienic true in
def C2 (H:Ans prog w A s κ it n lt){Q:Unit->SortSt->Prop}(h2:2<=n)(h:Q9 n lt=`r)(q:∀pe g ,Q ()<|sSt κ it r pe g):wpS (Li prog w) A E s sortRuns' Q (sSt κ it (Iy<|List.range n) #[] 7):=by
 unfold Q9 at h;split at h;cases h
 rename_i x p1 e1;rw[sortRuns'_eq];refine wpS_bind<|wpS_get ?_;dsimp only;have hsz:(arrOf<|sSt κ it (Iy<|List.range n) #[] 7).size=n:=by show ((Iy<|List.range n).map<|kas_item it).size=_;simp
 rw[hsz,B5];obtain⟨k,rfl⟩:∃k,n=k+2:=(n-2,∅)
 obtain⟨M,hM⟩:∃M,Q0 (k+2) (k+2) 0=M:=(_,rfl)
 rw[hM];refine wpS_bind<|bV ?_;show wpS _ _ _ _ (forIn (0::1::Io 2 k) _ _) _ _;refine C6 (κ:=κ) (it:=it) (lt:=lt) (λi lo st R z hR=>?_) (λi lo y p p' R z e hR=>?_) (λi lo y p p' v R z e hR=>?_) e1 h (λe=>?_) λy u p2 e=>?_;exact dc z<|wpS_pure hR
 .refine aI z ?_;obtain⟨f,e2,⟨c1,rfl,e3⟩|⟨c1,rfl,rfl⟩⟩:=B3 (pe:= #[]) (g:=7) H hM e;refine wpS_bind<|kD H e2 ?_;dsimp only;refine dc c1<|wpS_bind<|wpS_lift<|Ln (rfl,?_);refine wpS_bind<|B6 H e3 ?_;refine aI ⇑_ (wpS_bind<|wpS_get ?_);exact wpS_bind<|wpS_modify<|wpS_pure hR;refine wpS_bind<|kD H e2 ?_;dsimp only;refine aI c1<|wpS_bind<|wpS_get ?_;exact wpS_bind<|wpS_modify<|wpS_pure hR
 .refine aI z ?_;obtain⟨f,e2,⟨c1,rfl,e3⟩|⟨c1,rfl,rfl⟩⟩:=B3 (pe:= #[]) (g:=7) H hM e;refine wpS_bind<|kD H e2 ?_;dsimp only;refine dc c1<|wpS_bind<|wpS_lift<|Ln (rfl,?_);refine wpS_bind<|B6 H e3 ?_;refine aI ⇑_ (wpS_bind<|wpS_get ?_);refine wpS_bind<|bV ?_;show wpS _ _ _ _ (forIn (0::Io 1 (k+1)) _ _) _ _;refine aH<|wpS_bind<|wpS_get ?_;refine wpS_pure ?_;dsimp only;refine wpS_bind<|wpS_modify<|wpS_bind<|wpS_modify<|wpS_pure ?_;exact hR _;refine wpS_bind<|kD H e2 ?_;dsimp only;refine aI c1<|wpS_bind<|wpS_get ?_;refine wpS_bind<|bV ?_;show wpS _ _ _ _ (forIn (0::Io 1 (k+1)) _ _) _ _;refine aH<|wpS_bind<|wpS_get ?_;refine wpS_pure ?_;dsimp only;refine wpS_bind<|wpS_modify<|wpS_bind<|wpS_modify<|wpS_pure ?_;exact hR _
 dsimp only;refine wpS_bind<|bV ?_;show wpS _ _ _ _ (forIn (0::Io 1 (k+1)) _ _) _ _;refine aH<|wpS_bind<|wpS_get ?_;refine dc (Hc 1)<|wpS_pure ?_;exact wpS_pure<|q _ _;dsimp only;refine wpS_bind<|bV ?_;show wpS _ _ _ _ (forIn (0::1::Io 2 k) _ _) _ _;refine aH<|wpS_bind<|wpS_get ?_;refine aI (show¬(2<=1) by omega) ?_;refine wpS_bind (C4 (u:=u) (v:=0) H e λg=>?_);refine aI ⇑_ (wpS_pure ?_);dsimp only;refine aH<|wpS_bind<|wpS_get ?_;refine dc (Hc 1)<|wpS_pure ?_;exact wpS_pure<|q _ _
end
end
section
section
variable {prog:K8}{w:K9}{A:Lf}{E:K5->Ld->Prop}{s:Ld}
structure MX (prog:K8)(w:K9)(h:La)(v:K5)(k:↑Int×Int)(m:Int):Prop where
 ex:∃a o n c t u its,v=.ref a/\h.get? a=`o/\o.cls=.type "tuple"/\o.data=.seq #[.ref c,.int k.2 t,.int m u] n/\IsTup h c its/\IntsAre its.toList k.1/\IsTupleKey (Lc prog w) h k.1 c
def pA {a c:Int}{Q:Bool->Ld->Prop}(h:Q (decide<|a=c) s):Lh (Li prog w) A (eqBool (.int a t)<|.int c u) Q E s:=
 (Lc prog w).eqBool (a:=a) (b:=c) (by simp [Lc,K5.isInt]) (by simp [Lc,K5.isInt]) h
def C9 {m m':Int}{Q:Bool->Ld->Prop}(hu:A.units<Lg)(hv:MX prog w s.heap v k m)(hv':MX prog w s.heap v' k' m')(h:Q (if k=k' then decide (m<m') else O2 k k') s):
  Lh (Li prog w) A (keyLt' (tuples' false) v v') Q E s:=by
 let(a,o,n,c,t,u,its,rfl,g1,g2,g3,g4,g5,g6):=hv;let(a',o',n',c',t',u',its',rfl,q1,q2,q3,q4,q5,q6):=hv';let(ks,l):=k;let(ks',l'):=k';refine kat_lt g1 g3 q1 q3 ?_;show KatLex prog w A false _ Q [(.ref c ,.ref c'),(.int l t ,.int l' t'),(.int m u ,.int m' u')] 0 s;refine kat_cons<|wpAny_eqBool_tuple (knd:=Lc prog w) hu g6 q6 ?_;by_cases e1:ks=ks'
 .subst e1;rw[bN rfl];refine kat_yes<|kat_cons<|pA ?_;by_cases e2:l=l'
  .subst e2;rw[bf rfl]at h;rw[bN rfl];refine kat_yes<|kat_cons<|pA ?_;by_cases e3:m=m';subst e3;rw[bN rfl];refine kat_yes<|kat_nil ?_;rw[bg<|JH m]at h;exact h;rw[bg e3];exact kat_no<|kat_one _ _<|lt_int h
  rw[aZ<|λz=>e2 (Prod.mk.inj z).2]at h;rw[bg e2];unfold O2 at h;rw[bf rfl]at h;exact kat_no<|kat_one _ _<|lt_int h
 rw[aZ<|λz=>e1 (Prod.mk.inj z).1]at h;rw[bg e1];unfold O2 at h;rw[aZ e1]at h;exact kat_no<|kat_one _ _<|HT.lt_tupInts g4 q4 g5 q5 hu h
def vm {n:Nat}{P:Fin->Ld->Prop}{κ:SortKind}{lt:Nat->Nat->Bool}(ho:s.heap.get? a=some (seqObj "list" vs.toArray n))(hz:⇑vs<=1000)(hp:Q9 ⇑vs lt=`p)(hl:p.size<=1000)
  (hk:∀Q:SortKind->Ld->Prop ,Q κ {s with heap:=((s.heap.update a<|Le.mapSeq λJ=> #[]).push<|seqObj "tuple" vs.toArray 0).push<|seqObj "list" #[] 0}->Lh (Li prog w) A (keyKind' vs.toArray) Q (λJ J=>False) {s with heap:=((s.heap.update a<|Le.mapSeq λJ=> #[]).push<|seqObj "tuple" vs.toArray 0).push<|seqObj "list" #[] 0})
  (hA:Ans prog w A {s with heap:=((s.heap.update a<|Le.mapSeq λJ=> #[]).push<|seqObj "tuple" vs.toArray 0).push<|seqObj "list" #[] 0} κ (vs.toArray.zip vs.toArray) ⇑vs lt)
  (h2:2<=⇑vs)
  (h:P (.done<|.ret .none) {s with heap:=sortedHeap s.heap a vs (Iy<|p.toList.map λi=>vs.getD i K5.none)}):
  Lh (Li prog w) A (K6.«list.sort» ([.ref a],[])) P E s:=by
 have ha:a<↥s:=Hj ho;have big:1000<=sizeLine:=↥_;obtain⟨e1,o1⟩:∃e1,(s.heap.update a<|Le.mapSeq λJ=> #[]).get? a=some (seqObj "list" #[] e1):=(_,get?_update_seq ho<|λJ=> #[])
 rw[list_sort_plain];refine Lj<|listItems_at ho rfl<|Lj<|listUpdate_at ho rfl ?_ (by rw[Ho];omega)<|Hy _;refine Lj (seqEpoch_at o1 rfl<|Lj<|wpAny_newTuple ?_<|by show ⇑vs<=_;omega);refine Lj<|wpAny_newList ?_<|Hy _;refine Lp ?_;have o6:(((s.heap.update a<|Le.mapSeq λJ=> #[]).push<|seqObj "tuple" vs.toArray 0).push<|seqObj "list" #[] 0).get? a=some (seqObj "list" #[] e1):=He _<|He _ o1;dsimp only;have n2:¬vs.toArray.size<2:=by rw[Ho];omega
 rw[aZ n2,aZ n2];refine Lj (LJ (hk (λκ' s'=>κ'=κ/\s'=_) (rfl,rfl)) (λκ' s' hκ=>?_) λJ J z=>z.elim);let(rfl,rfl):=hκ;have est:SortSt.mk' κ' (vs.toArray.zip vs.toArray) #[] 7 none=sSt κ' (vs.toArray.zip vs.toArray) (Iy<|List.range ⇑vs) #[] 7:=by have e:=kas_range<|vs.toArray.zip vs.toArray;rw[show (vs.toArray.zip vs.toArray).size=⇑vs by simp]at e;unfold sSt;rw[e]
 rw[est];have run:=C2 (E:=E) (Q:=λJ st=>∃pe g ,st=sSt κ' (vs.toArray.zip vs.toArray) p pe g) hA h2 hp λpe g=>(pe,g,rfl)
 unfold wpS at run;refine Lj (LJ run (λr s' hr=>?_) λJ J z=>z);let(u,st):=r;let(rfl,pe,g,e):=hr;dsimp only at e;subst e;dsimp only;have out:(arrOf<|sSt κ' (vs.toArray.zip vs.toArray) p pe g).map (·.2)=Iy (p.toList.map λi=>vs.getD i K5.none):=kat_snds rfl rfl;rw[out];refine Lj (seqEpoch_at o6 rfl<|Lj<|listUpdate_at o6 rfl ?_ (Hy _)<|by rw[Ho,Hb,HY];omega);simp only[bne_self_eq_false,Ie,if_false];exact Lm h
end
end
section
section
variable {prog:K8}{w:K9}{A:Lf}{E:K5->Ld->Prop}{s:Ld}
def rO {n:Nat}{P:Fin->Ld->Prop}(ho:s.heap.get? a=some (seqObj "list" [v].toArray n))(h:P (.done<|.ret .none) {s with heap:=sortedHeap s.heap a [v] [v].toArray}):
  Lh (Li prog w) A (K6.«list.sort» ([.ref a],[])) P E s:=by
 obtain⟨e1,o1⟩:∃e1,(s.heap.update a<|Le.mapSeq λJ=> #[]).get? a=some (seqObj "list" #[] e1):=(_,get?_update_seq ho<|λJ=> #[])
 rw[list_sort_plain];refine Lj<|listItems_at ho rfl<|Lj<|listUpdate_at ho rfl ?_ (show 1<=sizeLine by decide)<|Hy _;refine Lj (seqEpoch_at o1 rfl<|Lj<|wpAny_newTuple ?_<|show 1<=sizeLine by decide);refine Lj<|wpAny_newList ?_ ↥_;refine Lp ?_;have o6:(((s.heap.update a<|Le.mapSeq λJ=> #[]).push<|seqObj "tuple" [v].toArray 0).push<|seqObj "list" #[] 0).get? a=some (seqObj "list" #[] e1):=He _<|He _ o1;dsimp only;rw[bf ⇑_,bf ⇑_];refine Lj<|Lm ?_;rw[StateT.run_pure];refine Lj<|Lm ?_;dsimp only;have out:(arrOf<|SortSt.mk' general' (([v].toArray).zip [v].toArray) #[] 7 none).map (·.2)=[v].toArray:=by show (([v].toArray).zip [v].toArray).map (·.2)=_;simp
 rw[out];refine Lj (seqEpoch_at o6 rfl<|Lj<|listUpdate_at o6 rfl ?_ (Hy _)<|show 1<=sizeLine+1 by decide);simp only[bne_self_eq_false,Ie,if_false];exact Lm h
end
def MY (K:Zf)(H:Hp)(v:V)(k:(↑Int×Int)×Int):Prop:=∃a c,v=.ref a/\SqT K H a [.ref c,.int k.1.2,.int k.2]/\SqT K H c (k.1.1.map V.int)
section
variable {X:Cx}{gV:↑(Lb×Le)}{σ:St}{H:Hp}{s:Ld}
theorem o8:∀ {ks:↑Int}{us:↑K5},Vals (ks.map V.int) us->IntsAre us ks
 |[],_,r=>by rw[HM]at r;cases r;exact .nil
 |k::ks,_,r=>by
  rw[Hg]at r;cases r with
  |cons h t=>
   let(tk,e):=(show∃t ,_=K5.int k t from h)
   subst e;exact .cons k tk<|o8 t
def xw (I:Inv X gV σ H s)(h:MY X.K H v k)(r:RelV v u):MX X.prog X.w s.heap u k.1 k.2:=by
 let(a,c,rfl,h1,h2):=h;cases r;let(its2,r2,t2,_):=I.tuple h2;let(its,r1,(o,q1,q2,n,q3),_):=I.tuple h1;have t2':=t2;let(o2,g1,g2,n2,g3):=t2';cases r1 with
 |cons hc r1=>
  cases r1 with
  |cons hl r1=>
   cases r1 with
   |cons hm r1=>
    cases r1;cases hc;let(t,e):=(show∃t ,_=K5.int k.1.2 t from hl)
    subst e;let(u,e):=(show∃t ,_=K5.int k.2 t from hm)
    subst e;exact(_,o,n,_,t,u,its2.toArray,rfl,q1,q2,q3,t2,by simpa using o8 r2,o2,_,n2,g1,g2,g3,by simpa using jx r2)
noncomputable def Qz (rs:↑((↑Int×Int)×Int)):Option (Array Nat):=Q9 ⇑rs λi j=>O2 (rs.getD i (([] ,0) ,0)).1 (rs.getD j (([] ,0) ,0)).1
def we {vs:↑K5}{ks:↑((↑Int×Int)×Int)}{A:Lf}{E:K5->Ld->Prop}{Q:SortKind->Ld->Prop}(hl:⇑vs=⇑ks)(h0:0<⇑vs)(h:∀ (i:Nat) (v:K5) (k:(↑Int×Int)×Int) ,vs[i]?=`v->ks[i]?=`k->MX X.prog X.w s.heap v k.1 k.2)(q:Q (tuples' false) s):
  Lh (Li X.prog X.w) A (keyKind' vs.toArray) Q E s:=by
 have fs:∃fs:↑K5,KatTups s.heap vs fs/\⇑fs=⇑vs/\∀f∈fs,Looks (Li X.prog X.w) s.heap (typeOf f) (.type "tuple"):=by
  clear h0
  induction vs generalizing ks with
  |nil=>exact([],trivial,rfl,λf hf=>nomatch hf)
  |cons v vs ih=>
   cases ks with
   |nil=>cases hl
   |cons k ks=>
    let(fs,h1,h2,h3):=ih (ks:=ks) (Iv.inj hl) λi v k a b=>h (i+1) v k a b;let(a,o,n,c,t,u,its,rfl,g1,g2,g3,(o2,q1,q2,_),_):=h 0 v k rfl rfl;refine(.ref c::fs,KatTups.cons g1 g2 g3 rfl h1,by rw[Hf,Hf,h2],λf hf=>?_);rcases Hd.mp hf with rfl|hf
    rw[<-q2];exact (Looks.ld q1).andThen .now;exact h3 f hf
 let(fs,h1,h2,h3):=fs;exact kat_kind h1 ∅ h3 ↥_ q
def j8 {κ:SortKind}{lt:Nat->Nat->Bool}(I:Inv X gV σ H s)(hq:SqL X.K H p ys)(h1:1<=⇑ys)(hz:⇑ys<=1000)(hs:Q9 ⇑ys lt=`π)(ps:π.size=⇑ys)(pl:∀i∈π.toList ,i<⇑ys)
  (hk:∀ (its:↑K5) (s':Ld) (A:Lf) ,2<=⇑its->Vals ys its->Inv X gV σ H s'->∀Q':SortKind->Ld->Prop,Q' κ s'->Lh (Li X.prog X.w) A (keyKind' its.toArray) Q' (λJ J=>False) s')
  (hl:∀ (its:↑K5) (s':Ld) (A:Lf) ,A.units<=X.A.units+2->Vals ys its->Inv X gV σ H s'->∀a b,a<⇑ys->b<⇑ys->∀Q':Bool->Ld->Prop,Q' (lt a b) s'->Lh (Li X.prog X.w) A (keyLt' κ (its.getD a K5.none)<|its.getD b K5.none) Q' (λJ J=>False) s')
  (q:∀q ,H q=none->Q (.ref q) (upd H q<|.lst<|π.toList.map λi=>ys.getD i .non)):Lh (Li X.prog X.w) X.A (call (.builtin "sorted") [.ref p]) (EP X gV σ Q) X.xe s:=by
 let(its,rv,pl',_):=I.list hq;have il:=⇑rv;have big:1000<=sizeLine:=↥_;refine Calls.call_function_entry kind_sorted plain_sorted entry_sorted (args_sorted1 _) ?_;unfold K6.«sorted»;refine Lj (m:=checkCount "sorted" 1 1 _)<|Lm<|Lj<|collect_list pl'.isList ?_ ∅;refine Lj<|wpAny_newList ?_ ∅;have sz:((s.heap.push<|seqObj "list" #[] 0).update ↥s (Le.mapSeq (· ++its.toArray))).objs.size=↥s+1:=by rw[La.size_update,size_push']
 have keep:∀b o,s.heap.get? b=`o->(((s.heap.push<|seqObj "list" #[] 0).update ↥s (Le.mapSeq (· ++its.toArray))).push<|seqObj "list" its.toArray 0).get? b=`o:=λb o e=>by have lt:b<↥s:=Hj e;refine He _ ?_;rw[Ki _ _ _ _<|Hs lt];exact He _ e
 have oD:(((s.heap.push<|seqObj "list" #[] 0).update ↥s (Le.mapSeq (· ++its.toArray))).push<|seqObj "list" its.toArray 0).get? (↥s+1)=some (seqObj "list" its.toArray 0):=by rw[<-sz];exact Hu _ rfl
 show Lh _ _ _ _ _ {s with heap:=((s.heap.push<|seqObj "list" #[] 0).update ↥s (Le.mapSeq (· ++its.toArray))).push<|seqObj "list" its.toArray 0};rw[sz];generalize hB:((s.heap.push<|seqObj "list" #[] 0).update ↥s (Le.mapSeq (· ++its.toArray))).push (seqObj "list" its.toArray 0)=B at*;have lD:↥s<=↥s+1:=IH _;have keepE:∀ (vs:↑K5) b o,s.heap.get? b=`o->(((B.update (↥s+1)<|Le.mapSeq λJ=> #[]).push<|seqObj "tuple" vs.toArray 0).push<|seqObj "list" #[] 0).get? b=`o:=λvs b o e=>by have lt:b<↥s:=Hj e;refine He _<|He _ ?_;rw[Ki _ _ _ _<|Hs<|Nat.lt_succ_of_lt lt];exact keep b o e
 have rel:∀i∈π.toList,RelV (ys.getD i .non) (its.getD i K5.none):=λi hi=>by have li:=pl i hi;let(v,e1,r1):=rv.get (show ys[i]?=some (ys.getD i .non) by rw[HR,Hw ∅];rfl);rw[HR (l:=its),e1];exact r1
 have vls:∀l:↑Nat,(∀i∈l ,RelV (ys.getD i .non)<|its.getD i K5.none)->Vals (l.map λi=>ys.getD i .non) (l.map λi=>its.getD i K5.none):=λl=>by
  induction l with|nil=>intro _;exact .nil|cons i l ih=>intro hh;exact .cons (hh i Hi) (ih λj hj=>hh j<|Ht _ hj)
 have fin:∀ (l:↑Nat),⇑l<=1000->(∀i∈l ,RelV (ys.getD i .non)<|its.getD i K5.none)->Q (.ref<|↥s+1) (upd H (↥s+1)<|.lst<|l.map λi=>ys.getD i .non)->EP X gV σ Q (.ref<|↥s+1) {s with heap:=sortedHeap B (↥s+1) its (Iy<|l.map λi=>its.getD i K5.none)}:=λl l1 l2 hQ=>by
  obtain⟨e1,o1⟩:∃e1,(B.update (↥s+1)<|Le.mapSeq λJ=> #[]).get? (↥s+1)=some (seqObj "list" #[] e1):=(_,get?_update_seq oD<|λJ=> #[])
  have o6:(((B.update (↥s+1)<|Le.mapSeq λJ=> #[]).push<|seqObj "tuple" its.toArray 0).push<|seqObj "list" #[] 0).get? (↥s+1)=some (seqObj "list" #[] e1):=He _<|He _ o1;refine(.ref<|↥s+1,_,I.laid (t':=s.toks) (o:=.lst<|l.map λi=>ys.getD i .non) (λb o e=>?_) lD ?_,rfl,hQ);have lt:b<↥s:=Hj e;unfold sortedHeap;rw[Ki _ _ _ _<|Hs<|Nat.lt_succ_of_lt lt];exact keepE its b o e;exact(by rw[Hb];omega,_,_,vls l l2,get?_update_seq o6 λJ=>Iy<|l.map λi=>its.getD i K5.none)
 refine Lj<|Lp<|Ll slot_list_sort (_,oD,rfl) entry_list_sort ?_<|args_list_sort _;have hQ:=q (↥s+1)<|I.hok.fresh lD;by_cases h2:2<=⇑its
 .refine vm (s:={s with heap:=B}) (κ:=κ) (p:=π) (lt:=lt) oD ∅ (by rw[show ⇑its=⇑ys by omega];exact hs) ∅ (λQ' hq'=>?_) (λa b ha hb Q' hq'=>?_) h2 ?_;exact hk its _ _ h2 rv (I.kept (t':=s.toks)<|keepE its) Q' hq';rw[kat_item rfl,kat_item rfl];exact hl its _ _ (Hc _) rv (I.kept (t':=s.toks)<|keepE its) a b ∅ ∅ Q' hq';exact(_,rfl,Lm (_,rfl,fin π.toList (by rw[HY];omega) rel hQ))
 .obtain⟨v,rfl⟩:∃v,its=[v]:=by
   match its,h2,il with|[v],_,_=>exact(v,rfl)|[],_,il=>exact absurd (show ⇑ys=0 by rw[il];rfl) ∅|_::_::_,h2,_=>exact absurd ⇑_ h2
  have p1:π.toList=[0]:=by
   have l1:⇑ys=1:=by rw[il];rfl
   rw[l1]at ps pl
   match hπ:π.toList,(HY (xs:=π)) with|[i],_=>have:=pl i (by rw[hπ];simp);congr 1;omega|[],e=>rw[ps]at e;cases e|_::_::_,e=>rw[ps]at e;simp at e
  rw[p1]at hQ rel;exact rO (s:={s with heap:=B}) oD (_,rfl,Lm (_,rfl,fin [0] ↥_ rel hQ))
def q9 (hu:X.A.units+64<Lg):CallR X (.builtin "sorted") (λxs H Q=>∃ (p:Lb) (ys:↑V) (rs:↑((↑Int×Int)×Int)) (π:Array Nat) ,xs=[.ref p]/\SqL X.K H p ys/\⇑ys=⇑rs/\(∀ (i:Nat) (v:V) (k:(↑Int×Int)×Int) ,ys[i]?=`v->rs[i]?=`k->MY X.K H v k)/\1<=⇑rs/\⇑rs<=1000/\(rs.map (·.1)).Nodup/\Qz rs=`π/\π.size=⇑rs/\(∀i∈π.toList ,i<⇑rs)/\
  ∀q,H q=none->Q (.ref q) (upd H q<|.lst<|π.toList.map λi=>ys.getD i .non)):=by
 intro gV s σ H xs us Q I r h;let(p,ys,rs,π,rfl,hq,hl,hr,h1,hz,nd,hs,ps,pl,q):=h;let(u,rfl,ru):=Sk r;cases ru;refine j8 (κ:=tuples' false) (lt:=λi j=>O2 (rs.getD i (([] ,0) ,0)).1 (rs.getD j (([] ,0) ,0)).1) I hq ∅ ∅ (by rw[hl];exact hs) ∅ (by rw[hl];exact pl) (λits s' A h2 rv I6 Q' hq'=>?_) (λits s' A hA rv I6 a b ha hb Q' hq'=>?_) q
 .have il:=⇑rv;refine we (X:=X) (ks:=rs) ∅ ∅ (λi v k e1 e2=>?_) hq';obtain⟨y,hy⟩:∃y,ys[i]?=`y:=(_,Hw (by have:=(Hm.mp e1).1;omega))
  let(v',e3,r3):=rv.get hy;rw[e1]at e3;cases e3;exact xw I6 (hr i y k hy e2) r3
 .have row:∀i,i<⇑ys->MX X.prog X.w s'.heap (its.getD i K5.none) (rs.getD i (([] ,0) ,0)).1 (rs.getD i (([] ,0) ,0)).2:=λi hi=>by have e1:ys[i]?=some (ys[i]'∅):=Hw _;have e2:rs[i]?=some (rs[i]'∅):=Hw _;let(v',e3,r3):=rv.get e1;have:=xw I6 (hr i _ _ e1 e2) r3;rw[HR,HR,e3,e2];exact this
  refine C9 ∅ (row a ha) (row b hb) ?_;by_cases ek:(rs.getD a (([] ,0) ,0)).1=(rs.getD b (([] ,0) ,0)).1
  .have ab:a=b:=by
    have e1:(rs.map (·.1))[a]?=some (rs.getD a (([] ,0) ,0)).1:=by rw[Hl,HR,Hw<|show a<⇑rs by omega];rfl
    have e2:(rs.map (·.1))[b]?=some (rs.getD b (([] ,0) ,0)).1:=by rw[Hl,HR,Hw<|show b<⇑rs by omega];rfl
    rw[ek,<-e2]at e1;exact (List.getElem?_inj (by rw[Hb];omega) nd).mp e1
   subst ab;rw[bf rfl,bg<|JH _];have:O2 (rs.getD a (([] ,0) ,0)).1 (rs.getD a (([] ,0) ,0)).1=false:=by unfold O2;rw[bf rfl];exact bg<|JH _
   have hq':Q' (O2 (rs.getD a (([] ,0) ,0)).1 (rs.getD a (([] ,0) ,0)).1) _:=hq';rw[this]at hq';exact hq'
  rw[aZ ek];exact hq'
end
end
end L2
namespace L2
open PySem PySem.Spec PyProof.Rows
section
variable {X:Cx}{E:XK}{a:Expr}{p p2 pos:LF}{l:MG->M ↑W}
noncomputable def QD (w:W):Option ((↑Int×Int)×Int):=match w with
 |.tup [.tup l,.int i,.int m]=>(P6 iOf l).map λks=>((ks ,i) ,m)
 |_=>none
abbrev Qi (π:Array Nat)(n:Nat):Prop:=π.size=n/\∀i∈π.toList,i<n
noncomputable def RC (ws:↑W):M W:=match ws with
 |[w]=>bd (O1 w) λl=>match P6 QD l with
  |some rs=>gd (1<=⇑rs/\⇑rs<=1000/\(rs.map (·.1)).Nodup) (match Qz rs with
   |some π=>gd (Qi π ⇑rs) (pr<|.tl<|π.toList.map λi=>l.getD i .non)
   |none=>no)
  |none=>no
 |_=>no
def qp {α β:Type}{f:α->Option β}:∀ {l:↑α}{m:↑β},P6 f l=`m->⇑m=⇑l:=by
 intro l
 induction l with
 |nil=>intro m h;cases h;rfl
 |cons x l ih=>
  intro m h;unfold P6 at h;cases e1:f x with
  |none=>rw[e1]at h;cases h
  |some y=>
   cases e2:P6 f l with
   |none=>rw[e1,e2]at h;cases h
   |some r=>
    rw[e1,e2]at h;cases h;rw[Hf,Hf,ih e2]
def qq {α β:Type}{f:α->Option β}:∀ {l:↑α}{m:↑β}{i:Nat}{x:α},P6 f l=`m->l[i]?=`x->∃y,m[i]?=`y/\f x=`y:=by
 intro l
 induction l with
 |nil=>intro m i x h e;simp at e
 |cons z l ih=>
  intro m i x h e;unfold P6 at h;cases e1:f z with
  |none=>rw[e1]at h;cases h
  |some y=>
   cases e2:P6 f l with
   |none=>rw[e1,e2]at h;cases h
   |some r=>
    rw[e1,e2]at h;cases h;cases i with
    |zero=>cases e;exact(y,rfl,e1)
    |succ i=>
     let(y',g1,g2):=ih (m:=r) (i:=i) (x:=x) e2 e;exact(y',g1,g2)
set_option tactic.hygienic true in
def Am {K:Zf}{w:W}(h:QD w=`k)(r:Rv K o w v):MY K o.H v k:=by
 unfold QD at h;split at h;rename_i l i m;let(ks,e,rfl):=Hn.mp h;unfold Rv at r;let(a,vs,rfl,s,r):=r;unfold Rvs at r;let(v1,r1,rfl,h1,r):=r;unfold Rvs at r;let(v2,r2,rfl,h2,r):=r;unfold Rvs at r;let(v3,r3,rfl,h3,r):=r;unfold Rvs at r;subst r;rw[QI.mp h2,QI.mp h3]at s;unfold Rv at h1;let(c,us,rfl,s1,r1):=h1;have e2:us=ks.map V.int:=dG ma e r1;subst e2;exact(a,c,rfl,s,s1);cases h
theorem lx {K:Zf}{o:Wo}{l:↑W}{vs:↑V}(r:Rvs K o l vs):∀ {π:↑Nat},(∀i∈π ,i<⇑l)->Rvs K o (π.map λi=>l.getD i .non) (π.map λi=>vs.getD i .non)
 |[],_=>Rvs.nil
 |i::π,h=>by
  have hi:=h i Hi;have e1:l[i]?=some (l.getD i .non):=by rw[HR,Hw hi];rfl
  let(v,e2,r2):=r.get e1;refine Rvs.cons ?_ (lx r λj hj=>h j<|Ht _ hj);show Rv K o (l.getD i .non) (vs.getD i .non);rw[HR (l:=vs),e2];exact r2
def CU:Mz X E (λxs H Q=>∃ (p:Lb) (ys:↑V) (rs:↑((↑Int×Int)×Int)) (π:Array Nat) ,xs=[.ref p]/\SqL X.K H p ys/\⇑ys=⇑rs/\(∀ (i:Nat) (v:V) (k:(↑Int×Int)×Int) ,ys[i]?=`v->rs[i]?=`k->MY X.K H v k)/\1<=⇑rs/\⇑rs<=1000/\(rs.map (·.1)).Nodup/\Qz rs=`π/\π.size=⇑rs/\(∀i∈π.toList ,i<⇑rs)/\
  ∀q,H q=none->Q (.ref q) (upd H q<|.lst<|π.toList.map λi=>ys.getD i .non)) RC:=λo ws vs Q R rv h=>by
 unfold RC at h;split at h
 .let(v,rfl,r):=rv.one;let(l,a,us,rfl,s,r,h):=cq R r h;cases e:P6 QD l with
  |none=>rw[e]at h;exact h.elim
  |some rs=>
   rw[e]at h;let((h1,h2,h3),h):=h.gd;cases e2:Qz rs with
   |none=>rw[e2]at h;exact h.elim
   |some π=>
    rw[e2]at h;let((p1,p2),h):=h.gd;have ll:=qp e;have lu:=r.len;refine(a,us,rs,π,rfl,s,∅,λi v k e3 e4=>?_,h1,h2,h3,e2,p1,p2,λq hq=>fZ R hq (lx r λi hi=>by rw[<-ll];exact p2 i hi) h);obtain⟨w,ew⟩:∃w,l[i]?=`w:=(_,Hw (by have:=(Hm.mp e4).1;omega))
    let(y,ey,fy):=qq e ew;rw[e4]at ey;cases ey;let(v',ev,rv'):=r.get ew;rw[e3]at ev;cases ev;exact Am fy rv'
 exact h.elim
def vZ (hu:X.A.units+64<Lg)(hm:X.mg "sorted"=none)(ha:JA X E [a] l)(hg:Gl X "sorted")(he:LH [a] X.env=(false ,LD a X.env)::LH [] X.env)(hpl:(LG pos<|LH [] X.env).any (·.1)=false):JE X E (.Call (.Name "sorted" p) [a] [] pos) (O5 RC l):=
 di (q9 hu) CU hg hm PyProof.Rows.boot_sorted ha ↥_ ↥_ he hpl
end
section
open Sem (wp)
section
variable {X:Cx}{gV:↑(Lb×Le)}{σ:St}{H:Hp}{s:Ld}
def oK {b:Bool}{ep:Nat}(I:Inv X gV σ H s)(e:H a=some (.dN b xs ep)):(a==Ls)=false/\∃es,RawD s.heap a es ep/\es.size=⇑xs/\∀ (i:Nat) (y:PKy×Lb×V),xs[i]?=`y->∃d,es[i]?=`d/\d.key=.ref y.2.1/\RelV y.2.2 d.val:=by
 let(_,hs,ys,r,o,es,h1,h2,h3,h4,_):=(show ObjOk X.prog X.w H s.heap a (.dN b xs ep) from I.hok a _ e)
 have gt:∀ {xs:↑(PKy×Lb×V)}{ys:↑(PKy×Lb×K5)},KN xs ys->∀ {i:Nat}{x:PKy×Lb×V},xs[i]?=`x->∃y,ys[i]?=`y/\x.2.1=y.2.1/\RelV x.2.2 y.2.2:=λ{xs ys} r=>by
  induction r with
  |nil=>intro i x e;simp at e
  |cons hh _ ih=>
   intro i x e;cases i with|zero=>cases e;exact(_,rfl,hh.2.1,hh.2.2)|succ i=>exact ih e
 refine(hs,es,(o,h1,h2,h3),?_,λi y ei=>?_);rw[<-HY,h4,Hb];exact (Paired.length r).symm;let(z,ez,e1,e2):=gt r ei;refine(_,by rw[<-JG,h4,Hl,ez];rfl,by rw[e1],e2)
end
section
variable {X:Cx}{E:XK}{e a b:Expr}
noncomputable def OJ (b:Bool)(k:PKy):W:=match b with|false=>.tup [.int k.1,.tup<|k.2.map W.int]|true=>.tup [.tup<|k.2.map W.int,.int k.1]
theorem uh {K:Zf}:∀ns:↑Int,Rvs K o (ns.map W.int) (ns.map V.int)|[]=>Rvs.nil|n::r=>Rvs.cons (QI.mpr rfl)<|uh r
def uF {K:Zf}{b:Bool}(h:KeyN K o.H b c k):Rv K o (OJ b k) (.ref c):=by
 let(d,h1,h2):=h;have r2:Rv K o (.tup<|k.2.map W.int) (.ref d):=by unfold Rv;exact(d,_,rfl,h2,uh _)
 cases b with|false=>unfold OJ;dsimp only;unfold Rv;exact(c,_,rfl,h1,Rvs.cons (QI.mpr rfl)<|Rvs.cons r2 Rvs.nil)|true=>unfold OJ;dsimp only;unfold Rv;exact(c,_,rfl,h1,Rvs.cons r2<|Rvs.cons (QI.mpr rfl) Rvs.nil)
noncomputable def Qy (K:Zf)(neg:Bool):R2:=λx y H Q=>∃a b xs ep c k,x=.ref c/\y=.ref a/\H a=some (.dN b xs ep)/\(∀x∈xs ,KeyN K H b x.2.1 x.1)/\KeyN K H b c k/\Q (.bl<|(Sj (kvN xs) k).isSome !=neg) H
def Ha (hu:X.A.units+64<Lg):OpR X (LK .In) (Qy X.K false):=by intro gV s σ H x y v u Q I rx ry h;let(a,b,xs,ep,c,k,rfl,rfl,e,hk,hc,q):=h;cases rx;cases ry;let(z,hd,ys,rel,dd):=nY I e hk;refine wpAny_in_heap (knd:=c8 X.prog X.w b) (by show X.A.units+1+1<Lg;omega) (iw I hc) hd dd (_,H,I.tok _,?_,q);have:=(rel.val k).isSome_eq;rw[IL]at this;rw[<-this];cases (Sj (kvN xs) k).isSome<;>rfl
def AO (hu:X.A.units+64<Lg):OpR X (LK .NotIn) (Qy X.K true):=by intro gV s σ H x y v u Q I rx ry h;let(a,b,xs,ep,c,k,rfl,rfl,e,hk,hc,q):=h;cases rx;cases ry;let(z,hd,ys,rel,dd):=nY I e hk;have:=(rel.val k).isSome_eq;rw[IL]at this;refine wpAny_notIn_heap (knd:=c8 X.prog X.w b) (by show X.A.units+1+1<Lg;omega) (iw I hc) hd dd (_,H,I.tok _,?_,q);rw[<-this];cases (Sj (kvN xs) k).isSome<;>rfl
noncomputable def Oe (neg:Bool)(x y:W):M W:=λh=>match NA y h with
 |some (b ,ks,ws)=>match OG b x with|some k=>.ok (.bl<|(atK ks ws k).isSome !=neg) h|none=>.bad
 |none=>.bad
def AD {neg:Bool}:OpM X E (Qy X.K neg) (Oe neg):=by
 intro o x y vx vy Q R rx ry h;unfold Oe at h;cases e1:NA y o.h with
 |none=>rw[e1]at h;exact h.elim
 |some t=>
  let(b,ks,ws):=t;rw[e1]at h;cases e2:OG b x with
  |none=>simp only[e2]at h;exact h.elim
  |some k=>
   simp only[e2]at h;let(a,xs,ep,rfl,g1,g2,g3,g4):=mr R e1 ry;let(c,rfl,hc):=iu e2 rx;have hv:=iI (x:=k) (kvs:=kvN xs) (ks:=ks) (ws:=ws) (by unfold kvN;rw[HG];exact g2) (by unfold kvN;rw[HG];exact g4);have e3:(Sj (kvN xs) k).isSome=(atK ks ws k).isSome:=by
    cases e4:atK ks ws k with|none=>rw[e4]at hv;rw[hv];rfl|some w=>rw[e4]at hv;let(v,hv,_):=hv;rw[hv];rfl
   refine(a,b,xs,ep,c,k,rfl,rfl,g1,g3,hc,?_);rw[e3];exact Ps.pr (c:=cg X E) (r:=Rv X.K) h R<|QH.mpr rfl
end
end
section
section
variable {X:Cx}{E:XK}{e a b:Expr}{pos p p2 pos2:LF}{l:MG->M ↑W}
def vq:∀bs:↑Bool,((List.range ⇑bs).any λi=>(bs[i]?).getD true)=bs.any id:=λbs=>by
 rw[HZ,Iu,Iu];constructor
 .rintro⟨i,hi,h⟩
  have hi:=Ii.mp hi;rw[Hw hi]at h;exact(_,List.getElem_mem hi,h)
 .rintro⟨b,hb,h⟩
  let(i,hi,e):=List.mem_iff_getElem.mp hb;refine(i,Ii.mpr hi,?_);rw[Hw hi,e];exact h
def zD (hc:X.calm=true):CallR X (.builtin "any") (λxs H Q=>∃ (p:Lb) (bs:↑Bool) ,xs=[.ref p]/\SqL X.K H p (bs.map V.bl)/\Q (.bl<|bs.any id) H):=by
 intro gV s σ H xs us Q I r h;let(p,bs,rfl,hq,q):=h;let(u,rfl,ru):=Sk r;cases ru;let(its,rv,pl,hz):=I.list hq;have hb:=mL rv;have hl:=pl.isList;have hlt:p<↥s:=by let(_,e,_):=hl;exact Hj e
 refine call_any_walk<|wpAny_pyIter_list hl ?_
 refine(↥s,[↥s,p],[↥s],its.toArray.size,_,_,λi=>(bs[i]?).getD true,rfl,Walks.list (A:=X.A.in1) (I.ok.hd hc) _ p (Hs hlt) its.toArray,
  ((_,Hu _ rfl,rfl,rfl),hl.push _),λi v s' Q' E' hP hQ=>?_,λh' tk hk=>?_)
 let(b,e,rfl):=hb.get i v (by simpa using hP);simp only[e,KA]at hQ;exact Lq hQ
 .have e:((List.range its.toArray.size).any λi=>(bs[i]?).getD true)=bs.any id:=by rw[Ho,⇑hb];exact vq bs
  rw[e];exact(.bl _,H,I.kept (t':=tk)<|LSm.kept_iter hk,rfl,q)
noncomputable def Na (ws:↑W):M W:=match ws with
 |[w]=>bd (O1 w) λl=>match P6 bOf l with|some ns=>pr (.bl<|ns.any id)|none=>no
 |_=>no
def Er (hc:X.calm=true)(hm:X.mg "any"=none)(ha:JA X E [a] l)(hg:Gl X "any")(he:LH [a] X.env=(false ,LD a X.env)::LH [] X.env)(hpl:(LG pos<|LH [] X.env).any (·.1)=false):JE X E (.Call (.Name "any" p) [a] [] pos) (O5 Na l):=
 di (zD hc) (λo ws vs Q R rv h=>by
  unfold Na at h;split at h
  .let(v,rfl,r):=rv.one;let(l,a,us,rfl,s,r,h):=cq R r h;cases e:P6 bOf l with
   |none=>rw[e]at h;exact h.elim
   |some ns=>
    rw[e]at h;rw[dG zL e r]at s;exact(a,ns,rfl,s,h.pr R<|QH.mpr rfl)
  .exact h.elim) hg hm PyProof.Rows.boot_any ha (he:=he) (hpl:=hpl)
noncomputable def tTR1 (ta:TA):TE:=λσ H Q=>ta σ H λvs H1=>∃j:Int,vs=[.int j]/\(-(2^62)<=j/\j<2^62)/\j.toNat<=sizeLine/\∀l,H1 l=none->Q (.ref l) (upd H1 l<|.tup<|Oh 0 j.toNat)
def su (hc:X.calm=true)(hgl:Gl X "tuple")(hml:X.mg "tuple"=none)(hg:Gl X "range")(hm:X.mg "range"=none)(ha:PA X [a] ta)(hs:LH [a] X.env=[(false ,LD a X.env)])
  (he:LH [.Call (.Name "range" p2) [a] [] pos2] X.env=(false ,LD (.Call (.Name "range" p2) [a] [] pos2) X.env)::LH [] X.env)(hpl:(LG pos<|LH [] X.env).any (·.1)=false):
  PE X (.Call (.Name "tuple" p) [.Call (.Name "range" p2) [a] [] pos2] [] pos) (tTR1 ta):=by
 intro gV s σ H Q I h;refine L7<|dU I hgl hml PyProof.Rows.boot_tuple ?_ ↥_ ↥_;refine PyProof.Rows.callWith_type1 ?_ he hpl;rw[he];refine Calls.spliced_cons ?_;refine Call_ (dU I hg hm boot_range<|PyProof.Rows.callWith_type1 (thn (ha pos2 gV s σ H _ I h) λus s1 qz=>?_) (by rw[hs];rfl)<|by rfl);let(vs,H1,I1,r1,q1):=qz;let(j,e,(q3,q4),hz,q):=q1;subst e;cases r1 with
 |cons r rr=>
  cases rr;let(t,rfl):=r;refine call_range_1<|Calls.spliced_nil ?_;have I2:Inv X gV σ H1 {s1 with heap:=s1.heap.push {cls:=.type "range",data:=.fields #[.int 0 s1.toks,.int j t,.int 1<|s1.toks+1]},toks:=s1.toks+1+1}:=I1.kept λb o e=>He _ e;have hn:K6.Range.rangeSize 0 j 1=(j.toNat:Int):=by rw[rangeSize_one];split<;>omega
  refine fL (I2.ok.hd hc) (IsRange.new ..) (small_one ↥_ ↥_ q3 q4) hn (HA hz ↥_) hz λh' tk acc' hk hacc=>?_;have vs:Vals (Oh 0 j.toNat) acc'.toList:=iM _ _ _ (by rw[HY,hacc.1]) λk v e=>by let(t,e):=hacc.2 k v (by rw[<-JG];exact e);exact(t,by rw[e];congr 1;omega)
  have I3:Inv X gV σ H1 {s1 with heap:=h',toks:=tk}:=I2.kept (t':=tk) hk;exact(.ref _,_,I3.laid (t':=tk) (λb o e=>He _ e) (Hc _) (show ObjOk X.prog X.w _ (h'.push {cls:=.type "tuple",data:=.seq acc'}) _ (.tup<|Oh 0 j.toNat) from(by rw[j2];exact hz,acc'.toList,vs,by rw[Kh];exact IsTupD.new _ _)),rfl,q _<|I3.hok.fresh<|Hc _)
noncomputable def Sd (ws:↑W):M W:=match ws with|[.int j]=>gd ((-(2^62)<=j/\j<2^62)/\j.toNat<=sizeLine) (pr<|.tup<|Oi 0 j.toNat)|_=>no
def sF (hc:X.calm=true)(hml:X.mg "tuple"=none)(hm:X.mg "range"=none)(ha:JA X E [a] l)(hgl:Gl X "tuple")(hg:Gl X "range")(hs:LH [a] X.env=[(false ,LD a X.env)])
  (he:LH [.Call (.Name "range" p2) [a] [] pos2] X.env=(false ,LD (.Call (.Name "range" p2) [a] [] pos2) X.env)::LH [] X.env)(hpl:(LG pos<|LH [] X.env).any (·.1)=false):JE X E (.Call (.Name "tuple" p) [.Call (.Name "range" p2) [a] [] pos2] [] pos) (O5 Sd l):=
 (su hc hgl hml hg hm ha.h hs he hpl).imp λσ H Q h=>by
  let(o,ρ,rfl,R,S,h):=h;refine(o,ρ,rfl,R,S,Ps.bd h λp x vx e1 R1 r1 h1=>?_);unfold Sd at h1;split at h1;let(v,rfl,r):=r1.one;let(hz,h1):=h1.gd;exact(_,by rw[QI.mp r],hz.1,hz.2,λl hl=>jh R1 hl (jS _ _) h1);exact h1.elim
def yH {x:Str}{i:Int}(hm:X.mg x=some (.ref c))(hq:∀H ,SqT X.K H c [.ref d,.int i])(hq2:∀H ,SqT X.K H d<|ks.map V.int)(hg:Gl X x)(hd:(x==("__debug__":Str))=false):JE X E (.Name x pos) (mC<|OJ true (i ,ks)):=
 kH (v:=.ref c) hg hm rfl (λo=>uF (b:=true) (k:=(i ,ks)) (d,hq _,hq2 _)) hd
end
end
section
open Sem (wp)
section
variable {prog:K8}{w:K9}{A:Lf}{E:K5->Ld->Prop}{s:Ld}
def tq {ep:Nat}{Q:K5->Ld->Prop}(hs:(d==Ls)=false)(hd:RawD s.heap d es ep)
  (k:Q (.ref ↥s) {s with heap:=s.heap.push {cls:=.type "dict_items",data:=.fields #[.ref d]}}):
  Lh (Li prog w) A (call (.builtin "dict.items") [.ref d]) Q E s:=by
 let(od,g1,g2,g3):=hd;have hT:s.TypeIs (.ref d) "dict":=(_,g1,g2.1)
 refine Ll F.slot_dict_items hT F.entry_dict_items ?_<|F.args_dict_items_1 _;show Lh _ _ (((typeOf (.ref d)>>=_)>>=_)>>=_) _ _ s;refine Lj<|Lj<|Lj<|wpAny_typeOf (T:="dict") hT ?_;show Lh _ _ (pure ()) _ _ s;refine Lm ?_;show Lh _ _ (pure d) _ _ s;refine Lm ?_;show Lh _ _ (K6.Dict.showsAll d>>=_) _ _ s;unfold K6.Dict.showsAll;rw[hs,aZ ↥_];refine Lj<|Lm ?_;refine Lj (Mc ?_<|show 1<=_ by decide);exact Lm (_,rfl,k)
def sR {ep:Nat}{Q:K5->Ld->Prop}(hv:s.heap.IsItemsView v d)(hd:RawD s.heap d es ep)
  (k:Q (.ref ↥s) {s with heap:=s.heap.push {cls:=.type "dict_itemiterator",data:=.fields #[.none,.bool false,.ref d,.int 0 0,.int (es.size:Nat) 0,.int ep 0,.none,.none]}}):
  Lh (Li prog w) A (pyIter<|.ref v) Q E s:=by
 have hT:=hv.typeIs (s:=s);let(o,h1,h2,h3):=hv;let(od,g1,g2,g3):=hd;refine wpAny_pyIter_slot hT F.slot_dict_items_iter<|Ll F.slot_dict_items_iter hT F.entry_dict_items_iter ?_<|F.args_dict_items_iter_1 _;show Lh _ _ ((field (.ref v) 0>>=_)>>=_) _ _ s;refine Lj<|Lj<|Mb h1 h3 (x:=.ref d) rfl ?_;refine Lm ?_;show Lh _ _ ((dictEntries d>>=_)>>=_) _ _ s;refine Lj<|Lj<|wpAny_dictEntries g1 g3<|Lj<|wpAny_dictEpoch g1 g3 ?_;refine Mc ?_ (show 8<=_ by decide);exact Lm (_,rfl,"dict_itemiterator",_,(_,Hu _ rfl,rfl),F.slot_dict_itemiterator_next.lookup,k)
def nN:K6.Dict_items.ownsTuple "dict_itemiterator"=true:=↥_
def vR {i n ep:Nat}{ok ov:K5}{Q:Option K5->Ld->Prop}(hi:IsItemIter s.heap it d i n ep ok ov)(hd:RawD s.heap d es ep)(hn:es.size=n)(he:es[i]?=`e)
  (k:∀h':La ,IsItemIterOut h' it d (i+1) n ep e.key e.val ↥s->h'.get? ↥s=some {cls:=.type "tuple",data:=.seq #[e.key,e.val]}->(∀b o ,b≠it->s.heap.get? b=`o->h'.get? b=`o)->Q (some<|.ref ↥s) {s with heap:=h'}):
  Lh (Li prog w) A (LS<|.ref it) Q E s:=by
 let(hp,g,dr,tk,os):=s;have hT:Ld.TypeIs (hp,g,dr,tk,os) (.ref it) "dict_itemiterator":=(_,hi,rfl)
 let(od,g1,g2,g3):=hd;unfold LS;refine Lj<|wpAny_attempt<|wpAny_callSpecial?_slot (name:=Str.ofString "__next__") hT F.slot_dict_itemiterator_next<|Ll F.slot_dict_itemiterator_next hT F.entry_dict_itemiterator_next ?_<|F.args_dict_itemiterator_next_1 _;show Lh _ _ (((typeNameOfWhole (.ref it)>>=_)>>=_)>>=_) _ _ _;refine Lj<|Lj<|Lj<|wpAny_typeNameOfWhole_itemiter hT<|Lm ?_;refine Lj<|wpAny_fieldsOf hi rfl ?_;simp (iota:=false) only[nN,if_true];show Lh _ _ (dictEntries d>>=_) _ _ _;refine Lj<|wpAny_dictEntries g1 g3 ?_;have z:((es.size:Int) !=(n:Int))=false:=by rw[hn];simp
 show Lh _ _ (if ((es.size:Int) !=(n:Int))=true then _ else dictEpoch d>>=_) _ _ _;rw[z,aZ ↥_];refine Lj<|wpAny_dictEpoch g1 g3 ?_;have z2:((ep:Int) !=(ep:Int))=false:=⇑_;show Lh _ _ (if ((ep:Int) !=(ep:Int))=true then _ else _) _ _ _;rw[z2,aZ ↥_];refine Lm ?_;have z3:(if ((i:Nat):Int)<0 then none else es[((i:Nat):Int).toNat]?)=`e:=by rw[aZ ∅,Ju];exact he
 dsimp only;rw[z3];dsimp only;refine Lj<|Lj<|wpAny_typeNameOfWhole_itemiter hT<|Lm ?_;refine Lj<|wpAny_isOneOf_itemiter hT ?_;show Lh _ _ (setField (.ref it) 3 (LV<|(i:Int)+1)>>=_) _ _ _;refine Lj (Mr hi ⇑_ λh1 e1 s1=>?_);have s1:Ia it hp h1:=s1;have e1:IsItemIter h1 it d (i+1) n ep ok ov:=by have q:((i+1:Nat):Int)=(i:Int)+1:=∅;unfold IsItemIter;rw[q];simpa [LV] using e1
 have hT1:Ld.TypeIs (h1,g,dr,tk,os) (.ref it) "dict_itemiterator":=(_,e1,rfl)
 refine Lj<|Lp<|Lj<|wpAny_isOneOf_itemiter hT1<|Lj<|wpAny_isOneOf_itemiter hT1 ?_;show Lh _ _ (K6.Dict_items.pairFromOwner (.ref it) 6 e.key e.val) _ _ (h1,g,dr,tk,os);unfold K6.Dict_items.pairFromOwner;refine Lj<|wpAny_newTuple ?_;have z1:h1.objs.size=hp.objs.size:=s1.1;have il:it<hp.objs.size:=Hj hi;have nt:hp.objs.size≠it:=IG il;have t2:(h1.push {cls:=.type "tuple",data:=.seq #[e.key,e.val]}).get? hp.objs.size=some {cls:=.type "tuple",data:=.seq #[e.key,e.val]}:=by rw[<-z1];exact Hu _ rfl
 have e2:IsItemIter (h1.push {cls:=.type "tuple",data:=.seq #[e.key,e.val]}) it d (i+1) n ep ok ov:=He _ e1;have k2:∀b o,b≠it->hp.get? b=`o->(h1.push {cls:=.type "tuple",data:=.seq #[e.key,e.val]}).get? b=`o:=λb o hb q=>He _<|s1.extBut b o hb q;show Lh _ _ (K6.Dict_items.ownedTupleIsFree (.ref it)>>=_) _ _ (h1.push {cls:=.type "tuple",data:=.seq #[e.key,e.val]},g,dr,tk,os);rw[z1];generalize h1.push {cls:=.type "tuple",data:=.seq #[e.key,e.val]}=h2 at e2 t2 k2;refine Lj ?_;unfold K6.Dict_items.ownedTupleIsFree;refine Lj<|Mb e2 rfl (x:=.none) rfl<|Lm ?_;simp only[if_true];refine Lj<|Mb e2 rfl (x:=ok) rfl<|Lj<|Mb e2 rfl (x:=ov) rfl ?_;refine Lj (Mr e2 ⇑_ λh3 e3 s3=>?_);refine Lj (Mr e3 ⇑_ λh4 e4 s4=>?_);refine Lj (Mr e4 ⇑_ λh5 e5 s5=>?_);refine Lj (Mr e5 ⇑_ λh6 e6 s6=>?_);have ke:∀b o,b≠it->h2.get? b=`o->h6.get? b=`o:=λb o hb q=>s6.extBut b o hb<|s5.extBut b o hb<|s4.extBut b o hb<|s3.extBut b o hb q;exact Lj<|Mu<|Lm<|Lm (_,rfl,Lm<|k h6 e6 (ke _ _ nt t2) λb o hb q=>ke b o hb<|k2 b o hb q)
def zo {i n ep:Nat}{ok ov:K5}{Q:Option K5->Ld->Prop}(hh:A.in1.handled=none)(hi:IsItemIter s.heap it d i n ep ok ov)(hd:RawD s.heap d es ep)(hn:es.size=n)(he:es[i]?=none)
  (k:∀h':La ,La.ExtBut it s.heap h'->Q none {s with heap:=h'}):
  Lh (Li prog w) A (LS<|.ref it) Q E s:=by
 have hT:s.TypeIs (.ref it) "dict_itemiterator":=(_,hi,rfl)
 let(od,g1,g2,g3):=hd;unfold LS;refine Lj<|wpAny_attempt<|wpAny_callSpecial?_slot (name:=Str.ofString "__next__") hT F.slot_dict_itemiterator_next<|Ll F.slot_dict_itemiterator_next hT F.entry_dict_itemiterator_next ?_<|F.args_dict_itemiterator_next_1 _;show Lh _ _ (((typeNameOfWhole (.ref it)>>=_)>>=_)>>=_) _ _ _;refine Lj<|Lj<|Lj<|wpAny_typeNameOfWhole_itemiter hT<|Lm ?_;refine Lj<|wpAny_fieldsOf hi rfl ?_;simp (iota:=false) only[nN,if_true];show Lh _ _ (dictEntries d>>=_) _ _ _;refine Lj<|wpAny_dictEntries g1 g3 ?_;have z:((es.size:Int) !=(n:Int))=false:=by rw[hn];simp
 show Lh _ _ (if ((es.size:Int) !=(n:Int))=true then _ else dictEpoch d>>=_) _ _ _;rw[z,aZ ↥_];refine Lj<|wpAny_dictEpoch g1 g3 ?_;have z2:((ep:Int) !=(ep:Int))=false:=⇑_;show Lh _ _ (if ((ep:Int) !=(ep:Int))=true then _ else _) _ _ _;rw[z2,aZ ↥_];refine Lm ?_;have z3:(if ((i:Nat):Int)<0 then none else es[((i:Nat):Int).toNat]?)=none:=by rw[aZ ∅,Ju];exact he
 dsimp only;rw[z3];dsimp only;refine Lj<|Lj<|wpAny_typeNameOfWhole_itemiter hT<|Lm ?_;show Lh _ _ (setField (.ref it) 2 .none>>=_) _ _ s;refine Lj (Mr hi ⇑_ λh1 e1 s1=>?_);refine Lj (ym λh' e kp nw th=>wpAny_raiseNew_none hh ?_);let(o,q1,q2):=th;exact Lj (Lo (T:="StopIteration") (b:=true) (o,q1,q2) isSubtype_stop<|Lm<|k _ λb o hb q=>kp b o<|s1.extBut _ _ hb q)
end
def mn:entryFor table "dict_itemiterator.__iter__"=some K6.«dict_keyiterator.__iter__»:=entryFor_alias (id':="dict_keyiterator.__iter__") (by kernel_rfl) rfl ⋯ (by kernel_rfl)
noncomputable def Ity (a:Lb)(b:Bool)(xs:↑(PKy×Lb×V))(ep:Nat):It where
 go:=λi H=>H a=some (.dN b xs ep)/\i<⇑xs
 yld:=λi H x H'=>∃T y,H T=none/\x=.ref T/\xs[i]?=`y/\H'=upd H T (.tup [.ref y.2.1,y.2.2])
 stop:=λi H=>H a=some (.dN b xs ep)/\i=⇑xs
def rG {P:K8}{w:K9}{K:Zf}{elts:↑Expr}{x1}{tpos:LF}(it a:Lb)(b:Bool)(xs:↑(PKy×Lb×V))(ep:Nat):M3 P w K (.Tuple elts x1 tpos) (Ity a b xs ep) [it] it (λi h=>∃ok ov ,IsItemIter h it a i ⇑xs ep ok ov) where
 mem:=⇑_
 obj:=λi h st b hb=>by
  have e:b=it:=by simpa using hb
  subst e;let(ok,ov,e):=st;exact(_,e,λv z=>by cases z)
 keep:=λi h h' st k=>let (ok,ov,e):=st;(ok,ov,k it ⇑_ _ e)
 item:=by
  intro X hP hw hK hc i gV s σ H E I hf st hg;subst hP hw hK;let(e,hl):=hg;let(hs,es,rd,sz,at_):=oK I e;obtain⟨y,hy⟩:∃y,xs[i]?=`y:=(_,Hw hl)
  let(d,hd,kd,vd):=at_ i y hy;have fi:=hf it ⇑_;let(ok,ov,st):=st;refine vR st rd sz hd λh' hout hT hk=>?_;have nT:H ↥s=none:=I.hok.fresh<|Hc _;have lt:∀b o,s.heap.get? b=`o->b≠↥s:=λb o q=>Hs<|Hj q;have ltH:∀b o,H b=`o->b≠↥s:=λb o q z=>by rw[z,nT]at q;cases q
  have neH:∀b o,H b=`o->b≠it:=λb o q z=>by rw[z,fi.1]at q;cases q
  have I1:Inv X gV σ (upd H ↥s (.tup [.ref y.2.1,y.2.2])) {s with heap:=h'}:=by
   refine I.call' (s':={s with heap:=h'}) (ch:=[it]) rfl (λb o q n hb hx=>?_,λb o q n hb hx=>?_,λb o q n hx=>?_,λb o q hx=>?_,λb xs q=>?_,λb o u q=>?_,λb ps q=>?_) (λb o q=>?_) I.bare λb hb=>?_;exact hk b o (λz=>hx<|by simp [z]) q;exact(o.slots,hk b o (λz=>hx<|by simp [z]) q);rw[af<|lt b o q];exact n;exact(o,hk b o (λz=>hx<|by simp [z]) q);rw[af<|ltH b _ q];exact q;rw[af<|ltH b _ q];exact q;exact(#[],by rw[af<|ltH b _ q,q];simp)
   .by_cases hb:b=↥s;subst hb;rw[aq]at q;cases q;exact(by show 2<=sizeLine;decide,_,.cons kd<|.cons vd .nil,(_,hT,rfl,_,rfl),_,hT,rfl)
    .rw[af hb]at q;refine (I.hok b o q).stay (λc v hc r=>?_) (λc r=>by rw[af<|ltH c _ r];exact r) λc xs r=>by rw[af<|ltH c _ r];exact r
     have:∃o,H c=`o:=by
      rcases hc with rfl|hc
      exact(o,q);exact(_,hc)
     let(o',qo):=this;exact hk c v (neH c o' qo) r
   .have e':b=it:=by simpa using hb
    subst e';exact(fi.2.2.2.1,fi.2.1,fi.2.2.2.2.1,fi.2.2.2.2.2)
  refine(_,rfl,wpAny_letOwnedTupleGo_items (s:={s with heap:=h'}) hout λh2 he2 hs2=>?_);have neT:it≠↥s:=lt _ _ st;have fe':(upd H ↥s (.tup [.ref y.2.1,y.2.2])) it=none:=by rw[af neT];exact fi.1
  refine(.ref ↥s,upd H ↥s (.tup [.ref y.2.1,y.2.2]),?_,rfl,(↥s,y,nT,rfl,hy,rfl),(_,_,he2),λb hb=>?_);exact I1.turned (t':=s.toks) (λb o hb eo=>(hs2.2 b hb).trans eo) fe' fi.2.1 fi.2.2.2.1 fi.2.2.2.2.1 fi.2.2.2.2.2
  .have e':b=it:=by simpa using hb
   subst e';exact fe'
 done:=by intro X hP hw hK hc i gV s σ H E I hf st hg;subst hP hw hK;let(e,hl):=hg;let(hs,es,rd,sz,_):=oK I e;let(f0,f1,f2,f3,f4,f5):=hf it ⇑_;let(ok,ov,st):=st;exact zo (I.ok.hd hc) st rd sz (Array.getElem?_eq_none ∅) λh' eb=>(rfl,I.turned (t':=s.toks) (λb o hb e=>eb b o hb e) f0 f1 f3 f4 f5)
 self:=λJ J s J J st h=>by
  let(ok,ov,st):=st;have hT:s.TypeIs (.ref it) "dict_itemiterator":=(_,st,rfl)
  refine wpAny_pyIter_slot hT F.slot_dict_itemiterator_iter<|Ll F.slot_dict_itemiterator_iter hT mn ?_<|F.args_dict_itemiterator_iter_1 _;show Lh _ _ (ret<|.ref it) _ _ s;exact Lm (_,rfl,"dict_itemiterator",_,hT,F.slot_dict_itemiterator_next.lookup,h)
section
variable {X:Cx}{E:XK}{o e:Expr}{apos cpos:LF}{fa:MG->M W}{elts:↑Expr}{tpos:LF}
def EI {b:Bool}{ep:Nat}(I:Inv X gV σ H s)(ha:H a=some (.dN b xs ep)):s.TypeIs (.ref a) "dict"/\∀b,K5.ref a=.ref b->∃ob,s.heap.get? b=`ob/\ob.dict=none:=by let(hs,es,(od,g1,g2,g3),_):=oK I ha;exact((_,g1,g2.1),λc q=>by cases q;exact(od,g1,g2.2.1))
noncomputable def iItm (te:TE):TI:=λσ H R=>te σ H λx H1=>∃a b xs ep,x=.ref a/\H1 a=some (.dN b xs ep)/\R (Ity a b xs ep) H1
def xK {x1}(he:PE X o te)(hb:L1 o "items" X.env (LD o X.env)=LD o X.env)(hln:(apos.endLine==cpos.line)=true):PI X (.Tuple elts x1 tpos) (.Call (.Attribute o "items" apos) [] [] cpos) (iItm te):=by
 intro gV s σ H R I h;refine wpAny_Call_method hb rfl hln PySem.F.plainAttrs_dict PySem.F.slot_dict_items PySem.F.type_dict_items (thn (he gV s σ H _ I h) λu s1 qz=>?_);let(x,H1,I1,rx,a,b,xs,ep,ex,ha,q):=qz;subst ex;obtain rfl:u=K5.ref a:=rx;let(t1,t2):=EI I1 ha;refine(t1,t2,?_);let(hs,es,rd,sz,_):=oK I1 ha;refine Calls.callWith_builtin rfl ?_;show Lh _ _ (pure _) _ _ _;refine Lm<|tq hs rd ?_;have I2:Inv X gV σ H1 {s1 with heap:=s1.heap.push {cls:=.type "dict_items",data:=.fields #[.ref a]},toks:=s1.toks}:=I1.kept λb o e=>He _ e;have rd2:RawD (s1.heap.push {cls:=.type "dict_items",data:=.fields #[.ref a]}) a es ep:=rd.keep λo q=>He _ q;refine sR (s:={s1 with heap:=s1.heap.push {cls:=.type "dict_items",data:=.fields #[.ref a]}}) (_,Hu _ rfl,rfl,rfl) rd2 ?_;rw[sz];refine(_,[_],_,_,H1,rfl,I2.kept (t':=s1.toks) λb o e=>He _ e,rG _ a b xs ep,(_,_,Hu _ rfl),λb hb=>?_,q);have e:b=(s1.heap.push {cls:=.type "dict_items",data:=.fields #[.ref a]}).objs.size:=by simpa using hb
 subst e;exact I2.fpOk (Hc _)<|I2.hok.fresh<|Hc _
noncomputable def RL (w:W):M Sr:=match w with|.dn b ks ws=>pr (Jg (λk w=>.tup [OJ b k,w]) ks ws,λJ=>True)|_=>no
def yz {x1}(he:JE X E o fa)(hb:L1 o "items" X.env (LD o X.env)=LD o X.env)(hln:(apos.endLine==cpos.line)=true):JI X E (.Tuple elts x1 tpos) (.Call (.Attribute o "items" apos) [] [] cpos) (Pj fa RL):=(xK he.h hb hln).imp λσ H Q h=>by
 ac_nf;cases x with
 |dn b ks ws=>
  unfold Rv at r1;let(a,(xs,ep),rfl,ha,n,hk,hn,hv):=r1;dsimp only at ha hk hn hv;have lk:⇑ks=⇑xs:=by rw[<-hk,Hb]
  have lw:⇑ws=⇑xs:=by have:=hv.len;rw[Hb]at this;exact this.symm
  refine(a,b,xs,ep,rfl,ha,h1.pr R1 (λo X R g=>((X.fr a _ ha n).1,by rw[Im,lk,lw,Kj]),λo i w X R g ei=>?_));rw[JC]at ei;cases ek:ks[i]? with
  |none=>rw[ek]at ei;cases ei
  |some k=>
   cases ew:ws[i]? with
   |none=>rw[ek,ew]at ei;cases ei
   |some w'=>
    rw[ek,ew]at ei;cases ei;rw[<-hk,Hl]at ek;let(y,ey,rfl):=Hn.mp ek;let(v,hv1,rv):=(hv.mono R1 X).get ew;rw[Hl,ey]at hv1;cases hv1;refine(((X.fr a _ ha n).1,(Hm.mp ey).1),λx H' hy=>?_);let(T,y',hT,rfl,ey',rfl):=hy;rw[ey]at ey';cases ey';exact((o.mu,o.h,upd o.H T<|.tup [.ref y.2.1,y.2.2]),rfl,rfl,Ex.new hT,R.new hT,Rv.newT R hT<|Rvs.cons (uF<|(hn y<|HH ey).mono X R1)<|Rvs.cons rv Rvs.nil)
 |_=>exact h1.elim
end
end
section
section
variable {X:Cx}{E:XK}
noncomputable def QM:MG->M Fl:=λJ=>no
def DZ {st:LI}:JS X E st QM:=⟨λgV s σ H D I q=>by
 let(o,ρ,rfl,R,S,h):=q
 exact h.elim⟩
noncomputable def dA (x y:Str):↑Str:=if (decide (⇑x<⇑y)||decide (K6.Str.strKind x<K6.Str.strKind y))=true then [x] else if (K6.Str.occurrences x y 0 ⇑x<|⇑x+1).isEmpty=true then [x] else K6.Str.partsBetween x (K6.Str.occurrences x y 0 ⇑x<|⇑x+1) ⇑y
def Db:V->↑V->Hp->VK->Prop:=λx vs H Q=>∃ (a b:Str),x=.str a/\vs=[.str b]/\(⇑b==0)=false/\⇑a<=sizeLine/\⇑(dA a b)<=sizeLine/\∀q,H q=none->Q (.ref q) (upd H q<|.lst<|(dA a b).map V.str)
theorem nA:∀ (l:↑Str) (t:Nat),Vals (l.map V.str) (strsFrom t l)|[],_=>.nil|x::l,t=>.cons (_,rfl)<|nA l<|t+1
def jZ {l:↑Str}{tk:Nat}(I:Inv X gV σ H s)(hv:Vals (l.map V.str) us)(hz:⇑l<=sizeLine)(q:∀q ,H q=none->Q (.ref q) (upd H q<|.lst<|l.map V.str)):
  EP X gV σ Q (.ref ↥s) {s with toks:=tk,heap:=s.heap.push {cls:=.type "list",data:=.seq us.toArray}}:=
 (.ref ↥s,_,I.laid (t':=tk) (λb o e=>He _ e) (Hc _) (show ObjOk X.prog X.w _ (s.heap.push {cls:=.type "list",data:=.seq us.toArray}) _ (.lst<|l.map V.str) from(by rw[Hb];exact hz,us,_,hv,Hu _ rfl)),rfl,q _<|I.hok.fresh<|Hc _)
def yv:MtR X "str.split" Db:=by
 intro gV s σ H x vs v us Q I rx rv h;let(a,b,rfl,rfl,hb,ha,hz,q):=h;let(t,rfl):=rx;let(u,rfl,ru):=rv.one;let(t2,rfl):=ru;by_cases c1:(decide (⇑a<⇑b)||decide (K6.Str.strKind a<K6.Str.strKind b))=true;have e:dA a b=[a]:=bf c1;rw[e]at q;refine Mh F.slot_str_split (Md s a t) F.entry_str_split (F.args_str_split_2 _ _) (meets_str_split_cannot_occur a b t t2 c1) ?_;exact jZ (l:=[a]) (us:=[.str a t]) (tk:=s.toks) I (.cons (t,rfl) .nil) (by show 1<=sizeLine;decide) q
 .have c1':(decide (⇑a<⇑b)||decide (K6.Str.strKind a<K6.Str.strKind b))=false:=by rw[<-IW];exact c1
  by_cases c2:(K6.Str.occurrences a b 0 ⇑a<|⇑a+1).isEmpty=true
  .have e:dA a b=[a]:=by unfold dA;rw[aZ c1,bf c2]
   rw[e]at q;refine Mh F.slot_str_split (Md s a t) F.entry_str_split (F.args_str_split_2 _ _) (meets_str_split_not_found a b t t2 c1' hb c2) ?_;exact jZ (l:=[a]) (us:=[.str a t]) (tk:=s.toks) I (.cons (t,rfl) .nil) (by show 1<=sizeLine;decide) q
  .have c2':(K6.Str.occurrences a b 0 ⇑a<|⇑a+1).isEmpty=false:=by rw[<-IW];exact c2
   have e:dA a b=K6.Str.partsBetween a (K6.Str.occurrences a b 0 ⇑a<|⇑a+1) ⇑b:=by unfold dA;rw[aZ c1,aZ c2]
   rw[e]at q hz;refine Mh F.slot_str_split (Md s a t) F.entry_str_split (F.args_str_split_2 _ _) (meets_str_split_sep a b t t2 c1' hb c2' ha hz) ?_;exact jZ (l:=K6.Str.partsBetween a (K6.Str.occurrences a b 0 ⇑a<|⇑a+1) ⇑b) I (nA _ _) hz q
noncomputable def RJ (x:W)(ws:↑W):M W:=match x,ws with|.str a,[.str b]=>gd ((⇑b==0)=false/\⇑a<=sizeLine/\⇑(dA a b)<=sizeLine) (pr<|.tl<|(dA a b).map W.str)|_,_=>no
theorem gU {K:Zf}:∀ns:↑Str,Rvs K o (ns.map W.str) (ns.map V.str)|[]=>Rvs.nil|n::r=>Rvs.cons (QK.mpr rfl)<|gU r
variable {o e:Expr}{apos cpos:LF}{fo:MG->M W}{l:MG->M ↑W}
def yD (ho:JE X E o fo)(ha:JA X E [e] l)(hbase:L1 o "split" X.env (LD o X.env)=LD o X.env)
  (hfew:((LG cpos<|LH [e] X.env).all (λx=>!x.1)&&(L3 cpos<|L4 [] X.env).all (λx=>x.1.isSome)&&decide (⇑([e]:↑Expr)+⇑([]:↑L8)+(if ([]:↑L8).isEmpty then 0 else 1)<30))=true)
  (hline:(apos.endLine==cpos.line)=true)(hs:LH [e] X.env=(false ,LD e X.env)::LH [] X.env)(hplain:(LG cpos<|LH [] X.env).any (·.1)=false):
  JE X E (.Call (.Attribute o "split" apos) [e] [] cpos) (Pb isS RJ fo l):=
 (uu PySem.F.plainAttrs_str PySem.F.slot_str_split PySem.F.type_str_split yv ho.h ha.h hbase hfew hline hs hplain).imp λσ H Q h=>by
  let(w,ρ,rfl,R,S,h):=h;refine(w,ρ,rfl,R,S,Ps.bd h λp x vx e1 R1 r1 h1=>?_);cases x with
  |str a=>
   have h1:Ps (cg X E) (Rv X.K) p (bd (l ρ) (λws=>RJ (.str a) ws) p.h) Q:=h1;rw[QK.mp r1];refine(rfl,p,ρ,rfl,R1,S.mono R e1,Ps.bd h1 λq ws vs e2 R2 r2 h2=>?_);rcases ws with _|⟨w',_|⟨_,_⟩⟩
   exact h2.elim
   .let(v,rfl,r):=r2.one;cases w' with
    |str b=>
     have h2:Ps (cg X E) (Rv X.K) q (gd ((⇑b==0)=false/\⇑a<=sizeLine/\⇑(dA a b)<=sizeLine) (pr<|.tl<|(dA a b).map W.str) q.h) Q:=h2;let(hz,h2):=h2.gd;exact(a,b,rfl,by rw[QK.mp r],hz.1,hz.2.1,hz.2.2,λq hq=>fZ R2 hq (gU _) h2)
    |_=>exact h2.elim
   cases w'<;>exact h2.elim
  |_=>exact h1.elim
end
section
variable {X:Cx}{c m:Str}{C fA:Lb}{fd:L5}{ps:↑Str}{k n:Nat}{fn:↑W->M W}{o:Expr}{fo:MG->M W}{pos apos:LF}
def A9 (hn:K3 X.K Lx c=some (some<|.ref C))(cl:Cls X.K C)(F:CGm X.prog X.w X.K X.mg X.base k C m fA fd ps n fn)(hr:Room k X.A)(ho:JE X E0 o fo)
  (ht:LD (.Call (.Attribute o m apos) [] [] pos) X.env=(do
   let ov<-LD o X.env
   LM apos.atName
   let (f ,first)<-LN [ov] (L0 ov m pl)
   callWith pos f first (LG pos<|LH [] X.env) (L3 pos<|L4 [] X.env))):
  JE X E0 (.Call (.Attribute o m apos) [] [] pos) (Pa c m n fn fo Pe):=(d7 ho.h cl F.me F.ok hr F.bi .nil Qc ht).imp λσ H Q h=>by
 let(w,ρ,rfl,R,S,h):=h;refine(w,ρ,rfl,R,S,Ps.bd h λp x vx e1 R1 r1 h1=>?_);let(a,dx,fs,rfl,q1,q2,h1):=yZ hn R1 r1 h1;have h1:Ps (cg X E0) (Rv X.K) p (arW n fn [x] p.h) Q:=h1;unfold arW at h1;by_cases z:⇑([x]:↑W)=n;rw[bf z]at h1;exact(a,dx,fs,rfl,q1,q2,p,[x],rfl,z,R1,by first|(rw[HL];exact Rvs.cons r1 Rvs.nil)|exact Rvs.cons r1 Rvs.nil,h1);rw[aZ z]at h1;exact h1.elim
def yE (M:Mk X.K C fA)(hn:K3 X.K Lx c=some (some<|.ref C))(F:FnOk X.prog X.w X.K X.mg X.base CX0 k fA fd ps (RF X.K X.mg n fn))(hb:Binds X.K fd ps [])(hr:Room (k+1) X.A)(hm:X.mg c=some (.ref C))(hg:Gl X c)
  (hdb:(c==("__debug__":Str))=false):JE X E0 (.Call (.Name c p0) [] [] pos) (O9 c n fn Pe):=(xO M F hr hg hm hb .nil Qc hdb).imp λσ H Q h=>by
 let(p,ρ,rfl,R1,S,h):=h;intro x dx hx hdx hne;have X1:Ex p (p.mu,p.h,upd p.H dx<|.own x):=Ex.new hdx;have N1:Rel X.K (p.mu,p.h,upd p.H dx<|.own x):=R1.new hdx;have hx1:((p.mu,p.h,upd p.H dx<|.own x):Wo).H x=none:=by show upd p.H dx (.own x) x=none;rw[af<|Ne.symm hne];exact hx
 have X2:Ex (p.mu,p.h,upd p.H dx<|.own x) (Wo.add (p.mu,p.h,upd p.H dx<|.own x) x (.ins c [] [])<|.ins C dx []):=Ex.add hx1;have N2:Rel X.K (Wo.add (p.mu,p.h,upd p.H dx<|.own x) x (.ins c [] [])<|.ins C dx []):=N1.add hx1 (C,dx,[],hn,aq,rfl,Rvs.nil)
 have h1:Ps (cg X E0) (Rv X.K) p (match arW n fn [.loc ⇑p.h] (p.h++[.ins c [] []]) with
  |.ok .non h'=>.ok (.loc ⇑p.h) h'
  |_=>.bad) Q:=h
 by_cases z:⇑([W.loc ⇑p.h]:↑W)=n
 .rw[zQ z]at h1;refine(Wo.add (p.mu,p.h,upd p.H dx<|.own x) x (.ins c [] [])<|.ins C dx [],[.loc ⇑p.h],rfl,z,N2,?_,?_);exact Rvs.cons Rv.addLocI Rvs.nil
  .show Ps (X.K,X.mg,E0) (Rv X.K) _ (fn [.loc ⇑p.h]<|p.h++[.ins c [] []]) _;cases ef:fn [.loc ⇑p.h] (p.h++[.ins c [] []]) with
   |ok a h'=>
    rw[ef]at h1;cases a with
    |non=>
     intro p' b hp X3 R3 rb;refine(QJ.mp rb,Ps.at (p:=p') h1 hp ((X1.trans X2).trans X3) R3 ?_);have lt:⇑p.h<(Wo.add (p.mu,p.h,upd p.H dx<|.own x) x (.ins c [] [])<|.ins C dx []).h.length:=by show _<⇑(p.h++[_]);simp
     unfold Rv;refine(HE lt X3.le,?_);rw[X3.mu _ lt];show V.ref x=V.ref (if ⇑p.h=⇑p.h then x else p.mu ⇑p.h);rw[bf rfl]
    |_=>exact h1.elim
   |ex y h'=>rw[ef]at h1;exact h1.elim
   |bad=>rw[ef]at h1;exact h1.elim
 have:arW n fn [.loc ⇑p.h]=no:=aZ z;rw[this]at h1;exact h1.elim
end
end
section
section
noncomputable def Oo (w:W):M W:=bd (O0 w) λJ=>pr w
end
end
section
section
variable {X:Cx}{E:XK}{o i e:Expr}{p apos cpos:LF}{fo:MG->M W}{l:MG->M ↑W}
noncomputable def Rw (x:W)(ws:↑W):M W:=match ws with
 |[.str k]=>bd (O0 x) λl=>match P6 sOf l with
  |some (ss:↑Str)=>match ss.findIdx? (λm=>decide<|m=k) with|some j=>pr (.int (j:Int))|none=>no
  |none=>no
 |_=>no
theorem xh {k:Str}:∀ {ss:↑Str}{us:↑K5},Vals (ss.map V.str) us->⇑us=⇑ss/\∀ (i:Nat) (u:K5),us[i]?=`u->∃m,ss[i]?=`m/\eqU (.str k) u=decide (m=k)
 |[],_,r=>by rw[HM]at r;cases r;exact(rfl,λi u h=>by cases h)
 |n::ss,_,r=>by
  rw[Hg]at r;cases r with
  |cons h t=>
   let(a,b):=xh (k:=k) t;refine(congrArg (· +1) a,λi u hu=>?_);cases i with
   |zero=>
    cases hu;refine(n,rfl,?_);rw[s9 h rfl];by_cases q:n=k;subst q;simp [eVs,eVi];rw[bg q];simp [eVs,eVi,q]
   |succ i=>exact b i u hu
def rSIdx:V->↑V->Hp->VK->Prop:=λx vs H Q=>∃ (p:Lb) (ss:↑Str) (k:Str) (j:Nat),x=.ref p/\vs=[.str k]/\H p=some (.lst<|ss.map V.str)/\ss.findIdx? (λm=>decide<|m=k)=`j/\Q (.int j) H
def AS:MtM X "list.index" rSIdx:=by
 intro gV s σ H x vs v us Q I rx rv h;let(p,ss,k,j,rfl,rfl,hp,hj,q):=h;cases rx;let(u,rfl,ru):=rv.one;let(t,rfl):=ru;let(its,n,r,ho,hz):=I.lst hp;let(len,gt):=xh (k:=k) r;rw[KJ]at hj;let(h1,h2,h3):=hj;have at':∀ (i:Nat) (hi:i<⇑its),eqU (.str k) its[i]=decide (ss[i]'∅=k):=λi hi=>by let(m,e1,e2):=gt i its[i]<|Hw hi;rw[Hw ∅]at e1;cases e1;exact e2
 have lz:=g9;rw[Hb]at hz;refine Mh F.slot_list_index (_,ho,rfl) F.entry_list_index (F.args_list_index_2 _ _) (SeqAt.list_indexAt p its.toArray n none #[] (.str k t) (eqU<|.str k) j (by rw[Ho];omega) ∅ ?_ λm hm hlt=>?_) (ho,λy hy=>fu (x:=.str k) (v:=.str k t) (t,rfl) rfl r ?_ y (by simpa using hy),.int j,H,I.tok _,(_,rfl),q);rw[KL,at' j ∅];exact h2;rw[KL,at' m<|by rw[Ho]at hm;exact hm];have:=h3 m hlt;simpa using this;rw[JJ];exact HJ.mpr λJ J=>rfl
set_option tactic.hygienic true in
def A8 (ho:JE X E o fo)(ha:JA X E [e] l)(hbase:L1 o "index" X.env (LD o X.env)=LD o X.env)
  (hfew:((LG cpos<|LH [e] X.env).all (λx=>!x.1)&&(L3 cpos<|L4 [] X.env).all (λx=>x.1.isSome)&&decide (⇑([e]:↑Expr)+⇑([]:↑L8)+(if ([]:↑L8).isEmpty then 0 else 1)<30))=true)
  (hline:(apos.endLine==cpos.line)=true)(hs:LH [e] X.env=(false ,LD e X.env)::LH [] X.env)(hplain:(LG cpos<|LH [] X.env).any (·.1)=false):
  JE X E (.Call (.Attribute o "index" apos) [e] [] cpos) (Pb Oo Rw fo l):=
 (uu PySem.F.plainAttrs_list PySem.F.slot_list_index PySem.F.type_list_index AS ho.h ha.h hbase hfew hline hs hplain).imp λσ H Q h=>by
  let(w,ρ,rfl,R,S,h):=h;refine(w,ρ,rfl,R,S,Ps.bd h λp x vx e1 R1 r1 h1=>?_);have h1:Ps (cg X E) (Rv X.K) p (bd (bd (O0 x) λJ=>pr x) (λx=>bd (l ρ) λws=>Rw x ws) p.h) Q:=h1;rw[aa]at h1;let(l0,a,vs0,rfl,s1,r3,h1):=eK R1 r1 h1;rw[aB]at h1;refine(.inl (rfl,vs0,.of s1),p,ρ,rfl,R1,S.mono R e1,Ps.bd h1 λq ws vs e2 R2 r2 h2=>?_);unfold Rw at h2;split at h2
  .rename_i k;let(v,rfl,r):=r2.one;let(l1,a1,vs1,ea,s2,r4,h2):=eK R2 (r1.mono R1 e2) h2;cases ea;cases t1:P6 sOf l1 with
   |none=>simp only[t1]at h2;exact h2.elim
   |some ss=>
    simp only[t1]at h2;have e3:vs1=ss.map V.str:=dG xv t1 r4;subst e3;cases hj:ss.findIdx? (λm=>decide<|m=k) with
    |none=>simp only[hj]at h2;exact h2.elim
    |some j=>
     simp only[hj]at h2;exact(a,ss,k,j,rfl,by rw[QK.mp r],s2,hj,h2.pr R2<|QI.mpr rfl)
  exact h2.elim
end
end
end L2
namespace L2
open PySem
theorem rA {c:Nat}:∀ {a b u v:↑Nat},c ∉a->c ∉b->a++c::u=b++c::v->a=b/\u=v
 |[],[],u,v,_,_,e=>(rfl,(List.cons.inj e).2)
 |[],y::b,u,v,_,h,e=>absurd (List.cons.inj e).1 (λz=>h<|z▸Hi)
 |x::a,[],u,v,h,_,e=>absurd (List.cons.inj e).1 (λz=>h<|z▸Hi)
 |x::a,y::b,u,v,h1,h2,e=>by let(e1,e2):=List.cons.inj e;let(q1,q2):=rA (λz=>h1<|Ht _ z) (λz=>h2<|Ht _ z) e2;exact(by rw[e1,q1],q2)
def oy {a b:Str}(h:a.cps.toList=b.cps.toList):a=b:=by cases a;cases b;congr 1;exact Array.toList_inj.mp h
def fw (c:Nat)(x y:Str)(r:↑Str):(Str.join ⟨#[c]⟩ (x::y::r)).cps.toList=x.cps.toList++c::(Str.join ⟨#[c]⟩ (y::r)).cps.toList:=by show ((x++(⟨#[c]⟩:Str))++Str.join ⟨#[c]⟩ (y::r)).cps.toList=_;rw[iJ,iJ,HF];rfl
theorem qK {c:Nat}:∀ {ps qs:↑Str},ps≠ []->qs≠ []->(∀p∈ps ,c ∉p.cps.toList)->(∀p∈qs ,c ∉p.cps.toList)->Str.join ⟨#[c]⟩ ps=Str.join ⟨#[c]⟩ qs->ps=qs|[],_,h,_,_,_,_=>absurd rfl h|_::_,[],_,h,_,_,_=>absurd rfl h|[x],[y],_,_,_,_,e=>by rw[show x=y from e]|[x],y::z::r,_,_,f,_,e=>by have e:=congrArg (λs:Str=>s.cps.toList) e;rw[fw]at e;refine absurd ?_<|f x Hi;have e:x.cps.toList=_:=e;rw[e];exact HW _ Hi|x::w::s,[y],_,_,_,f,e=>by have e:=congrArg (λs:Str=>s.cps.toList) e;rw[fw]at e;refine absurd ?_<|f y Hi;have e:_=y.cps.toList:=e;rw[<-e];exact HW _ Hi|x::w::s,y::z::r,_,_,f,g,e=>by have e:=congrArg (λs:Str=>s.cps.toList) e;rw[fw,fw]at e;let(e1,e2):=rA (f x Hi) (g y Hi) e;have e3:=qK (ps:=w::s) (qs:=z::r) ⇑_ ⇑_ (λp hp=>f p<|Ht _ hp) (λp hp=>g p<|Ht _ hp) (oy e2);rw[oy e1,e3]
def rM {c:Nat}{ps:↑Str}(h:ps≠ [])(f:∀p∈ps ,c ∉p.cps.toList):dA (Str.join ⟨#[c]⟩ ps) ⟨#[c]⟩=ps:=by have e:dA (Str.join ⟨#[c]⟩ ps) ⟨#[c]⟩=Txt.split (Str.join ⟨#[c]⟩ ps) ⟨#[c]⟩:=rfl;rw[e];refine qK (c:=c) (λz=>?_) h (StrLaws.split_free _ _) f<|StrLaws.join_split _ _;have:=PyProof.Rows.split_pos (Str.join ⟨#[c]⟩ ps) ⟨#[c]⟩;rw[z]at this;exact absurd this ⇑_
def pX {c:Nat}{ps:↑Str}(h:ps≠ [])(f:∀p∈ps ,c ∉p.cps.toList)(z:⇑(Str.join ⟨#[c]⟩ ps)<=sizeLine)(z2:⇑ps<=sizeLine):RJ (.str<|Str.join ⟨#[c]⟩ ps) [.str ⟨#[c]⟩]=pr (.tl<|ps.map W.str):=by show gd _ _=_;rw[rM h f,ag (rfl,z,z2)]
end L2
namespace L2
open PySem PySem.W PySem.Spec PyProof.Rows
section
variable {X:Cx}{E:XK}
def wG:CallR X (.builtin "len") (λxs H Q=>∃p b ys ep ,xs=[.ref p]/\H p=some (.dN b ys ep)/\(∀x∈ys ,KeyN X.K H b x.2.1 x.1)/\Q (.int ⇑ys) H):=by
 intro gV s σ H xs us Q I r h;let(p,b,ys,ep,rfl,e,hk,q):=h;let(u,rfl,rx):=Sk r;cases rx;let(z,hd,zs,rel,dd):=nY I e hk;have lz:⇑zs=⇑ys:=rel.length.symm;have hn:=g9;have hT:=dd.typeIs;let(o,es,ep',ho,_,hdat,he,_):=dd;have ls:es.size=⇑ys:=by rw[<-lz,<-HY,he,Hb]
 refine Calls.call_function_entry kind_len plain_len entry_len (args_len1 _) ?_;unfold K6.«len»;refine Lj (m:=oneArg "len" _)<|Lm ?_;refine Lj (m:=callSpecial? (.ref p)<|Str.ofString "__len__")<|wpAny_callSpecial?_slot (name:=Str.ofString "__len__") hT F.slot_dict_len<|Ll F.slot_dict_len hT F.entry_dict_len ?_<|F.args_dict_len_1 _;show Lh _ _ (dictSize p>>=_) _ _ s;unfold dictSize;refine Lj<|Lj<|wpAny_dictEntries ho hdat<|Lm ?_;refine Lj (m:=K6.Dict.pendingCount p)<|wpAny_pendingCount_other hd<|wpAny_ret_mkInt ?_;have e0:((es.size:Nat):Int)+((0:Nat):Int)=((⇑ys:Nat):Int):=by rw[ls];exact Ip _
 rw[e0];refine Lj<|Lp<|Lm<|Lj<|Mu ?_;show Lh _ _ (if ((⇑ys:Nat):Int)<0 then _ else _) _ _ _;rw[aZ ∅];show Lh _ _ (if ((⇑ys:Nat):Int)≥2^63 then _ else _) _ _ _;rw[aZ ∅];exact Lj<|wpAny_mkInt<|Lm (_,rfl,.int ⇑ys,H,I.tok _,(_,rfl),q)
noncomputable def OS (ws:↑W):M W:=λh=>match ws with
 |[w]=>match NA w h with|some (_ ,ks,_)=>.ok (.int ⇑ks) h|none=>.bad
 |_=>.bad
set_option tactic.hygienic true in
def EB:Mz X E (λxs H Q=>∃p b ys ep ,xs=[.ref p]/\H p=some (.dN b ys ep)/\(∀x∈ys ,KeyN X.K H b x.2.1 x.1)/\Q (.int ⇑ys) H) OS:=λo ws vs Q R rv h=>by
 unfold OS at h;split at h
 .rename_i w;let(v,rfl,r):=rv.one;cases e:NA w o.h with
  |none=>rw[e]at h;exact h.elim
  |some t=>
   let(b,ks,ws):=t;rw[e]at h;let(a,xs,ep,rfl,g1,g2,g3,_):=mr R e r;refine(a,b,xs,ep,rfl,g1,g3,?_);have q:=Ps.pr (c:=cg X E) (r:=Rv X.K) (a:=W.int ⇑ks) h R<|QI.mpr rfl;rw[<-g2,Hb]at q;exact q
 exact h.elim
def Bb {l:MG->M ↑W}(hm:X.mg "len"=none)(ha:JA X E [a] l)(hg:Gl X "len")(he:LH [a] X.env=(false ,LD a X.env)::LH [] X.env)(hpl:(LG pos<|LH [] X.env).any (·.1)=false):JE X E (.Call (.Name "len" p) [a] [] pos) (O5 OS l):=
 di wG EB hg hm PySem.boot_len ha ↥_ ↥_ he hpl
open Classical in
open Classical in
end
end L2
namespace HT
open PySem PySem.Spec PyProof.Rows
end HT
namespace L2
open PySem PySem.Spec PyProof.Rows
end L2
namespace L2
open PySem PySem.W PySem.Spec PyProof.Rows
section
variable {prog:K8}{w:K9}
def IsPk.ext {b:Bool}(x:IsPk prog w b h k a)(kp:∀c o ,o.cls=.type "tuple"->h.get? c=`o->h'.get? c=`o):IsPk prog w b h' k a:=by let(o,its,n,c,v,h1,h2,h3,(o2,i2,n2,g1,g2,g3,g4),h5,h6):=x;exact(o,its,n,c,v,kp a o h2 h1,h2,h3,(o2,i2,n2,kp c o2 g2 g1,g2,g3,g4),h5,h6)
def zu {b:Bool}{h h':La}{D:Lb}{xs:↑(PKy×Lb×K5)}(x:h.DictOfH (c8 prog w b) D xs)(kd:∀o ,h.get? D=`o->h'.get? D=`o)(kp:∀c o ,o.cls=.type "tuple"->h.get? c=`o->h'.get? c=`o):h'.DictOfH (c8 prog w b) D xs:=by let(o,es,ep,h1,h2,h3,h4,h5,h6):=x;exact(o,es,ep,kd o h1,h2,h3,h4,λy hy=>(show IsPk prog w b h y.1 y.2.1 from h5 y hy).ext kp,h6)
structure MU where
 t:Lb
 k:PKy
 a:Lb
 v:K5
variable {A:Lf}{R:Result->Ld->Prop}
abbrev NC (p:MU):PKy×Lb×K5:=(p.k ,p.a,p.v)
def Gv (hh:A.in1.handled=none)(hu:A.units+8<Lg)(I ax D:Lb)(hI:ax≠I)(hD:D≠I)(hx:D≠ax)(ps:↑MU)(res:K5)(ht:∀p∈ps ,p.t≠I/\p.t≠D)(nd:(ps.map MU.k).Nodup):
  ∀ (k i:Nat) (s:Ld),⇑ps-i=k->i<=⇑ps->s.heap.IsListIter I ax i->s.heap.IsList ax (ps.map λp=>K5.ref p.t).toArray->s.heap.DictOfH (c8 prog w true) D ((ps.take i).map NC)->(∀p∈ps ,IsPk prog w true s.heap p.k p.a/\∃o n,s.heap.get? p.t=`o/\o.cls=.type "tuple"/\o.data=.seq #[.ref p.a,p.v] n)->⇑ps<=sizeLine->
  (∀o ,s.heap.get? I=`o->o.cls≠.type "tuple")->(∀o ,s.heap.get? D=`o->o.cls≠.type "tuple")->
  (∀h' tk ,h'.DictOfH (c8 prog w true) D (ps.map NC)->(∀b o ,b≠I->b≠D->s.heap.get? b=`o->h'.get? b=`o)->R (.ok<|.ret res) {s with heap:=h',toks:=tk})->
  codeAny (Li prog w) A (.builtin "dict.update.loop" ([.ref D,.ref I,LV (i:Int),res],[])) R s:=by
 have W:=Walks.list (prog:=prog) (w:=w) (A:=A.in1) hh I ax hI (ps.map λp=>K5.ref p.t).toArray;have hn:(ps.map λp=>K5.ref p.t).toArray.size=⇑ps:=⇑_;intro k
 induction k with
 |zero=>
  intro i s hk' hi hit hl hd htp hz nI nD hR;have hin:i=⇑ps:=∅;subst hin;refine codeAny_builtin F.entry_dul ?_;rw[Lf.under_plainId F.plain_dul _];show Lh _ A.in1 (LS (.ref I)>>=_) _ _ s
  refine Lj (W.done s _ _ (by rw[hn];exact hit,hl) λh' tk hm=>?_);have hm:∀b o,b≠I->s.heap.get? b=`o->h'.get? b=`o:=λb o hb e=>hm b o (by simpa using hb) e;show Lh _ _ (K6.Dict.addKeywords D []>>=_) _ _ _;refine Lj (Lm<|Lm<|hR h' tk ?_ λb o hb J e=>hm b o hb e);rw[Hz]at hd;exact zu hd (λo e=>hm D o hD e) λc o q e=>hm c o (λz=>nI o (z▸e) q) e
 |succ k ih=>
  intro i s hk' hi hit hl hd htp hz nI nD hR;have hlt:i<⇑ps:=∅;refine codeAny_builtin F.entry_dul ?_;rw[Lf.under_plainId F.plain_dul _];show Lh _ A.in1 (LS (.ref I)>>=_) _ _ s
  refine Lj (W.item i s _ _ (by rw[hn];exact hlt) (hit,hl) λv h' tk hP hst hm=>?_);have hm:∀b o,b≠I->s.heap.get? b=`o->h'.get? b=`o:=λb o hb e=>hm b o (by simpa using hb) e;have ht':∀c o,o.cls=.type "tuple"->s.heap.get? c=`o->h'.get? c=`o:=λc o q e=>hm c o (λz=>nI o (z▸e) q) e;obtain⟨p,hp⟩:∃p,ps[i]?=`p:=(_,Hw hlt)
  have hv:v=.ref p.t:=by
   have:(ps.map λp=>K5.ref p.t)[i]?=`v:=by simpa using hP
   rw[Hl,hp]at this;exact (Option.some.inj this).symm
  subst hv;have pm:p∈ps:=HH hp;let(pk,o,n,ho,hc,hdt):=htp p pm;have ho':h'.get? p.t=`o:=ht' _ _ hc ho;have hT:((h',s.gens,s.drawn,tk,s.os):Ld).TypeIs (.ref p.t) "tuple":=(_,ho',hc)
  dsimp only;refine Lj<|Lp<|Lj<|wpAny_tryCatch ?_;unfold K6.Dict.pairItems;refine Lj<|wpAny_typeOf hT ?_;rw[bf ↥_];refine Lj<|Lr ho' hdt<|Lm ?_;show Lh _ _ (LN [.ref p.a,p.v]<|dictSet D (.ref p.a) p.v) _ _ _;have hd1:h'.DictOfH (c8 prog w true) D ((ps.take i).map NC):=zu hd (λo e=>hm D o hD e) ht';have lz:⇑((ps.take i).map NC)<=sizeLine:=by rw[Hb,H9];omega
  refine Lp<|wpAny_dictSet_heap (s:=(h',s.gens,s.drawn,tk,s.os)) (knd:=c8 prog w true) (by show A.units+1+1<Lg;omega) (show (c8 prog w true).is h' p.k p.a from pk.ext ht') hd1 (λh2 hd2 hs2=>?_) lz;have kp2:∀b o,b≠D->h'.get? b=`o->h2.get? b=`o:=λb o hb e=>(hs2.2 b hb).trans e;have en:storedH ((ps.take i).map NC) p.k p.a p.v=(ps.take<|i+1).map NC:=by
   rw[storedH_new,List.take_add_one,hp,Hh];rfl
   .unfold Mi;rw[List.find?_eq_none.mpr];rfl
    .intro x hx z;let(q,hq,rfl):=Hq.mp hx;have z:q.k=p.k:=of_decide_eq_true z;have e1:ps.map MU.k=(ps.take i).map MU.k++p.k::(ps.drop<|i+1).map MU.k:=by let(_,e):=Hm.mp hp;rw[<-Hg (f:=MU.k),<-Hh,<-e,<-IU hlt,KM]
     rw[e1]at nd;exact (Ji.mp nd).2.2 _ (Hq.mpr (q,hq,z)) _ Hi rfl
  rw[en]at hd2;have ei:((i:Int)+1)=((i+1:Nat):Int):=∅;rw[ei];have tD:∀o,h'.get? D=`o->o.cls≠.type "tuple":=λo e=>by let(o',_,_,e',q,_):=hd1;rw[e']at e;cases e;rw[q.1];decide
  refine Lm (plainId_quiet F.plain_dul _,ih (i+1) _ ∅ ∅ (hst.1.at λo e=>kp2 I o (Ne.symm hD) e) (hst.2.at λo e=>kp2 ax o (Ne.symm hx) e) hd2 (λq hq=>?_) hz (λo e=>?_) (λo e=>?_) λh3 tk3 hd3 hk3=>?_);let(qk,o,n,e1,e2,e3):=htp q hq;have tt:∀c o,o.cls=.type "tuple"->h'.get? c=`o->h2.get? c=`o:=λc o q e=>kp2 c o (λz=>tD o (z▸e) q) e;exact((qk.ext ht').ext tt,o,n,tt _ _ e2<|ht' _ _ e2 e1,e2,e3);let(oi,e1,e2,_):=hst.1.at λo e=>kp2 I o (Ne.symm hD) e;have e:h2.get? I=`o:=e;rw[e1]at e;cases e;rw[e2];decide;let(o',_,_,e',q,_):=hd2;have e:h2.get? D=`o:=e;rw[e']at e;cases e;rw[q.1];decide;exact hR h3 tk3 hd3 λb o hb hb2 e=>hk3 b o hb hb2<|kp2 b o hb2<|hm b o hb e
def rc {E:K5->Ld->Prop}{s:Ld}{a:Lb}{ps:↑MU}{Q:K5->Ld->Prop}(hh:A.handled=none)(hu:A.units+16<Lg)(hl:PlainL s.heap a (ps.map λp=>K5.ref p.t).toArray)(nd:(ps.map MU.k).Nodup)
  (ht:∀p∈ps ,IsPk prog w true s.heap p.k p.a/\∃o n,s.heap.get? p.t=`o/\o.cls=.type "tuple"/\o.data=.seq #[.ref p.a,p.v] n)(hz:⇑ps<=sizeLine)
  (h:∀h' tk ,h'.DictOfH (c8 prog w true) ↥s (ps.map NC)->(∀b o ,s.heap.get? b=`o->h'.get? b=`o)->Q (.ref ↥s) {s with heap:=h',toks:=tk}):
  Lh (Li prog w) A (call (.type "dict") [.ref a]) Q E s:=by
 refine callType_codes (Q₁:=λobj s₁=>obj=.ref ↥s/\s₁={s with heap:=s.heap.push {cls:=.type "dict",data:=.dict #[]}}) F.kt_called_dict (F.kt_typeCall_dict_1 _) F.entry_dict_init (kt_code_dict_new _ (rfl,rfl)) ?_;intro obj s₁ ⟨e1,e2⟩;subst e1 e2;have hnew:(s.heap.push {cls:=.type "dict",data:=.dict #[]}).DictOfH (c8 prog w true) ↥s []:=La.DictOfH.new s.heap;have kp1:∀b o,s.heap.get? b=`o->(s.heap.push {cls:=.type "dict",data:=.dict #[]}).get? b=`o:=λb o e=>He _ e;have hl1:=hl.keeps kp1;have hT:({s with heap:=s.heap.push {cls:=.type "dict",data:=.dict #[]}}:Ld).TypeIs (.ref a) "list":=let (o,n,e,c,_,_):=hl1;(o,e,c);have al:a<↥s:=let (o,n,e,_):=hl;Hj e;refine(hnew.typeIs,F.args_dict_init_2 _ _,?_);unfold K6.«dict.__init__»;refine Lj ?_;unfold K6.Dict.selfAndRest;refine Lj<|wpAny_notOrdered_dict hnew.typeIs ?_;show Lh _ _ (pure (↥s ,[K5.ref a])) _ _ _;refine Lm ?_;show Lh _ _ (K6.Dict.updateFrom "dict.__init__" ↥s (.ref a) [] .none) _ _ _;unfold K6.Dict.updateFrom;refine Lj<|wpAny_typeOf hT ?_;rw[bf ↥_];let(o,n,e1,e2,e3,e4):=hl1;refine Lj<|pc e1 e2 e4 e3 v9 ⋯ hh (λh2 tk2 kp2=>?_) ⋯;rw[bf<|show (none:Option K5).isNone=true from rfl];refine Lj<|Ln ?_;have hl2:PlainL h2 a (ps.map λp=>K5.ref p.t).toArray:=PlainL.keeps (o,n,e1,e2,e3,e4) kp2;refine Lj<|wpAny_pyIter_list (s:=(h2,s.gens,s.drawn,tk2,s.os)) hl2.isList ?_;have d2:↥s<h2.objs.size:=by let(o',_,_,e',_):=hnew;exact Hj<|kp2 _ _ e'
 have kp3:∀b o,s.heap.get? b=`o->(h2.push {cls:=.type "list_iterator",data:=.fields #[.ref a,.int 0 0]}).get? b=`o:=λb o e=>He _<|kp2 b o<|kp1 b o e;have hnew3:(h2.push {cls:=.type "list_iterator",data:=.fields #[.ref a,.int 0 0]}).DictOfH (c8 prog w true) ↥s []:=by let(o',es,ep,e',r1,r2,r3,r4):=hnew;exact(o',es,ep,He _<|kp2 _ _ e',r1,r2,r3,λx hx=>(HB hx).elim,r4.2)
 have nD3:∀o,(h2.push {cls:=.type "list_iterator",data:=.fields #[.ref a,.int 0 0]}).get? ↥s=`o->o.cls≠.type "tuple":=λo e=>by let(o',_,_,e',q,_):=hnew3;rw[e']at e;cases e;rw[q.1];decide
 have tl:∀p∈ps,p.t<↥s:=λp hp=>by let(_,o,n,e,_):=ht p hp;exact Hj e
 refine Lm (plainId_quiet F.plain_dul _,Gv (A:=A.in1) hh (by show A.units+1+8<Lg;omega) h2.objs.size a ↥s (Hs<|Jt al d2) (Hs d2) (Ne.symm<|Hs al) ps .none (λp hp=>(Hs<|Jt (tl p hp) d2,Hs<|tl p hp)) nd ⇑ps 0 _ rfl (Hy _) (_,Hu _ rfl,rfl,rfl) (PlainL.keeps hl2 λb o e=>He _ e).isList hnew3 (λp hp=>?_) hz (λo e=>?_) nD3 λh4 tk4 hd4 hk4=>?_);let(pk,o,n,e,r):=ht p hp;exact(pk.ext λc o J e=>kp3 c o e,o,n,kp3 _ _ e,r);have e:(h2.push {cls:=.type "list_iterator",data:=.fields #[.ref a,.int 0 0]}).get? h2.objs.size=`o:=e;rw[Hu _ rfl]at e;cases e;show (K5.type "list_iterator")≠.type "tuple";decide
 .refine(rfl,h h4 tk4 hd4 λb o e=>hk4 b o ?_ ?_<|kp3 b o e);exact Hs<|Jt (Hj e) d2;exact Hs<|Hj e
end
section
variable {X:Cx}{E:XK}
inductive MP (K:Zf)(H:Hp):↑V->↑(PKy×Lb×V)->Prop|nil:MP K H [] []|cons {t c:Lb}{k:PKy}{v:V}{vs:↑V}{es:↑(PKy×Lb×V)} (e:SqT K H t [.ref c,v]) (q:KeyN K H true c k) (r:MP K H vs es):MP K H (.ref t::vs) ((k ,c,v)::es)
def Df (I:Inv X gV σ H s)(r:MP X.K H vs es):∀ {its:↑K5},Vals vs its->
  ∃ps:↑MU,its=ps.map (λp=>K5.ref p.t)/\ps.map MU.k=es.map (·.1)/\(∀p∈ps ,IsPk X.prog X.w true s.heap p.k p.a/\∃o n,s.heap.get? p.t=`o/\o.cls=.type "tuple"/\o.data=.seq #[.ref p.a,p.v] n)/\KN es (ps.map NC):=by
 induction r with
 |nil=>intro its rv;cases rv;exact([],rfl,rfl,λp hp=>absurd hp HB,.nil)
 | @cons t c k v vs es e q r ih=>
   intro its rv;cases rv with
   |cons ru rr=>
    cases ru;let(ps,e1,h1,h2,h3):=ih rr;let(is,rv2,tp,_):=I.tuple e;let(u,w',rfl,rk,rw'):=vals2 rv2;cases rk;let(o,ho,hc,n,hd):=tp;refine((t,k,c,w')::ps,by rw[Hg,e1],by rw[Hg,Hg,h1],λp hp=>?_,.cons (rfl,rfl,rw') h3);rcases Hd.mp hp with rfl|hp
    exact(iw I q,o,n,ho,hc,hd);exact h2 p hp
def rf (hc:X.calm=true)(hu:X.A.units+64<Lg):CallR X (.type "dict") (λxs H Q=>∃ (a:Lb) (vs:↑V) (es:↑(PKy×Lb×V)) ,xs=[.ref a]/\SqL X.K H a vs/\MP X.K H vs es/\(es.map (·.1)).Nodup/\∀p ep,H p=none->Q (.ref p) (upd H p<|.dN true es ep)):=by
 intro gV s σ H xs us Q I r h;let(a,vs,es,rfl,sq,pp,nd,q):=h;let(u,rfl,ru):=Sk r;cases ru;let(its,rv,pl,hz):=I.list sq;let(ps,rfl,h1,h2,h3):=Df I pp rv;have l1:⇑ps=⇑es:=by have:=congrArg List.length h1;rwa[Hb,Hb]at this
 have l2:=⇑rv;rw[Hb]at l2;refine rc (I.ok.hd hc) ∅ pl (by rw[h1];exact nd) h2 ∅ λh' tk hd kp=>?_;let(o,ds,ep,g1,g2,g3,g4,_,g5):=hd;exact(.ref ↥s,_,I.laid (a:=↥s) (o:=.dN true es ep) (t':=tk) kp (Hc _) (∅,beq_eq_false_iff_ne.mpr<|Ne.symm<|Hs I.big,_,h3,o,ds,g1,g2,g3,g4,g5),rfl,q _ _<|I.hok.fresh<|Hc _)
noncomputable def Qv (w:W):Option (PKy×W):=match w with|.tup [k,v]=>(OG true k).map (· ,v)|_=>none
noncomputable def j5 (ws:↑W):M W:=match ws with
 |[w]=>bd (O1 w) λl=>match P6 Qv l with|some es=>gd (es.map (·.1)).Nodup (pr (.dn true (es.map (·.1)) (es.map (·.2))))|none=>no
 |_=>no
set_option tactic.hygienic true in
theorem B9 :∀ {l:↑W}{vs:↑V}{kvs:↑(PKy×W)},P6 Qv l=`kvs->Rvs X.K o l vs->∃es,MP X.K o.H vs es/\es.map (·.1)=kvs.map (·.1)/\∀p,Rel X.K o->Ex o p->(∀x∈es ,KeyN X.K p.H true x.2.1 x.1)/\Rvs X.K p (kvs.map (·.2)) (es.map (·.2.2))
 |[],vs,kvs,e,r=>by unfold Rvs at r;subst r;cases e;exact([],.nil,rfl,λp J J=>(λx hx=>absurd hx HB,Rvs.nil))
 |w::l,vs,kvs,e,r=>by
  unfold Rvs at r;let(v,r',rfl,h1,h2):=r;unfold P6 at e;cases e1:Qv w with
  |none=>rw[e1]at e;cases e
  |some b=>
   cases e2:P6 Qv l with
   |none=>rw[e1,e2]at e;cases e
   |some c=>
    rw[e1,e2]at e;cases e;let(es,a1,a2,a3):=B9 e2 h2;unfold Qv at e1;split at e1
    .rename_i k x;let(k',ek,rfl):=Hn.mp e1;unfold Rv at h1;let(t,us,rfl,s,ru):=h1;let(vk,vv,rfl,rk,rx):=ru.two;let(c',rfl,kn):=iu ek rk;refine((k' ,c',vv)::es,.cons s kn a1,by rw[Hg,Hg,a2],λp R X'=>?_);let(b1,b2):=a3 p R X';refine(λy hy=>?_,Rvs.cons (rx.mono R X') b2);rcases Hd.mp hy with rfl|hy
     let(c2,e3,kn2):=iu ek<|rk.mono R X';cases e3;exact kn2;exact b1 y hy
    cases e1
def BH:Mz X E (λxs H Q=>∃ (a:Lb) (vs:↑V) (es:↑(PKy×Lb×V)) ,xs=[.ref a]/\SqL X.K H a vs/\MP X.K H vs es/\(es.map (·.1)).Nodup/\∀p ep,H p=none->Q (.ref p) (upd H p<|.dN true es ep)) j5:=λo ws vs Q R rv h=>by
 unfold j5 at h;split at h
 .let(v,rfl,r):=rv.one;let(l,a,us,rfl,s,r,h):=cq R r h;cases e:P6 Qv l with
  |none=>rw[e]at h;exact h.elim
  |some kvs=>
   rw[e]at h;let(nd,h):=h.gd;let(es,a1,a2,a3):=B9 e r;refine(a,us,es,rfl,s,a1,by rw[a2];exact nd,λq ep hq=>?_);let(b1,b2):=a3 (o.mu,o.h,upd o.H q<|.dN true es ep) R<|Ex.new hq;refine Ps.at (p:=(o.mu,o.h,upd o.H q<|.dN true es ep)) (b:=V.ref q) h rfl (Ex.new hq) (R.new hq) ?_;unfold Rv;exact(q,(es ,ep),rfl,aq,λ(k,b,hk,hb,hm)=>Lv.there R (k,b,hk,hb,hm) hq,a2,b1,b2)
 exact h.elim
def yK {l:MG->M ↑W}(hc:X.calm=true)(hu:X.A.units+64<Lg)(hm:X.mg "dict"=none)(ha:JA X E [a] l)(hg:Gl X "dict")(he:LH [a] X.env=(false ,LD a X.env)::LH [] X.env)(hpl:(LG pos<|LH [] X.env).any (·.1)=false):JE X E (.Call (.Name "dict" p) [a] [] pos) (O5 j5 l):=
 (ip (hn:=by decide) (hdb:=by decide) (rf hc hu) hg hm PyProof.Rows.boot_dict ha.h (he:=he) (hpl:=hpl)).imp λσ H Q h=>by let(o,ρ,rfl,R,S,h):=h;exact(o,ρ,rfl,R,S,Ps.bd h λp x vx e1 R1 r1 h1=>BH p x vx Q R1 r1 h1)
structure MQ (prog:K8)(w:K9)(h:La)(v:K5)(k:PKy):Prop where
 ex:∃a o n c t its,v=.ref a/\h.get? a=`o/\o.cls=.type "tuple"/\o.data=.seq #[.ref c,.int k.1 t] n/\IsTup h c its/\IntsAre its.toList k.2/\IsTupleKey (Lc prog w) h k.2 c
def Ay {w:K9}{E:K5->Ld->Prop}{Q:Bool->Ld->Prop}(hu:A.units<Lg)(hv:MQ prog w s.heap v k)(hv':MQ prog w s.heap v' k')(h:Q (O2 (k.2 ,k.1) (k'.2 ,k'.1)) s):
  Lh (Li prog w) A (keyLt' (tuples' false) v v') Q E s:=by
 let(a,o,n,c,t,its,rfl,g1,g2,g3,g4,g5,g6):=hv;let(a',o',n',c',t',its',rfl,q1,q2,q3,q4,q5,q6):=hv';let(l,ks):=k;let(l',ks'):=k';refine kat_lt g1 g3 q1 q3 ?_;show KatLex prog w A false _ Q [(.ref c ,.ref c'),(.int l t ,.int l' t')] 0 s;refine kat_cons<|wpAny_eqBool_tuple (knd:=Lc prog w) hu g6 q6 ?_;unfold O2 at h;by_cases e1:ks=ks'
 .subst e1;rw[bf rfl]at h;rw[bN rfl];refine kat_yes<|kat_cons<|pA ?_;by_cases e2:l=l';subst e2;rw[bN rfl];refine kat_yes<|kat_nil ?_;dsimp only at h;rw[bg<|JH l]at h;exact h;rw[bg e2];exact kat_no<|kat_one _ _<|lt_int h
 rw[aZ e1]at h;rw[bg e1];exact kat_no<|kat_one _ _<|HT.lt_tupInts g4 q4 g5 q5 hu h
def Az (I:Inv X gV σ H s)(h:∃c ,v=.ref c/\KeyN X.K H true c k)(r:RelV v u):MQ X.prog X.w s.heap u k:=by
 let(a,rfl,c,h1,h2):=h;cases r;let(its2,r2,t2,_):=I.tuple h2;let(its,r1,(o,q1,q2,n,q3),_):=I.tuple h1;have t2':=t2;let(o2,g1,g2,n2,g3):=t2';let(u,v,rfl,ru,rv):=r1.two;cases ru;let(t,e):=(show∃t ,v=K5.int k.1 t from rv)
 subst e;exact(_,o,n,_,t,its2.toArray,rfl,q1,q2,q3,t2,by simpa using o8 r2,o2,_,n2,g1,g2,g3,by simpa using jx r2)
noncomputable def P8 (ks:↑PKy):Option (Array Nat):=Q9 ⇑ks λi j=>O2 ((ks.getD i (0 ,[])).2 ,(ks.getD i (0 ,[])).1) ((ks.getD j (0 ,[])).2 ,(ks.getD j (0 ,[])).1)
def wf {vs:↑K5}{ks:↑PKy}{s:Ld}{A:Lf}{E:K5->Ld->Prop}{Q:SortKind->Ld->Prop}(hl:⇑vs=⇑ks)(h0:0<⇑vs)(h:∀ (i:Nat) (v:K5) (k:PKy) ,vs[i]?=`v->ks[i]?=`k->MQ X.prog X.w s.heap v k)(q:Q (tuples' false) s):
  Lh (Li X.prog X.w) A (keyKind' vs.toArray) Q E s:=by
 have fs:∃fs:↑K5,KatTups s.heap vs fs/\⇑fs=⇑vs/\∀f∈fs,Looks (Li X.prog X.w) s.heap (typeOf f) (.type "tuple"):=by
  clear h0
  induction vs generalizing ks with
  |nil=>exact([],trivial,rfl,λf hf=>nomatch hf)
  |cons v vs ih=>
   cases ks with
   |nil=>cases hl
   |cons k ks=>
    let(fs,h1,h2,h3):=ih (ks:=ks) (Iv.inj hl) λi v k a b=>h (i+1) v k a b;let(a,o,n,c,t,its,rfl,g1,g2,g3,(o2,q1,q2,_),_):=h 0 v k rfl rfl;refine(.ref c::fs,KatTups.cons g1 g2 g3 rfl h1,by rw[Hf,Hf,h2],λf hf=>?_);rcases Hd.mp hf with rfl|hf
    rw[<-q2];exact (Looks.ld q1).andThen .now;exact h3 f hf
 let(fs,h1,h2,h3):=fs;exact kat_kind h1 ∅ h3 ↥_ q
def pH (hu:X.A.units+64<Lg):CallR X (.builtin "sorted") (λxs H Q=>∃ (p:Lb) (ys:↑V) (ks:↑PKy) (π:Array Nat) ,xs=[.ref p]/\SqL X.K H p ys/\⇑ys=⇑ks/\(∀ (i:Nat) (v:V) (k:PKy) ,ys[i]?=`v->ks[i]?=`k->∃c,v=.ref c/\KeyN X.K H true c k)/\1<=⇑ks/\⇑ks<=1000/\P8 ks=`π/\π.size=⇑ks/\(∀i∈π.toList ,i<⇑ks)/\
  ∀q,H q=none->Q (.ref q) (upd H q<|.lst<|π.toList.map λi=>ys.getD i .non)):=by
 intro gV s σ H xs us Q I r h;let(p,ys,ks,π,rfl,hq,hl,hr,h1,hz,hs,ps,pl,q):=h;let(u,rfl,ru):=Sk r;cases ru;have at':∀ (its:↑K5) (s':Ld),Vals ys its->Inv X gV σ H s'->∀ (i:Nat) (v:K5) (k:PKy),its[i]?=`v->ks[i]?=`k->MQ X.prog X.w s'.heap v k:=λits s' rv I6 i v k e1 e2=>by
  have il:=⇑rv;obtain⟨y,hy⟩:∃y,ys[i]?=`y:=(_,Hw (by have:=(Hm.mp e1).1;omega))
  let(v',e3,r3):=rv.get hy;rw[e1]at e3;cases e3;exact Az I6 (hr i y k hy e2) r3
 refine j8 (κ:=tuples' false) I hq ∅ ∅ (by rw[hl];exact hs) ∅ (by rw[hl];exact pl) (λits s' A h2 rv I6 Q' hq'=>?_) (λits s' A hA rv I6 a b ha hb Q' hq'=>?_) q;have il:=⇑rv;exact wf (X:=X) (ks:=ks) ∅ ∅ (at' its s' rv I6) hq'
 .have il:=⇑rv;have g:∀i,i<⇑ys->MQ X.prog X.w s'.heap (its.getD i K5.none) (ks.getD i (0 ,[])):=λi hi=>by have e1:its[i]?=some (its[i]'∅):=Hw _;have e2:ks[i]?=some (ks[i]'∅):=Hw _;have:=at' its s' rv I6 i _ _ e1 e2;rw[HR,HR,e1,e2];exact this
  exact Ay ∅ (g a ha) (g b hb) hq'
noncomputable def jP (ws:↑W):M W:=match ws with
 |[w]=>bd (O1 w) λl=>match P6 (OG true) l with
  |some ks=>gd (1<=⇑ks/\⇑ks<=1000) (match P8 ks with
   |some π=>gd (Qi π ⇑ks) (pr<|.tl<|π.toList.map λi=>l.getD i .non)
   |none=>no)
  |none=>no
 |_=>no
def Ab:Mz X E (λxs H Q=>∃ (p:Lb) (ys:↑V) (ks:↑PKy) (π:Array Nat) ,xs=[.ref p]/\SqL X.K H p ys/\⇑ys=⇑ks/\(∀ (i:Nat) (v:V) (k:PKy) ,ys[i]?=`v->ks[i]?=`k->∃c,v=.ref c/\KeyN X.K H true c k)/\1<=⇑ks/\⇑ks<=1000/\P8 ks=`π/\π.size=⇑ks/\(∀i∈π.toList ,i<⇑ks)/\
  ∀q,H q=none->Q (.ref q) (upd H q<|.lst<|π.toList.map λi=>ys.getD i .non)) jP:=λo ws vs Q R rv h=>by
 unfold jP at h;split at h
 .let(v,rfl,r):=rv.one;let(l,a,us,rfl,s,r,h):=cq R r h;cases e:P6 (OG true) l with
  |none=>rw[e]at h;exact h.elim
  |some ks=>
   rw[e]at h;let((h1,h2),h):=h.gd;cases e2:P8 ks with
   |none=>rw[e2]at h;exact h.elim
   |some π=>
    rw[e2]at h;let((p1,p2),h):=h.gd;have ll:=qp e;have lu:=r.len;refine(a,us,ks,π,rfl,s,∅,λi v k e3 e4=>?_,h1,h2,e2,p1,p2,λq hq=>fZ R hq (lx r λi hi=>by rw[<-ll];exact p2 i hi) h);obtain⟨w,ew⟩:∃w,l[i]?=`w:=(_,Hw (by have:=(Hm.mp e4).1;omega))
    let(y,ey,fy):=qq e ew;rw[e4]at ey;cases ey;let(v',ev,rv'):=r.get ew;rw[e3]at ev;cases ev;exact iu fy rv'
 exact h.elim
def sG {l:MG->M ↑W}(hu:X.A.units+64<Lg)(hm:X.mg "sorted"=none)(ha:JA X E [a] l)(hg:Gl X "sorted")(he:LH [a] X.env=(false ,LD a X.env)::LH [] X.env)(hpl:(LG pos<|LH [] X.env).any (·.1)=false):JE X E (.Call (.Name "sorted" p) [a] [] pos) (O5 jP l):=
 di (pH hu) Ab hg hm PyProof.Rows.boot_sorted ha ↥_ ↥_ he hpl
end
end L2
namespace Wd
open PySem L2
noncomputable def LET:Str:="abcdefghijklmnopqrstuvwxyz"
noncomputable def FIG:Str:="0123456789"
noncomputable def Op (c:Nat):Bool:=decide<|c∈LET.cps.toList
noncomputable def Om (c:Nat):Bool:=decide<|c∈FIG.cps.toList
noncomputable def Oj (c:Nat):Bool:=decide<|c∈(LET++FIG).cps.toList
def yQ:LET.cps.toList=Io 97 26:=⋯
def zg:FIG.cps.toList=Io 48 10:=⋯
def Oq {c:Nat}:Op c=true↔97<=c/\c<=122:=by unfold Op;rw[decide_eq_true_eq,yQ,KO];omega
def On {c:Nat}:Om c=true↔48<=c/\c<=57:=by unfold Om;rw[decide_eq_true_eq,zg,KO];omega
noncomputable def Sa:↑Str:=["box","block","put","say","ask","go","if","else","table","stop"]
noncomputable def aU (w:Str):Bool:=decide (1<=⇑w/\⇑w<=8)&&(w.cps.toList.all Op && !decide (w∈Sa))
noncomputable def PF (w:Str):Bool:=decide (1<=⇑w/\⇑w<=3)&&(!(decide (w.cps.toList.head?=some 48) && !decide (w="0"))&&w.cps.toList.all Om)
noncomputable def dC (w:Str):Int:=((PySem.NumText.digitsVal w.cps.toList:Nat):Int)
inductive Exp where|num (n:Int)|box (x:Str)|bin (s:Str)(l r:Exp)
 deriving DecidableEq
noncomputable def OQ (l:↑Nat):Option (Exp×↑Nat):=
 if aU ⟨(l.takeWhile Oj).toArray⟩=true then some (.box ⟨(l.takeWhile Oj).toArray⟩ ,l.dropWhile Oj)
 else if PF ⟨(l.takeWhile Oj).toArray⟩=true then some (.num (dC ⟨(l.takeWhile Oj).toArray⟩) ,l.dropWhile Oj) else none
noncomputable def Nn (f:↑Nat->Option (Exp×↑Nat))(ops:↑Nat):Nat->Exp->↑Nat->Option (Exp×↑Nat)
 |0,e,l=>some (e ,l)
 |_+1,e,[]=>some (e ,[])
 |n+1,e,c::r=>if c∈ops then (match f r with
   |none=>none
   |some (e2 ,r2)=>Nn f ops n (.bin ⟨#[c]⟩ e e2) r2) else some (e ,c::r)
noncomputable def Qb (f:↑Nat->Option (Exp×↑Nat))(ops:↑Nat)(l:↑Nat):Option (Exp×↑Nat):=match f l with|none=>none|some (e ,r)=>Nn f ops ⇑r e r
noncomputable def P4:↑Nat:=[42]
noncomputable def P5:↑Nat:=[43,45]
noncomputable def cR (f:↑Nat->Option (Exp×↑Nat))(r:↑Nat):Option (Exp×↑Nat):=match f r with|some (e ,41::r2)=>some (e ,r2)|_=>none
noncomputable def bX:Nat->↑Nat->Option (Exp×↑Nat)|0,l=>if l.head?=some 40 then none else OQ l|m+1,l=>if l.head?=some 40 then cR (Qb (Qb (bX m) P4) P5) l.tail else OQ l
noncomputable def ci (m:Nat):↑Nat->Option (Exp×↑Nat):=Qb (bX m) P4
noncomputable def fg (m:Nat):↑Nat->Option (Exp×↑Nat):=Qb (ci m) P5
noncomputable def NM (w:Str):Option Exp:=if ⇑w>60 then none else match fg 5 w.cps.toList with|some (e ,[])=>`e|_=>none
def Suf (f:↑Nat->Option (Exp×↑Nat)):Prop:=∀l e r,f l=some (e ,r)->r<:+l
def pS:Suf OQ:=λl e r h=>by
 unfold OQ at h;split at h;cases h;exact KP _
 .split at h;cases h;exact KP _;cases h
set_option tactic.hygienic true in
theorem nz {f:↑Nat->Option (Exp×↑Nat)}(hf:Suf f):∀ (n:Nat) (e:Exp) (l:↑Nat) (e':Exp) (r:↑Nat),Nn f ops n e l=some (e' ,r)->r<:+l
 |0,e,l,e',r,h=>by cases h;exact Kk _
 |_+1,e,[],e',r,h=>by cases h;exact Kk _
 |n+1,e,c::l,e',r,h=>by
  unfold Nn at h;split at h
  .split at h;cases h;rename_i e2 r2 hf2;exact (nz hf n _ r2 e' r h).trans<|(hf l e2 r2 hf2).trans<|List.suffix_cons c l
  cases h;exact Kk _
set_option tactic.hygienic true in
def ii {f:↑Nat->Option (Exp×↑Nat)}(hf:Suf f):Suf (Qb f ops):=λl e r h=>by
 unfold Qb at h;split at h;cases h;rename_i e1 r1 h1;exact (nz hf _ _ _ _ _ h).trans<|hf l e1 r1 h1
set_option tactic.hygienic true in
def pT {f:↑Nat->Option (Exp×↑Nat)}(hf:Suf f):Suf (cR f):=λl e r h=>by
 unfold cR at h;split at h;rename_i e1 r1 h1;cases h;exact (List.suffix_cons 41 r).trans<|hf l e _ h1;cases h
theorem iN:∀m,Suf (bX m)
 |0=>λl e r h=>by
  unfold bX at h;split at h;cases h;exact pS l e r h
 |m+1=>λl e r h=>by
  unfold bX at h;split at h;exact (pT (ii<|ii<|iN m) _ e r h).trans<|List.tail_suffix l;exact pS l e r h
def j7 (m:Nat):Suf (ci m):=ii<|iN m
def nv (m:Nat):Suf (fg m):=ii<|j7 m
def xb {w l r:↑Nat}{p:Nat}(hl:l=w.drop p)(h:r<:+l):r=w.drop (⇑w-⇑r)/\⇑r<=⇑l:=by subst hl;refine(List.suffix_iff_eq_drop.mp<|h.trans<|List.drop_suffix p w,h.length_le)
end Wd
namespace Q
open PySem L2
noncomputable def top (i:Nat):LI:=PySem.Challenge.pw_blockfall_k46_whole_best_is_least.main.body.getD i<|.Pass (0,0,0,0)
abbrev kE:LI:=top 19
abbrev oH:LI:=top 20
abbrev QS:LI:=top 22
abbrev oG:LI:=top 23
abbrev jd:LI:=top 24
abbrev kF:LI:=top 25
abbrev gS:LI:=top 26
abbrev rY:LI:=cB (top 21) 0
abbrev rZ:LI:=cB (top 21) 1
abbrev lq:LI:=cB (top 21) 2
abbrev rX:LI:=cB (top 21) 3
abbrev Q6:LI:=cB (top 21) 4
end Q
namespace Q
open PySem L2 Wd
noncomputable def Sb:↑V:=Sa.map V.str
structure Txt (K:Zf)(mg:Str->Option K5)(CS CN:Lb):Prop where
 cl:Cls K CS
 nw:NoAttr K CS "word"
 np:NoAttr K CS "place"
 mgS:mg "Signs"=some (.ref CS)
 mgN:mg "NoRow"=some (.ref CN)
 exN:PySem.W.excIn K CN Nc "ValueError.__new__"=true
 len:mg "len"=none
 all:mg "all"=none
 int:mg "int"=none
 let_:∃t,mg "LETTERS"=some (.str LET t)
 fig:∃t,mg "FIGURES"=some (.str FIG t)
 tak:∃a,mg "TAKEN_WORDS"=some (.ref a)/\∀H:Hp,SqT K H a Sb
 n8:∃t,mg "LONGEST_NAME"=some (.int 8 t)
 n3:∃t,mg "LONGEST_NUMBER"=some (.int 3 t)
 n60:∃t,mg "LONGEST_EXPRESSION"=some (.int 60 t)
 n5:∃t,mg "DEEPEST_BRACKET"=some (.int 5 t)
def df (h:H p=none)(o:HO):Same H (upd H p o):=λb u q=>by rw[af<|bz q h];exact q
def small {n:Nat}(h:n<=1000):n<=sizeLine:=Jq<|jQ h
def aw {α:Type}{l:↑α}{i:Nat}{x:α}(h:l[i]?=`x):l.take (i+1)=l.take i++[x]:=by let(hi,e):=Hm.mp h;rw[Iw,h];rfl
def E4 {α:Type}{xs:↑α}{i:Int}{v:α}(h0:0<=i)(h:xs[i.toNat]?=`v):atI xs i=`v:=by have q:=jG h;have e:((i.toNat:Nat):Int)=i:=∅;rw[e]at q;exact q
def bE (w:Str):⇑w.cps.toList=⇑w:=by simp [Str.length]
def yesT {A B:Hp->Prop}(h:A H):R8 σ H (λb H3=>if b=true then A H3 else B H3):=by
 show if true=true then A H else B H
 rw[bf rfl];exact h
section
variable {P:K8}{w:K9}{K:Zf}{mg:Str->Option K5}{base:La}{f CS CN:Lb}{fd:L5}
noncomputable def kX:Sp:=λvs H Q J=>∃z:Str,vs=[.str z]/\⇑z<=sizeLine/\∀H',Same H H'->Q (.bl<|aU z) H'
def CY:MH ["word"] ["word"] (ae kE):=(rfl,rfl,rfl,⋯,rfl,⋯,⋯)
def yn:((["sign",".0"]:↑Str)++(["word"]:↑Str).map (hid ["sign",".0"])).Nodup:=⋯
def wr (z:Str):inV (.str z) Sb=decide (z∈Sa):=by
 unfold inV Sb;rw[HZ,Iu,decide_eq_true_eq];constructor
 .rintro⟨v,hv,h⟩
  let(y,hy,rfl):=Hq.mp hv;have:y=z:=by simpa [eVs,eVi] using h
  subst this;exact hy
 intro h;exact(.str z,Hq.mpr (z,h,rfl),by simp [eVs,eVi])
def sY:Sb.all NS=true:=⋯
def AI (F:Fun K "is_name" "is_name" kE f fd)(T:Txt K mg CS CN):FnOk P w K mg base CX0 1 f fd ["word"] kX:=by
 refine F.ok CY (λvs H Q E h=>?_) (λcdv A outer s H vs Q E hr h=>?_);let(z,rfl,_):=h;rfl
 let(z,rfl,hz,q):=h;let(t8,h8):=T.n8;let(tL,hL):=T.let_;let(aT,hT,sT):=T.tak
 refine(_,ay (gG (PW.pt (xB (dE xW (dh Nj rfl T.len PySem.boot_len<|ai (pv 0) P9) Qf<|eA _)
   (se<|dE nQ (dh Nj rfl T.len PySem.boot_len<|ai (pv 0) P9) (dg (v:=.int 8) rfl h8 (_,rfl))<|eA _))) (aR<|cK Qd) Qo)
  (aR (cK (sx (dh (mE rfl) rfl T.all PyProof.Rows.boot_all (ai (oS (hs:=by intro _;rfl) (ls:=["sign",".0"]) rfl (.of<|ae kE) (xJ<|pv 0) (λJ J J J=>bh (i:=0) yn rfl (Or.inl rfl)<|.inr rfl) (λJ J J J=>oR)
      (λJ J J J=>io PX (pv 0) (dg (v:=.str LET) rfl hL (_,rfl))<|by with_unfolding_all rfl)) P9))
   (sw<|io P1 (pv 0) (dg (v:=.ref aT) rfl hT rfl)<|by with_unfolding_all rfl)))),?_)
 refine(_,rfl,z,rfl,hz,_,_,rfl,rfl,_,rfl,?_);have no:¬(1<=⇑z/\⇑z<=8)->aU z=false:=λh=>by unfold aU;rw[bg h];rfl
 refine Ou (λc=>?_) (λc=>?_);have c1:(⇑z:Int)<1:=of_decide_eq_true c;refine Ow ?_;have:=q H<|Same.refl _;rw[no ∅]at this;exact this
 .have c1:¬(⇑z:Int)<1:=of_decide_eq_false<|IM.mpr c;refine(_,rfl,z,rfl,hz,_,_,rfl,rfl,_,rfl,?_);refine Ou (λc=>?_) (λc=>?_);have c2:(⇑z:Int)>8:=of_decide_eq_true c;have:=q H<|Same.refl _;rw[no ∅]at this;exact this
  .have c2:¬(⇑z:Int)>8:=of_decide_eq_false<|IM.mpr c;have yes:aU z=(z.cps.toList.all Op && !decide (z∈Sa)):=by unfold aU;rw[bN (by omega:1<=⇑z/\⇑z<=8)];rfl
   refine(rfl,_,rfl,z,rfl,qW (λi ys H'=>H'=H/\ys=((z.cps.toList.take i).map Op).map V.bl) (rfl,rfl) ?_ ?_)
   .rintro i c0 ys H' hc ⟨rfl,rfl⟩
    refine(rfl,rfl,yesT ?_);refine(_,rfl,_,_,rfl,rfl,?_,rfl,?_);rw[Hb,Hb,H9];exact jQ (by rw[bE];omega);rw[aw hc,Hh,Hh,sV];rfl
   .rintro ys H' ⟨rfl,rfl⟩ D hD
    refine(D,(z.cps.toList.take z.cps.size).map Op,rfl,SqL.of aq,_,rfl,?_);have ea:((z.cps.toList.take z.cps.size).map Op).all id=z.cps.toList.all Op:=by have:z.cps.size=⇑z.cps.toList:=⇑_;rw[this,Hz,JJ];rfl
    rw[ea];cases hb:z.cps.toList.all Op with
    |false=>
     refine Ov ?_;have this:∀L,Q _ (upd H' D<|.lst L):=λL=>q _<|df hD _;rw[yes,hb]at this;exact this _
    |true=>
     refine Ow (_,rfl,aT,Sb,rfl,.inr<|sT _,rfl,sY,?_);have this:∀L,Q _ (upd H' D<|.lst L):=λL=>q _<|df hD _;rw[yes,hb,<-wr]at this;exact this _
noncomputable def RH:Sp:=λvs H Q J=>∃z:Str,vs=[.str z]/\⇑z<=sizeLine/\∀H',Same H H'->Q (.bl<|PF z) H'
def scNum:MH ["word"] ["word"] (ae oH):=(rfl,rfl,rfl,⋯,rfl,⋯,⋯)
def DJ (F:Fun K "is_number" "is_number" oH f fd)(T:Txt K mg CS CN):FnOk P w K mg base CX0 1 f fd ["word"] RH:=by
 refine F.ok scNum (λvs H Q E h=>?_) (λcdv A outer s H vs Q E hr h=>?_);let(z,rfl,_):=h;rfl
 let(z,rfl,hz,q):=h;let(t3,h3):=T.n3;let(tL,hL):=T.fig
 refine(_,ay (gG (PW.pt (xB (dE xW (dh Nj rfl T.len PySem.boot_len<|ai (pv 0) P9) Qf<|eA _)
   (se<|dE nQ (dh Nj rfl T.len PySem.boot_len<|ai (pv 0) P9) (dg (v:=.int 3) rfl h3 (_,rfl))<|eA _))) (aR<|cK Qd) Qo)
  (ay (gG (PW.pt<|xC (dE PU (qi o7 (pv 0) Qf<|λJ J=>rfl) Qh<|eA _)<|uo<|dE P0 (pv 0) Qh<|eA _) (aR<|cK Qd) Qo)
  (aR (cK (dh (mE rfl) rfl T.all PyProof.Rows.boot_all (ai (oS (hs:=by intro _;rfl) (ls:=["sign",".0"]) rfl (.of<|ae oH) (xJ<|pv 0) (λJ J J J=>bh (i:=0) yn rfl (Or.inl rfl)<|.inr rfl) (λJ J J J=>oR)
      (λJ J J J=>io PX (pv 0) (dg (v:=.str FIG) rfl hL (_,rfl))<|by with_unfolding_all rfl)) P9))))),?_)
 refine(_,rfl,z,rfl,hz,_,_,rfl,rfl,_,rfl,?_);have no:¬(1<=⇑z/\⇑z<=3)->PF z=false:=λh=>by unfold PF;rw[bg h];rfl
 refine Ou (λc=>?_) (λc=>?_);have c1:(⇑z:Int)<1:=of_decide_eq_true c;refine Ow ?_;have:=q H<|Same.refl _;rw[no ∅]at this;exact this
 .have c1:¬(⇑z:Int)<1:=of_decide_eq_false<|IM.mpr c;refine(_,rfl,z,rfl,hz,_,_,rfl,rfl,_,rfl,?_);refine Ou (λc=>?_) (λc=>?_);have c2:(⇑z:Int)>3:=of_decide_eq_true c;have:=q H<|Same.refl _;rw[no ∅]at this;exact this
  .have c2:¬(⇑z:Int)>3:=of_decide_eq_false<|IM.mpr c;have yes:PF z=(!(decide (z.cps.toList.head?=some 48) && !decide (z="0"))&&z.cps.toList.all Om):=by unfold PF;rw[bN (by omega:1<=⇑z/\⇑z<=3)];rfl
   obtain⟨c0,r0,e0⟩:∃c0 r0,z.cps.toList=c0::r0:=by
    cases h:z.cps.toList with|nil=>have:=bE z;rw[h]at this;simp at this;omega|cons a b=>exact(a,b,rfl)
   refine(_,rfl,z,0,c0,rfl,rfl,hz,by rw[e0];exact E4 ↥_ rfl,rfl,_,rfl,?_);have h48:decide (V.str ⟨#[c0]⟩=V.str "0")=decide (z.cps.toList.head?=some 48):=by
    rw[e0,decide_eq_decide];constructor
    .intro h;have h1:=V.str.inj h;have h2:(#[c0]:Array Nat)=("0":Str).cps:=congrArg Str.cps h1;have h3:("0":Str).cps= #[48]:=⋯;rw[h3]at h2;have:c0=48:=by simpa using h2
     subst this;rfl
    .intro h;have:c0=48:=by simpa using h
     subst this;have h3:(⟨#[48]⟩:Str)="0":=⋯;rw[h3]
   have fin:(!(decide (z.cps.toList.head?=some 48) && !decide (z="0")))=true->tRet (tCB (λxs H Q=>∃ (p:Lb) (bs:↑Bool) ,xs=[.ref p]/\SqL K H p (bs.map V.bl)/\Q (.bl<|bs.all id) H)<|RY (RX ["word"] ["sign",".0"] (iStr<|R7 0) (NZ 0) R8<|tOp (λx y H Q=>∃i j ,x=.str i/\y=.str j/\Q (.bl<|!(K6.Str.occurrences j i 0 ⇑j 1).isEmpty) H) (R7 0)<|tC<|.str FIG) R5) {nx:=λJ H'=>Q .non H',rt:=Q} (RP ["word"] [.str z]) H:=by
    intro hb;refine(rfl,_,rfl,z,rfl,qW (λi ys H'=>H'=H/\ys=((z.cps.toList.take i).map Om).map V.bl) (rfl,rfl) ?_ ?_)
    .rintro i c0 ys H' hc ⟨rfl,rfl⟩
     refine(rfl,rfl,yesT ?_);refine(_,rfl,_,_,rfl,rfl,?_,rfl,?_);rw[Hb,Hb,H9];exact jQ (by rw[bE];omega);rw[aw hc,Hh,Hh,sV];rfl
    .rintro ys H' ⟨rfl,rfl⟩ D hD
     refine(D,(z.cps.toList.take z.cps.size).map Om,rfl,SqL.of aq,?_);have ea:((z.cps.toList.take z.cps.size).map Om).all id=z.cps.toList.all Om:=by have:z.cps.size=⇑z.cps.toList:=⇑_;rw[this,Hz,JJ];rfl
     rw[ea];have this:∀L,Q _ (upd H' D<|.lst L):=λL=>q _<|df hD _;rw[yes,hb,Jj]at this;exact this _
   rw[h48];refine Ou (λc=>?_) (λc=>?_)
   .refine(_,rfl,rfl,_,rfl,?_);have e2:decide (V.str z=V.str "0")=decide (z="0"):=by rw[decide_eq_decide];exact(V.str.inj,congrArg V.str)
    rw[e2];refine Ou (λc2=>?_) (λc2=>?_);have:=q H<|Same.refl _;rw[yes,c,c2]at this;exact this;exact fin (by rw[c,IM.mpr c2];rfl)
   exact fin (by rw[IM.mpr c];rfl)
end
end Q
namespace Q
open PySem L2 Wd
structure CF (P:K8)(w:K9)(K:Zf)(mg:Str->Option K5)(base:La)(CX:CXT)(k:Nat)(x:Str)(f:Lb)(fd:L5)(ps:↑Str)(sp:Sp):Prop where
 ok:FnOk P w K mg base CX k f fd ps sp
 bi:Binds K fd ps []
 kp:K2 K (.ref f)=true
 mg:mg x=some (.ref f)
structure CM (P:K8)(w:K9)(K:Zf)(mg:Str->Option K5)(base:La)(CX:CXT)(k:Nat)(C:Lb)(m:Str)(f:Lb)(fd:L5)(ps:↑Str)(sp:Sp):Prop where
 ok:FnOk P w K mg base CX k f fd ps sp
 bi:Binds K fd ps []
 me:MK K C m f
def wO:¬(("word":Str)="place"):=⋯
noncomputable def NV (z:Str)(p:Int):↑(Str×V):=Qq "place" (.int p)<|Qq "word" (.str z) []
def kM (z:Str)(p:Int):NV z p=([("word" ,V.str z),("place" ,V.int p)]:↑(Str×V)):=by
 show (if ("word":Str)="place" then [(("word":Str) ,V.int p)] else (("word":Str) ,V.str z)::Qq "place" (V.int p) [])=([("word" ,V.str z),("place" ,V.int p)]:↑(Str×V));rw[aZ wO]
 all_goals rfl
def iE (z:Str)(p:Int):(NV z p).lookup ("word":Str)=some (.str z):=by unfold NV;rw[cN,aZ wO,cN,bf rfl]
def c9 (z:Str)(p:Int):(NV z p).lookup ("place":Str)=some (.int p):=by unfold NV;rw[cN,bf rfl]
def cY (z:Str)(p:Int){m:Str}(h1:¬m="place")(h2:¬m="word"):(NV z p).lookup m=none:=by
 unfold NV;rw[cN,aZ h1,cN,aZ h2]
 all_goals rfl
def qP (z:Str)(p y:Int):Qq "place" (.int y) (NV z p)=NV z y:=by rw[kM,kM];show (if ("word":Str)="place" then _ else (("word":Str) ,V.str z)::(if ("place":Str)="place" then [(("place":Str) ,V.int y)] else _))=([("word" ,V.str z),("place" ,V.int y)]:↑(Str×V));rw[aZ wO,bf rfl]
def SgAt (C:Lb)(H:Hp)(a:Lb)(z:Str)(p:Nat):Prop:=⇑z<=sizeLine/\p<=⇑z/\∃dx,H a=some (.ins C dx<|NV z (p:Int))
def Moved (H H':Hp)(a:Lb):Prop:=∀b o,b≠a->H b=`o->H' b=`o
def Moved.refl (H:Hp)(a:Lb):Moved H H a:=λJ J J h=>h
def Moved.trans (x:Moved H H1 a)(y:Moved H1 H2 a):Moved H H2 a:=λb o hb h=>y b o hb<|x b o hb h
def Moved.same (x:Same H H1):Moved H H1 a:=λb o J h=>x b o h
def ir (o:HO):Moved H (upd H a o) a:=λb u hb h=>by rw[af hb];exact h
def SgAt.same {z:Str}{p:Nat}(g:Same H H')(h:SgAt C H a z p):SgAt C H' a z p:=let (h1,h2,dx,e):=h;(h1,h2,dx,g _ _ e)
noncomputable def cT (z:Str)(p:Nat)(y:Str):Bool:=match z.cps.toList.drop p with|[]=>false|c::_=>decide<|c∈y.cps.toList
section
variable {P:K8}{w:K9}{K:Zf}{mg:Str->Option K5}{base:La}{f CS CN fD fS:Lb}{fd fdD fdS:L5}
noncomputable def uc (C:Lb):Sp:=λvs H Q J=>∃ (a dx:Lb) (z:Str),vs=[.ref a,.str z]/\H a=some (.ins C dx [])/\⇑z<=sizeLine/\∀H',Moved H H' a->SgAt C H' a z 0->Q .non H'
def Ag:MH ["self","word"] ["self","word"] (ae rY):=(rfl,rfl,rfl,⋯,rfl,⋯,⋯)
def yd (F:Fun K "__init__" "Signs.__init__" rY f fd)(T:Txt K mg CS CN):FnOk P w K mg base CX0 1 f fd ["self","word"] (uc CS):=by
 refine F.ok Ag (λvs H Q E h=>?_) (λcdv A outer s H vs Q E hr h=>?_);let(a,dx,z,rfl,_):=h;rfl
 let(a,dx,z,rfl,hp,hz,k):=h;refine(_,ay (si (pv 0) (pv 1) rfl)<|aR<|si (pv 0) Qf rfl,?_);refine(_,rfl,_,rfl,a,CS,dx,[],rfl,hp,T.cl,T.nw,(by show 0<1000;decide),_,rfl,a,CS,dx,_,rfl,aq,T.cl,T.np,(by show 1<1000;decide),?_);exact k _ ((ir _).trans<|ir _) (hz,Hy _,dx,aq)
noncomputable def oA (C:Lb):Sp:=λvs H Q J=>∃ (a:Lb) (z:Str) (p:Nat),vs=[.ref a]/\SgAt C H a z p/\Q (.bl<|decide<|p=⇑z) H
def CZ:MH ["self"] ["self"] (ae rZ):=(rfl,rfl,rfl,⋯,rfl,⋯,⋯)
def AL (F:Fun K "is_done" "Signs.is_done" rZ f fd)(T:Txt K mg CS CN):FnOk P w K mg base CX0 1 f fd ["self"] (oA CS):=by
 refine F.ok CZ (λvs H Q E h=>?_) (λcdv A outer s H vs Q E hr h=>?_);let(a,z,p,rfl,_):=h;rfl
 let(a,z,p,rfl,(hz,hp,dx,ha),k):=h;refine(_,aR<|cK<|io PU (fk (pv 0) rfl) (dh Nj rfl T.len PySem.boot_len<|ai (fk (pv 0) rfl) P9)<|eA _,?_);refine(_,rfl,a,CS,dx,_,_,rfl,ha,T.cl,T.np,c9 _ _,_,rfl,a,CS,dx,_,_,rfl,ha,T.cl,T.nw,iE _ _,z,rfl,hz,rfl,?_);have e:decide (V.int (p:Int)=V.int (⇑z:Int))=decide (p=⇑z):=by rw[decide_eq_decide];exact(λh=>by have:=V.int.inj h;omega,λh=>by rw[h])
 show Q (.bl<|decide<|V.int (p:Int)=V.int (⇑z:Int)) H;rw[e];exact k
noncomputable def dM (C:Lb):Sp:=λvs H Q J=>∃ (a:Lb) (z:Str) (p:Nat) (y:Str),vs=[.ref a,.str y]/\SgAt C H a z p/\Q (.bl<|cT z p y) H
def xp:MH ["self","wanted"] ["self","wanted"] (ae lq):=(rfl,rfl,rfl,⋯,rfl,⋯,⋯)
def B2 {z:Str}{p:Nat}(h:p<⇑z):∃c,z.cps.toList[p]?=`c/\z.cps.toList.drop p=c::z.cps.toList.drop (p+1):=by
 have hl:p<⇑z.cps.toList:=by rw[bE];exact h
 exact(z.cps.toList[p],Hw hl,IU hl)
def vM (F:Fun K "stands_one_of" "Signs.stands_one_of" lq f fd)(T:Txt K mg CS CN)(M:CM P w K mg base CX0 1 CS "is_done" fD fdD ["self"] (oA CS)):FnOk P w K mg base CX0 2 f fd ["self","wanted"] (dM CS):=by
 refine F.ok xp (λvs H Q E h=>?_) (λcdv A outer s H vs Q E hr h=>?_);let(a,z,p,y,rfl,_):=h;rfl
 let(a,z,p,y,rfl,S,k):=h;let(hz,hp,dx,ha):=id S;refine(_,aR (cK<|sx (Dl<|d7 (ht:=by rfl) (pv 0) T.cl M.me M.ok hr M.bi .nil Qc)<|sw<|io PX (qi o7 (fk (pv 0) rfl) (fk (pv 0) rfl)<|λJ J=>rfl) (pv 1)<|by with_unfolding_all rfl),?_);refine(_,rfl,a,dx,_,rfl,ha,cY _ _ ⋯ ⋯,a,z,p,rfl,S,_,rfl,_,rfl,?_);by_cases hd:p=⇑z
 .rw[bN hd];refine Ov ?_;have e:cT z p y=false:=by unfold cT;rw[KQ<|by rw[bE];omega]
  rw[e]at k;exact k
 .rw[bg hd];let(c,hc,hdr):=B2 (z:=z) (p:=p) ∅;refine Ow (_,rfl,a,CS,dx,_,_,rfl,ha,T.cl,T.nw,iE _ _,_,rfl,a,CS,dx,_,_,rfl,ha,T.cl,T.np,c9 _ _,z,(p:Int),c,rfl,rfl,hz,jG hc,_,rfl,_,_,rfl,rfl,?_);have e:cT z p y=decide (c∈y.cps.toList):=by unfold cT;rw[hdr]
  rw[e]at k;rw[sV];exact k
noncomputable def jO (C:Lb):Sp:=λvs H Q J=>∃ (a:Lb) (z:Str) (p:Nat) (c:Nat),vs=[.ref a]/\SgAt C H a z p/\z.cps.toList[p]?=`c/\∀H',Moved H H' a->SgAt C H' a z (p+1)->Q (.str ⟨#[c]⟩) H'
def Ri:MH ["self","sign"] ["self"] (ae rX):=(rfl,rfl,rfl,⋯,rfl,⋯,⋯)
def jq {z:Str}{p c:Nat}(h:z.cps.toList[p]?=`c):p<⇑z:=by rw[<-bE];exact (Hm.mp h).1
def AG (F:Fun K "take_sign" "Signs.take_sign" rX f fd)(T:Txt K mg CS CN):FnOk P w K mg base CX0 1 f fd ["self"] (jO CS):=by
 refine F.ok Ri (λvs H Q E h=>?_) (λcdv A outer s H vs Q E hr h=>?_);let(a,z,p,c,rfl,_):=h;rfl
 let(a,z,p,c,rfl,(hz,hp,dx,ha),hc,k):=h;refine(_,ay (dB (i:=1) Ri.nd rfl (Or.inl rfl)<|qi o7 (fk (pv 0) rfl) (fk (pv 0) rfl)<|λJ J=>rfl)<|ay (nK (pv 0) Qf y7)<|aR<|cK<|pv 1,?_);refine(_,rfl,a,CS,dx,_,_,rfl,ha,T.cl,T.nw,iE _ _,_,rfl,a,CS,dx,_,_,rfl,ha,T.cl,T.np,c9 _ _,z,(p:Int),c,rfl,rfl,hz,jG hc,?_);refine(_,rfl,a,CS,dx,_,_,rfl,ha,T.cl,T.np,c9 _ _,_,_,rfl,rfl,dx,_,ha,(by rw[kM];show 2<1000;decide),_,rfl,?_);refine k _ (ir _) (hz,jq hc,dx,?_);rw[aq,qP];rfl
noncomputable def RI (C:Lb):Sp:=λvs H Q J=>∃ (a:Lb) (z:Str) (p:Nat) (y:Str),vs=[.ref a,.str y]/\SgAt C H a z p/\
 ∀H',Moved H H' a->SgAt C H' a z (p+⇑((z.cps.toList.drop p).takeWhile λc=>decide<|c∈y.cps.toList))->Q (.str ⟨((z.cps.toList.drop p).takeWhile λc=>decide<|c∈y.cps.toList).toArray⟩) H'
def Rh:MH ["self","wanted","begin"] ["self","wanted"] (ae Q6):=(rfl,rfl,rfl,⋯,rfl,⋯,⋯)
set_option tactic.hygienic true in
def DI (F:Fun K "run_of" "Signs.run_of" Q6 f fd)(T:Txt K mg CS CN)(M:CM P w K mg base CX0 2 CS "stands_one_of" fS fdS ["self","wanted"] (dM CS)):FnOk P w K mg base CX0 3 f fd ["self","wanted"] (RI CS):=by
 refine F.ok Rh (λvs H Q E h=>?_) (λcdv A outer s H vs Q E hr h=>?_);let(a,z,p,y,rfl,_):=h;rfl
 let(a,z,p,y,rfl,S,k):=h;let(hz,hp,dx,ha):=id S
 refine(_,ay (dB (i:=2) Rh.nd rfl (Or.inl rfl)<|fk (pv 0) rfl)
  (ay (lB LQ.never (fY<|f7 (hst:=by rfl) (hpl:=by rfl) (ht:=by rfl) (pv 0) T.cl M.me M.ok hr M.bi .nil Qc<|ai (pv 1) P9)<|aR<|nK (pv 0) Qf y7)
  (aR<|cK<|qh Ry (fk (pv 0) rfl) (oQ<|pv 2)<|oQ<|fk (pv 0) rfl)),?_)
 refine(_,rfl,a,CS,dx,_,_,rfl,ha,T.cl,T.np,c9 _ _,?_)
 refine(λm σ H'=>∃j,σ=[some<|.ref a,some<|.str y,some<|.int (p:Int)]/\Moved H H' a/\SgAt CS H' a z (p+j)/\m=⇑z-(p+j)/\
  (z.cps.toList.drop p).takeWhile (λc=>decide<|c∈y.cps.toList)=(z.cps.toList.drop p).take j++(z.cps.toList.drop<|p+j).takeWhile (λc=>decide<|c∈y.cps.toList)/\j<=⇑(z.cps.toList.drop p),(_,0,rfl,Moved.refl _ _,S,rfl,⇑_,Hy _),?_)
 rintro m σ H' ⟨j,rfl,mv,S',rfl,tw,jl⟩
 let(hz',hp',dx',ha'):=id S';refine(_,rfl,a,dx',_,rfl,ha',cY _ _ ⋯ ⋯,_,rfl,a,z,p+j,y,rfl,S',_,rfl,?_);refine Ou (λc=>?_) (λc=>?_)
 .have lt:p+j<⇑z:=by
   rcases Nat.lt_or_ge (p+j) ⇑z with h|h
   exact h;unfold cT at c;rw[KQ<|by rw[bE];exact h]at c;cases c
  let(c0,hc0,hdr):=B2 lt;have cw:decide (c0∈y.cps.toList)=true:=by unfold cT at c;rw[hdr]at c;exact c
  refine(_,λσ' H'' h=>h,(_,rfl,a,CS,dx',_,_,rfl,ha',T.cl,T.np,c9 _ _,_,_,rfl,rfl,dx',_,ha',(by rw[kM];show 2<1000;decide),?_));refine(⇑z-(p+(j+1)),∅,j+1,rfl,mv.trans<|ir _,(hz,∅,dx',?_),rfl,?_,?_);rw[aq,qP];show some (HO.ins CS dx'<|NV z<|((p+j:Nat):Int)+1)=some (HO.ins CS dx'<|NV z ((p+(j+1):Nat):Int));have:((p+j:Nat):Int)+1=((p+(j+1):Nat):Int):=∅;rw[this]
  .rw[tw,hdr,KR,bf cw];have:(z.cps.toList.drop p)[j]?=`c0:=by rw[J3];exact hc0
   rw[aw this,HF];rfl
  rw[Ir,bE];omega
 .have tn:(z.cps.toList.drop<|p+j).takeWhile (λc=>decide<|c∈y.cps.toList)=[]:=by
   unfold cT at c;split at c;rename_i h;rw[h];rfl;rename_i c1 r1 h;rw[h,KR,aZ c]
  rw[tn,HL]at tw;have tl:⇑((z.cps.toList.drop p).takeWhile λc=>decide<|c∈y.cps.toList)=j:=by rw[tw,H9];omega
  refine(_,rfl,a,CS,dx',_,_,rfl,ha',T.cl,T.nw,iE _ _,_,rfl,_,rfl,_,rfl,a,CS,dx',_,_,rfl,ha',T.cl,T.np,c9 _ _,_,rfl,z,rfl,hz,?_);have q:=k H' mv (by rw[tl];exact S');rw[StrLaws.sliceText_nat z (a:=p) (b:=p+j) ∅ hp',KS,<-tw];exact q
end
end Q
namespace Q
open PySem L2 Wd
noncomputable def IsE (H:Hp):Exp->V->Prop|.num n,v=>∃p,v=.ref p/\H p=some (.tup [.str "number",.int n])|.box x,v=>∃p,v=.ref p/\H p=some (.tup [.str "box",.str x])|.bin s l r,v=>∃p a b,v=.ref p/\H p=some (.tup [.str s,a,b])/\IsE H l a/\IsE H r b
theorem IsE.mono (g:Same H H'):∀ {e:Exp}{v:V},IsE H e v->IsE H' e v
 |.num _,_,(p,e,h)=>(p,e,g _ _ h)
 |.box _,_,(p,e,h)=>(p,e,g _ _ h)
 |.bin _ _ _,_,(p,a,b,e,h,h1,h2)=>(p,a,b,e,g _ _ h,h1.mono g,h2.mono g)
def rJ {H:Hp}{a p C dx:Lb}{fs:↑(Str×V)}{xs:↑V}(ha:H a=some (.ins C dx fs))(h:H p=some (.tup xs)):p≠a:=λz=>by rw[z,ha]at h;cases h
theorem IsE.moved {fs:↑(Str×V)}(ha:H a=some (.ins C dx fs))(g:Moved H H' a):∀ {e:Exp}{v:V},IsE H e v->IsE H' e v
 |.num _,_,(p,e,h)=>(p,e,g _ _ (rJ ha h) h)
 |.box _,_,(p,e,h)=>(p,e,g _ _ (rJ ha h) h)
 |.bin _ _ _,_,(p,x,y,e,h,h1,h2)=>(p,x,y,e,g _ _ (rJ ha h) h,h1.moved ha g,h2.moved ha g)
noncomputable def gC (C CN:Lb)(H:Hp)(a:Lb)(z:Str)(Q:VK)(E:XK):Option (Exp×↑Nat)->Prop|some (e ,r)=>∀v H',Moved H H' a->SgAt C H' a z (⇑z-⇑r)->IsE H' e v->Q v H'|none=>∀H',Moved H H' a->E (.ref CN) none H'
noncomputable def dR (C CN:Lb)(fP:Nat->↑Nat->Option (Exp×↑Nat))(m:Nat):Sp:=λvs H Q E=>∃ (a:Lb) (z:Str) (p:Nat),vs=[.ref a,.int<|5-(m:Int)]/\SgAt C H a z p/\gC C CN H a z Q E (fP m<|z.cps.toList.drop p)
noncomputable def brP:Nat->↑Nat->Option (Exp×↑Nat)|0,_=>none|m+1,r=>cR (fg m) r
def wx (m:Nat)(l:↑Nat):bX m l=if l.head?=some 40 then brP m l.tail else OQ l:=by cases m<;>rfl
noncomputable def RD (C CN:Lb)(m:Nat):Sp:=λvs H Q E=>∃ (a:Lb) (z:Str) (p:Nat) (r:↑Nat),vs=[.ref a,.int<|6-(m:Int)]/\m<=5/\SgAt C H a z p/\z.cps.toList.drop p=40::r/\gC C CN H a z Q E (brP m r)
def mz {f:↑Nat->Option (Exp×↑Nat)}:∀ {n:Nat}{l:↑Nat},(∀c r ,l=c::r->¬c∈ops)->Nn f ops n e l=some (e ,l)|0,_,_=>rfl|_+1,[],_=>rfl|_+1,c::r,h=>by unfold Nn;rw[aZ<|h c r rfl]
def Ca:("+-":Str).cps.toList=P5:=⋯
def Cb:("*":Str).cps.toList=P4:=⋯
def FP:("(":Str).cps.toList=[40]:=⋯
def FO:(")":Str).cps.toList=[41]:=⋯
def qS {z:Str}{p:Nat}(hp:p<=⇑z):⇑z-⇑(z.cps.toList.drop p)=p:=by rw[Ir,bE];omega
def gA {z:Str}{p c:Nat}(h:z.cps.toList.drop p=c::r):z.cps.toList[p]?=`c/\z.cps.toList.drop (p+1)=r:=by
 refine(?_,?_)
 .have:(z.cps.toList.drop p)[0]?=`c:=by rw[h];rfl
  rw[J3]at this;exact this
 have:=congrArg (List.drop 1) h;rw[List.drop_drop]at this;exact this
def zH {f:↑Nat->Option (Exp×↑Nat)}(h:f r=none):cR f r=none:=by unfold cR;rw[h]
def BR {f:↑Nat->Option (Exp×↑Nat)}(h:f r=some (e ,41::r2)):cR f r=some (e ,r2):=by unfold cR;rw[h];rfl
set_option tactic.hygienic true in
def zG {f:↑Nat->Option (Exp×↑Nat)}(h:f r=some (e ,r1))(h2:¬r1.head?=some 41):cR f r=none:=by
 unfold cR;rw[h];split;rename_i heq;cases heq;exact absurd rfl h2;rfl
def jF {C:Lb}{H:Hp}{a:Lb}{z:Str}{p:Nat}(h:r<:+z.cps.toList.drop p):z.cps.toList.drop (⇑z-⇑r)=r:=by have:=(xb (w:=z.cps.toList) rfl h).1;rw[bE]at this;exact this.symm
section
variable {P:K8}{w:K9}{K:Zf}{mg:Str->Option K5}{base:La}{f CS CN fG fS fK:Lb}{fd fdG fdS fdK:L5}
def Rj:MH ["signs","depth","e","sign"] ["signs","depth"] (ae oG):=(rfl,rfl,rfl,⋯,rfl,⋯,⋯)
def qt {m k:Nat}(hk:2<=k)(F:Fun K "read_terms" "read_terms" oG f fd)(T:Txt K mg CS CN)(G:CF P w K mg base (CXx P w) k "read_factors" fG fdG ["signs","depth"] (dR CS CN ci m))
  (MS:CM P w K mg base CX0 2 CS "stands_one_of" fS fdS ["self","wanted"] (dM CS))(MT:CM P w K mg base CX0 1 CS "take_sign" fK fdK ["self"] (jO CS)):FnOk P w K mg base (CXx P w) (k+1) f fd ["signs","depth"] (dR CS CN fg m):=by
 refine F.okX Rj (λvs H Q E h=>?_) (λcdv A outer s H vs Q E hr h=>?_);let(a,z,p,rfl,_):=h;rfl
 let(a,z,p,rfl,S,k0):=h
 refine(_,ay (dB (i:=2) Rj.nd rfl (Or.inl rfl)<|dF G.ok hr rfl G.mg G.kp G.bi .nil d8<|ai (pv 0)<|ai (pv 1) P9)
  (ay (lB LQ.leaving (fY<|f7 (hst:=by rfl) (hpl:=by rfl) (ht:=by rfl) (pv 0) T.cl MS.me MS.ok (hr.mono hk) MS.bi .nil Qc<|ai Qh P9)
   (ay (dB (i:=3) Rj.nd rfl (Or.inl rfl)<|d7 (ht:=by rfl) (pv 0) T.cl MT.me MT.ok (hr.mono ∅) MT.bi .nil Qc)
   (aR<|dB (i:=2) Rj.nd rfl (Or.inl rfl)<|jV<|ai (pv 3)<|ai (pv 2)<|ai (dF G.ok hr rfl G.mg G.kp G.bi .nil d8<|ai (pv 0)<|ai (pv 1) P9) P9)))
  (aR<|cK<|pv 2)),?_)
 have sufG:Suf (ci m):=j7 m;refine(_,rfl,_,rfl,a,z,p,rfl,S,?_);have k1:gC CS CN H a z Q E (Qb (ci m) P5<|z.cps.toList.drop p):=k0;unfold Qb at k1;cases hG:ci m (z.cps.toList.drop p) with
 |none=>
  rw[hG]at k1;exact λH' mv=>k1 H' mv
 |some er=>
  let(e1,r1):=er;rw[hG]at k1;have k1:gC CS CN H a z Q E (Nn (ci m) P5 ⇑r1 e1 r1):=k1;intro v1 H1 mv1 S1 i1;have b1:z.cps.toList.drop (⇑z-⇑r1)=r1:=jF (C:=CS) (H:=H) (a:=a)<|sufG _ _ _ hG;generalize hR:Nn (ci m) P5 ⇑r1 e1 r1=R at k1
  refine(λmm σ H'=>∃ (v:V) (e:Exp) (p' n:Nat) (sg:Option V),σ=[some<|.ref a,some<|.int<|5-(m:Int),some v,sg]/\Moved H H' a/\SgAt CS H' a z p'/\IsE H' e v/\⇑(z.cps.toList.drop p')<=n/\
   Nn (ci m) P5 n e (z.cps.toList.drop p')=R/\mm=⇑z-p',(_,v1,e1,⇑z-⇑r1,⇑r1,none,rfl,mv1,S1,i1,by rw[b1];exact Hc _,by rw[b1];exact hR,rfl),?_)
  rintro mm σ H' ⟨v,e,p',n,sg,rfl,mv,S',ie,ln,ch,rfl⟩
  let(hz,hp',dx,ha):=id S';refine(_,rfl,a,dx,_,rfl,ha,cY _ _ ⋯ ⋯,a,z,p',"+-",rfl,S',_,rfl,?_);refine Ou (λc=>?_) (λc=>?_)
  .unfold cT at c;cases hd:z.cps.toList.drop p' with
   |nil=>rw[hd]at c;cases c
   |cons c0 r0=>
    rw[hd]at c ch ln;have c0m:c0∈P5:=by rw[<-Ca];exact of_decide_eq_true c
    obtain⟨n,rfl⟩:∃n',n=n'+1:=(n-1,by rw[Hf]at ln;omega)
    let(at0,dr0):=gA hd;unfold Nn at ch;rw[bf c0m]at ch;refine(_,λσ' H'' h=>h,(_,rfl,a,dx,_,rfl,ha,cY _ _ ⋯ ⋯,a,z,p',c0,rfl,S',at0,λH2 mv2 S2=>?_));let(_,hp2,dx2,ha2):=id S2;refine(_,rfl,_,rfl,_,rfl,_,rfl,a,z,p'+1,rfl,S2,?_);rw[dr0];cases hG2:ci m r0 with
    |none=>
     rw[hG2]at ch;subst ch;exact λH3 mv3=>k1 H3<|mv.trans<|mv2.trans mv3
    |some er2=>
     let(e2,r2):=er2;rw[hG2]at ch;intro v2 H3 mv3 S3 i3;refine(small (by show 3<=1000;decide),λt ht=>?_);have g4:=df ht<|.tup [.str ⟨#[c0]⟩,v,v2];have suf2:r2<:+z.cps.toList.drop (p'+1):=by rw[dr0];exact sufG _ _ _ hG2
     have b2:=jF (C:=CS) (H:=H) (a:=a) suf2;have l2:⇑r2<=⇑r0:=(sufG _ _ _ hG2).length_le;have l0:=jq at0;have l3:⇑r0=⇑z-(p'+1):=by rw[<-dr0,Ir,bE]
     refine(⇑z-(⇑z-⇑r2),∅,.ref t,.bin ⟨#[c0]⟩ e e2,⇑z-⇑r2,n,_,rfl,mv.trans<|mv2.trans<|mv3.trans<|Moved.same g4,S3.same g4,?_,?_,?_,rfl);exact(t,v,v2,rfl,aq,((ie.moved ha mv2).moved ha2 mv3).mono g4,i3.mono g4);rw[b2];rw[Hf]at ln;omega;rw[b2];exact ch
  .have st:Nn (ci m) P5 n e (z.cps.toList.drop p')=some (e ,z.cps.toList.drop p'):=mz λc0 r0 hd hm=>by unfold cT at c;rw[hd]at c;exact c (bN<|by rw[Ca];exact hm)
   rw[st]at ch;subst ch;exact(_,rfl,k1 v H' mv (by rw[qS hp'];exact S') ie)
def Rg:MH ["signs","depth","e","sign"] ["signs","depth"] (ae jd):=(rfl,rfl,rfl,⋯,rfl,⋯,⋯)
def lK {m k:Nat}(hk:2<=k)(F:Fun K "read_factors" "read_factors" jd f fd)(T:Txt K mg CS CN)(G:CF P w K mg base (CXx P w) k "read_factor" fG fdG ["signs","depth"] (dR CS CN bX m))
  (MS:CM P w K mg base CX0 2 CS "stands_one_of" fS fdS ["self","wanted"] (dM CS))(MT:CM P w K mg base CX0 1 CS "take_sign" fK fdK ["self"] (jO CS)):FnOk P w K mg base (CXx P w) (k+1) f fd ["signs","depth"] (dR CS CN ci m):=by
 refine F.okX Rg (λvs H Q E h=>?_) (λcdv A outer s H vs Q E hr h=>?_);let(a,z,p,rfl,_):=h;rfl
 let(a,z,p,rfl,S,k0):=h
 refine(_,ay (dB (i:=2) Rg.nd rfl (Or.inl rfl)<|dF G.ok hr rfl G.mg G.kp G.bi .nil d8<|ai (pv 0)<|ai (pv 1) P9)
  (ay (lB LQ.leaving (fY<|f7 (hst:=by rfl) (hpl:=by rfl) (ht:=by rfl) (pv 0) T.cl MS.me MS.ok (hr.mono hk) MS.bi .nil Qc<|ai Qh P9)
   (ay (dB (i:=3) Rg.nd rfl (Or.inl rfl)<|d7 (ht:=by rfl) (pv 0) T.cl MT.me MT.ok (hr.mono ∅) MT.bi .nil Qc)
   (aR<|dB (i:=2) Rg.nd rfl (Or.inl rfl)<|jV<|ai (pv 3)<|ai (pv 2)<|ai (dF G.ok hr rfl G.mg G.kp G.bi .nil d8<|ai (pv 0)<|ai (pv 1) P9) P9)))
  (aR<|cK<|pv 2)),?_)
 have sufG:Suf (bX m):=iN m;refine(_,rfl,_,rfl,a,z,p,rfl,S,?_);have k1:gC CS CN H a z Q E (Qb (bX m) P4<|z.cps.toList.drop p):=k0;unfold Qb at k1;cases hG:bX m (z.cps.toList.drop p) with
 |none=>
  rw[hG]at k1;exact λH' mv=>k1 H' mv
 |some er=>
  let(e1,r1):=er;rw[hG]at k1;have k1:gC CS CN H a z Q E (Nn (bX m) P4 ⇑r1 e1 r1):=k1;intro v1 H1 mv1 S1 i1;have b1:z.cps.toList.drop (⇑z-⇑r1)=r1:=jF (C:=CS) (H:=H) (a:=a)<|sufG _ _ _ hG;generalize hR:Nn (bX m) P4 ⇑r1 e1 r1=R at k1
  refine(λmm σ H'=>∃ (v:V) (e:Exp) (p' n:Nat) (sg:Option V),σ=[some<|.ref a,some<|.int<|5-(m:Int),some v,sg]/\Moved H H' a/\SgAt CS H' a z p'/\IsE H' e v/\⇑(z.cps.toList.drop p')<=n/\
   Nn (bX m) P4 n e (z.cps.toList.drop p')=R/\mm=⇑z-p',(_,v1,e1,⇑z-⇑r1,⇑r1,none,rfl,mv1,S1,i1,by rw[b1];exact Hc _,by rw[b1];exact hR,rfl),?_)
  rintro mm σ H' ⟨v,e,p',n,sg,rfl,mv,S',ie,ln,ch,rfl⟩
  let(hz,hp',dx,ha):=id S';refine(_,rfl,a,dx,_,rfl,ha,cY _ _ ⋯ ⋯,a,z,p',"*",rfl,S',_,rfl,?_);refine Ou (λc=>?_) (λc=>?_)
  .unfold cT at c;cases hd:z.cps.toList.drop p' with
   |nil=>rw[hd]at c;cases c
   |cons c0 r0=>
    rw[hd]at c ch ln;have c0m:c0∈P4:=by rw[<-Cb];exact of_decide_eq_true c
    obtain⟨n,rfl⟩:∃n',n=n'+1:=(n-1,by rw[Hf]at ln;omega)
    let(at0,dr0):=gA hd;unfold Nn at ch;rw[bf c0m]at ch;refine(_,λσ' H'' h=>h,(_,rfl,a,dx,_,rfl,ha,cY _ _ ⋯ ⋯,a,z,p',c0,rfl,S',at0,λH2 mv2 S2=>?_));let(_,hp2,dx2,ha2):=id S2;refine(_,rfl,_,rfl,_,rfl,_,rfl,a,z,p'+1,rfl,S2,?_);rw[dr0];cases hG2:bX m r0 with
    |none=>
     rw[hG2]at ch;subst ch;exact λH3 mv3=>k1 H3<|mv.trans<|mv2.trans mv3
    |some er2=>
     let(e2,r2):=er2;rw[hG2]at ch;intro v2 H3 mv3 S3 i3;refine(small (by show 3<=1000;decide),λt ht=>?_);have g4:=df ht<|.tup [.str ⟨#[c0]⟩,v,v2];have suf2:r2<:+z.cps.toList.drop (p'+1):=by rw[dr0];exact sufG _ _ _ hG2
     have b2:=jF (C:=CS) (H:=H) (a:=a) suf2;have l2:⇑r2<=⇑r0:=(sufG _ _ _ hG2).length_le;have l0:=jq at0;have l3:⇑r0=⇑z-(p'+1):=by rw[<-dr0,Ir,bE]
     refine(⇑z-(⇑z-⇑r2),∅,.ref t,.bin ⟨#[c0]⟩ e e2,⇑z-⇑r2,n,_,rfl,mv.trans<|mv2.trans<|mv3.trans<|Moved.same g4,S3.same g4,?_,?_,?_,rfl);exact(t,v,v2,rfl,aq,((ie.moved ha mv2).moved ha2 mv3).mono g4,i3.mono g4);rw[b2];rw[Hf]at ln;omega;rw[b2];exact ch
  .have st:Nn (bX m) P4 n e (z.cps.toList.drop p')=some (e ,z.cps.toList.drop p'):=mz λc0 r0 hd hm=>by unfold cT at c;rw[hd]at c;exact c (bN<|by rw[Cb];exact hm)
   rw[st]at ch;subst ch;exact(_,rfl,k1 v H' mv (by rw[qS hp'];exact S') ie)
def Rb:MH ["signs","depth","e"] ["signs","depth"] (ae gS):=(rfl,rfl,rfl,⋯,rfl,⋯,⋯)
def DK (F:Fun K "read_bracket" "read_bracket" gS f fd)(T:Txt K mg CS CN):FnOk P w K mg base (CXx P w) 1 f fd ["signs","depth"] (RD CS CN 0):=by
 refine F.okX Rb (λvs H Q E h=>?_) (λcdv A outer s H vs Q E hr h=>?_);let(a,z,p,r,rfl,_):=h;rfl
 let(a,z,p,r,rfl,h5,S,hd,k0):=h;let(t5,g5):=T.n5;refine(_,ay (gG (dE nQ (pv 1) (dg (v:=.int 5) rfl g5 (_,rfl))<|eA _) (aR<|ft (he:=by rfl) (hplain:=by rfl) (hd:=by decide) fq rfl rfl T.mgN T.exN<|ai Qh P9) Qo) vB,?_);refine(_,rfl,_,_,rfl,rfl,_,rfl,?_);refine Ow (small (by show 1<=1000;decide),k0 H<|Moved.refl _ _)
def FW {m k:Nat}(hk:2<=k)(F:Fun K "read_bracket" "read_bracket" gS f fd)(T:Txt K mg CS CN)(G:CF P w K mg base (CXx P w) k "read_terms" fG fdG ["signs","depth"] (dR CS CN fg m))
  (MS:CM P w K mg base CX0 2 CS "stands_one_of" fS fdS ["self","wanted"] (dM CS))(MT:CM P w K mg base CX0 1 CS "take_sign" fK fdK ["self"] (jO CS)):FnOk P w K mg base (CXx P w) (k+1) f fd ["signs","depth"] (RD CS CN<|m+1):=by
 refine F.okX Rb (λvs H Q E h=>?_) (λcdv A outer s H vs Q E hr h=>?_);let(a,z,p,r,rfl,_):=h;rfl
 let(a,z,p,r,rfl,h5,S,hd,k0):=h;let(t5,g5):=T.n5
 refine(_,ay (gG (dE nQ (pv 1) (dg (v:=.int 5) rfl g5 (_,rfl))<|eA _) (aR<|ft (he:=by rfl) (hplain:=by rfl) (hd:=by decide) fq rfl rfl T.mgN T.exN<|ai Qh P9) Qo)
  (ay (oP (hs:=by rfl)<|d7 (ht:=by rfl) (pv 0) T.cl MT.me MT.ok (hr.mono ∅) MT.bi .nil Qc)
  (ay (dB (i:=2) Rb.nd rfl (Or.inl rfl)<|dF G.ok hr rfl G.mg G.kp G.bi .nil d8<|ai (pv 0)<|ai (pv 1) P9)
  (ay (gG (sf<|fY<|f7 (hst:=by rfl) (hpl:=by rfl) (ht:=by rfl) (pv 0) T.cl MS.me MS.ok (hr.mono hk) MS.bi .nil Qc<|ai Qh P9) (aR<|ft (he:=by rfl) (hplain:=by rfl) (hd:=by decide) fq rfl rfl T.mgN T.exN<|ai Qh P9) Qo)
  (ay (oP (hs:=by rfl)<|d7 (ht:=by rfl) (pv 0) T.cl MT.me MT.ok (hr.mono ∅) MT.bi .nil Qc)
  (aR<|cK<|pv 2))))),?_)
 let(hz,hp,dx,ha):=id S;let(at0,dr0):=gA hd;refine(_,rfl,_,_,rfl,rfl,_,rfl,?_);refine Ou (λc=>?_) (λc=>?_);have c1:(6-((m+1:Nat):Int))>5:=of_decide_eq_true c;omega
 .refine(_,rfl,a,dx,_,rfl,ha,cY _ _ ⋯ ⋯,a,z,p,40,rfl,S,at0,λH1 mv1 S1=>?_);have e6:(6-((m+1:Nat):Int))=5-(m:Int):=∅;refine(_,rfl,_,rfl,a,z,p+1,by show [V.ref a,V.int<|6-((m+1:Nat):Int)]=_;rw[e6],S1,?_);rw[dr0];have k1:gC CS CN H a z Q E (cR (fg m) r):=k0;cases hG:fg m r with
  |none=>
   rw[zH hG]at k1;exact λH' mv=>k1 H'<|mv1.trans mv
  |some er=>
   let(e1,r1):=er;intro v2 H2 mv2 S2 i2;let(_,hp2,dx2,ha2):=id S2;have suf1:r1<:+z.cps.toList.drop (p+1):=by rw[dr0];exact nv m _ _ _ hG
   have b1:=jF (C:=CS) (H:=H) (a:=a) suf1;refine(_,rfl,a,dx2,_,rfl,ha2,cY _ _ ⋯ ⋯,a,z,_,")",rfl,S2,_,rfl,?_);have st:cT z (⇑z-⇑r1) ")"=decide (r1.head?=some 41):=by
    unfold cT;rw[b1];cases r1 with
    |nil=>rfl
    |cons c0 r0=>
     show decide (c0∈(")":Str).cps.toList)=decide (`c0=some 41);rw[FO,decide_eq_decide];simp
   rw[st];by_cases h41:r1.head?=some 41
   .rw[bN h41];obtain⟨r2,rfl⟩:∃r2,r1=41::r2:=by
     cases r1 with
     |nil=>cases h41
     |cons c0 r0=>have:c0=41:=by simpa using h41
                  subst this;exact(r0,rfl)
    let(at1,dr1):=gA b1;refine Ov (_,rfl,a,dx2,_,rfl,ha2,cY _ _ ⋯ ⋯,a,z,_,41,rfl,S2,at1,λH3 mv3 S3=>(_,rfl,?_));rw[BR hG]at k1;have k2:∀v H',Moved H H' a->SgAt CS H' a z (⇑z-⇑r2)->IsE H' e1 v->Q v H':=k1;refine k2 v2 H3 (mv1.trans<|mv2.trans mv3) ?_<|i2.moved ha2 mv3;have l1:=jq at1;have:⇑z-⇑(41::r2)+1=⇑z-⇑r2:=by have:=suf1.length_le;rw[Ir,bE,Hf]at this;rw[Hf];omega
    rw[this]at S3;exact S3
   rw[bg h41];refine Ow (small (by show 1<=1000;decide),?_);rw[zG hG h41]at k1;have k2:∀H',Moved H H' a->E (.ref CN) none H':=k1;exact k2 H2<|mv1.trans mv2
def Rf:MH ["signs","depth","factor"] ["signs","depth"] (ae kF):=(rfl,rfl,rfl,⋯,rfl,⋯,⋯)
def E7:LET.length+FIG.length<=sizeLine:=⋯
def qx {z:Str}(h:PF z=true):PySem.intText? z=some (dC z)/\⇑z<=640:=by
 unfold PF at h;simp only[HD,decide_eq_true_eq]at h;let((h1,h2),_,h4):=h;refine(?_,∅);refine PySem.intText_digits (λc hc=>?_) (λe=>?_) ∅;exact On.mp<|HJ.mp h4 c hc;have:=bE z;rw[e]at this;simp at this;omega
def nR {m k:Nat}(hk:3<=k)(hm5:m<=5)(F:Fun K "read_factor" "read_factor" kF f fd)(T:Txt K mg CS CN)(G:CF P w K mg base (CXx P w) k "read_bracket" fG fdG ["signs","depth"] (RD CS CN m))
  (MS:CM P w K mg base CX0 2 CS "stands_one_of" fS fdS ["self","wanted"] (dM CS))(MR:CM P w K mg base CX0 3 CS "run_of" fR fdR ["self","wanted"] (RI CS))
  (FN:CF P w K mg base CX0 1 "is_name" fN fdN ["word"] kX)(FM:CF P w K mg base CX0 1 "is_number" fM fdM ["word"] RH):FnOk P w K mg base (CXx P w) (k+1) f fd ["signs","depth"] (dR CS CN bX m):=by
 refine F.okX Rf (λvs H Q E h=>?_) (λcdv A outer s H vs Q E hr h=>?_);let(a,z,p,rfl,_):=h;rfl
 let(a,z,p,rfl,S,k0):=h;let(tL,hL):=T.let_;let(tF,hF):=T.fig
 refine(_,ay (gG (fY<|f7 (hst:=by rfl) (hpl:=by rfl) (ht:=by rfl) (pv 0) T.cl MS.me MS.ok (hr.mono ∅) MS.bi .nil Qc<|ai Qh P9) (aR<|cK<|dF G.ok hr rfl G.mg G.kp G.bi .nil d8<|ai (pv 0)<|ai (ut PP (pv 1) Qf) P9) Qo)
  (ay (dB (i:=2) Rf.nd rfl (Or.inl rfl)<|f7 (hst:=by rfl) (hpl:=by rfl) (ht:=by rfl) (pv 0) T.cl MR.me MR.ok (hr.mono hk) MR.bi .nil Qc<|ai (ut PQ (dg (v:=.str LET) rfl hL (_,rfl))<|dg (v:=.str FIG) rfl hF (_,rfl)) P9)
  (ay (gG (fY<|dF FN.ok (hr.mono ∅) rfl FN.mg FN.kp FN.bi .nil Qc<|ai (pv 2) P9) (aR<|cK<|jV<|ai Qh<|ai (pv 2) P9) Qo)
  (ay (gG (fY<|dF FM.ok (hr.mono ∅) rfl FM.mg FM.kp FM.bi .nil Qc<|ai (pv 2) P9) (aR<|cK<|jV<|ai Qh<|ai (ip (hn:=by decide) (hdb:=by decide) (he:=by rfl) (hpl:=by rfl) jD rfl T.int PyProof.Rows.boot_int<|ai (pv 2) P9) P9) Qo)
  (aR<|ft (he:=by rfl) (hplain:=by rfl) (hd:=by decide) fq rfl rfl T.mgN T.exN<|ai Qh P9)))),?_)
 let(hz,hp,dx,ha):=id S;refine(_,rfl,a,dx,_,rfl,ha,cY _ _ ⋯ ⋯,a,z,p,"(",rfl,S,_,rfl,?_);rw[wx]at k0;have st:cT z p "("=decide ((z.cps.toList.drop p).head?=some 40):=by
  unfold cT;cases hd:z.cps.toList.drop p with
  |nil=>rfl
  |cons c0 r0=>
   show decide (c0∈("(":Str).cps.toList)=decide (`c0=some 40);rw[FP,decide_eq_decide];simp
 rw[st];by_cases h40:(z.cps.toList.drop p).head?=some 40
 .rw[bN h40];rw[bf h40]at k0;obtain⟨r,hd⟩:∃r,z.cps.toList.drop p=40::r:=by
   cases hd:z.cps.toList.drop p with
   |nil=>rw[hd]at h40;cases h40
   |cons c0 r0=>rw[hd]at h40
                have:c0=40:=by simpa using h40
                subst this;exact(r0,rfl)
  rw[hd]at k0;refine Ow (_,rfl,_,rfl,_,_,rfl,rfl,a,z,p,r,?_,hm5,S,hd,k0);show [V.ref a,V.int<|5-(m:Int)+1]=_;have:(5-(m:Int)+1)=6-(m:Int):=∅;rw[this]
 .rw[bg h40];rw[aZ h40]at k0;refine Ov (_,rfl,a,dx,_,rfl,ha,cY _ _ ⋯ ⋯,_,_,rfl,rfl,E7,a,z,p,LET++FIG,rfl,S,λH1 mv1 S1=>?_);have ean:(λc=>decide<|c∈(LET++FIG).cps.toList)=Oj:=rfl;rw[ean]at S1 ⊢;have fl:⇑(⟨((z.cps.toList.drop p).takeWhile Oj).toArray⟩:Str)<=sizeLine:=by show (((z.cps.toList.drop p).takeWhile Oj).toArray).size<=sizeLine;rw[Ho];have:=(List.takeWhile_sublist (l:=z.cps.toList.drop p) Oj).length_le;rw[Ir,bE]at this;omega
  have dw:⇑z-⇑((z.cps.toList.drop p).dropWhile Oj)=p+⇑((z.cps.toList.drop p).takeWhile Oj):=by have e:=congrArg List.length<|List.takeWhile_append_dropWhile (p:=Oj) (l:=z.cps.toList.drop p);rw[Hk,Ir,bE]at e;omega
  unfold OQ at k0;refine(_,rfl,_,rfl,fl,λH2 g2=>(_,rfl,?_));refine Ou (λc=>?_) (λc=>?_);rw[bf c]at k0;have k1:∀v H',Moved H H' a->SgAt CS H' a z (⇑z-⇑((z.cps.toList.drop p).dropWhile Oj))->IsE H' (.box ⟨((z.cps.toList.drop p).takeWhile Oj).toArray⟩) v->Q v H':=k0;refine(_,rfl,small (by show 2<=1000;decide),λt ht=>?_);refine k1 _ _ (mv1.trans<|(Moved.same g2).trans<|Moved.same<|df ht _) ?_ (t,rfl,aq);rw[dw];exact (S1.same g2).same<|df ht _
  .rw[aZ c]at k0;refine(_,rfl,_,rfl,fl,λH3 g3=>(_,rfl,?_));refine Ou (λc2=>?_) (λc2=>?_);rw[bf c2]at k0;have k1:∀v H',Moved H H' a->SgAt CS H' a z (⇑z-⇑((z.cps.toList.drop p).dropWhile Oj))->IsE H' (.num<|dC ⟨((z.cps.toList.drop p).takeWhile Oj).toArray⟩) v->Q v H':=k0;let(n1,n2):=qx c2;refine(_,rfl,_,_,rfl,n1,n2,small (by show 2<=1000;decide),λt ht=>?_);refine k1 _ _ (mv1.trans<|(Moved.same g2).trans<|(Moved.same g3).trans<|Moved.same<|df ht _) ?_ (t,rfl,aq);rw[dw];exact ((S1.same g2).same g3).same<|df ht _;rw[aZ c2]at k0;exact(small (by show 1<=1000;decide),k0 H3<|mv1.trans<|(Moved.same g2).trans<|Moved.same g3)
end
end Q
namespace Q
open PySem L2 Wd
noncomputable def Told (CN:Lb)(H:Hp)(Q:VK)(E:XK):Option Exp->Prop|some e=>∀v H',Same H H'->IsE H' e v->Q v H'|none=>∀H',Same H H'->E (.ref CN) none H'
noncomputable def rN (CN:Lb):Sp:=λvs H Q E=>∃z:Str,vs=[.str z]/\⇑z<=sizeLine/\Told CN H Q E (NM z)
section
variable {P:K8}{w:K9}{K:Zf}{mg:Str->Option K5}{base:La}{f CS CN fT fI fD:Lb}{fd fdT fdI fdD:L5}
def Rc:MH ["word","signs","e"] ["word"] (ae QS):=(rfl,rfl,rfl,⋯,rfl,⋯,⋯)
def AK {k:Nat}(hk:2<=k)(F:Fun K "expression" "expression" QS f fd)(T:Txt K mg CS CN)(G:CF P w K mg base (CXx P w) k "read_terms" fT fdT ["signs","depth"] (dR CS CN fg 5))
  (M:Mk K CS fI)(GI:FnOk P w K mg base CX0 1 fI fdI ["self","word"] (uc CS))(bI:Binds K fdI ["self","word"] [])(MD:CM P w K mg base CX0 1 CS "is_done" fD fdD ["self"] (oA CS)):FnOk P w K mg base (CXx P w) (k+1) f fd ["word"] (rN CN):=by
 refine F.okX Rc (λvs H Q E h=>?_) (λcdv A outer s H vs Q E hr h=>?_);let(z,rfl,_):=h;rfl
 let(z,rfl,hz,k0):=h;let(t60,h60):=T.n60
 refine(_,ay (gG (dE nQ (dh Nj rfl T.len PySem.boot_len<|ai (pv 0) P9) (dg (v:=.int 60) rfl h60 (_,rfl))<|eA _) (aR<|ft (he:=by rfl) (hplain:=by rfl) (hd:=by decide) fq rfl rfl T.mgN T.exN<|ai Qh P9) Qo)
  (ay (dB (i:=1) Rc.nd rfl (Or.inl rfl)<|Ax (hdb:=by decide) (he:=by rfl) (hpl:=by rfl) M GI (hr.mono hk) rfl T.mgS bI .nil Qc<|ai (pv 0) P9)
  (ay (dB (i:=2) Rc.nd rfl (Or.inl rfl)<|dF G.ok hr rfl G.mg G.kp G.bi .nil d8<|ai (pv 1)<|ai Qf P9)
  (ay (gG (sf<|fY<|d7 (ht:=by rfl) (pv 1) T.cl MD.me MD.ok (hr.mono ∅) MD.bi .nil Qc) (aR<|ft (he:=by rfl) (hplain:=by rfl) (hd:=by decide) fq rfl rfl T.mgN T.exN<|ai Qh P9) Qo)
  (aR<|cK<|pv 2)))),?_)
 refine(_,rfl,z,rfl,hz,_,_,rfl,rfl,_,rfl,?_);unfold NM at k0;refine Ou (λc=>?_) (λc=>?_);have c1:(⇑z:Int)>60:=of_decide_eq_true c;rw[bf ∅]at k0;exact(small (by show 1<=1000;decide),k0 H<|Same.refl _)
 .have c1:¬(⇑z:Int)>60:=of_decide_eq_false<|IM.mpr c;rw[aZ ∅]at k0;refine(_,rfl,λx dx nx ndx nex=>?_);refine(x,dx,z,rfl,aq,hz,λH1 mv1 S1=>(rfl,?_));have s0:∀ {H2:Hp},Moved H1 H2 x->Same H H2:=λ{H2} mv b o e=>mv b o (bz e nx) (mv1 b o (bz e nx)<|by rw[af<|bz e nx,af<|bz e ndx];exact e);refine(_,rfl,x,z,0,rfl,S1,?_);rw[J9];cases hG:fg 5 z.cps.toList with
  |none=>
   rw[hG]at k0;exact λH2 mv2=>k0 H2<|s0 mv2
  |some er=>
   let(e1,r1):=er;rw[hG]at k0;intro v2 H2 mv2 S2 i2;let(_,hp2,dx2,ha2):=id S2;refine(_,rfl,x,dx2,_,rfl,ha2,cY _ _ ⋯ ⋯,x,z,_,rfl,S2,_,rfl,?_);have rl:⇑r1<=⇑z:=by have:=(nv 5 _ _ _ hG).length_le;rw[bE]at this;exact this
   cases r1 with
   |nil=>
    have k1:∀v H',Same H H'->IsE H' e1 v->Q v H':=k0;rw[bN (by simp:⇑z-⇑([]:↑Nat)=⇑z)];exact Ov (_,rfl,k1 v2 H2 (s0 mv2) i2)
   |cons c0 r0=>
    have k1:∀H',Same H H'->E (.ref CN) none H':=k0;rw[bg<|by rw[Hf]at rl ⊢;omega];exact Ow (small (by show 1<=1000;decide),k1 H2<|s0 mv2)
end
section
variable {P:K8}{w:K9}{K:Zf}{mg:Str->Option K5}{base:La}{CS CN fT fF fA fB fS fK fN fM fR:Lb}{fdT fdF fdA fdB fdS fdK fdN fdM fdR:L5}
theorem uk (T:Txt K mg CS CN)(FT:Fun K "read_terms" "read_terms" oG fT fdT)(bT:Binds K fdT ["signs","depth"] [])(mT:mg "read_terms"=some (.ref fT))
  (FF:Fun K "read_factors" "read_factors" jd fF fdF)(bF:Binds K fdF ["signs","depth"] [])(mF:mg "read_factors"=some (.ref fF))
  (FA:Fun K "read_factor" "read_factor" kF fA fdA)(bA:Binds K fdA ["signs","depth"] [])(mA:mg "read_factor"=some (.ref fA))
  (FB:Fun K "read_bracket" "read_bracket" gS fB fdB)(bB:Binds K fdB ["signs","depth"] [])(mB:mg "read_bracket"=some (.ref fB))
  (MS:CM P w K mg base CX0 2 CS "stands_one_of" fS fdS ["self","wanted"] (dM CS))(MT:CM P w K mg base CX0 1 CS "take_sign" fK fdK ["self"] (jO CS))(MR:CM P w K mg base CX0 3 CS "run_of" fR fdR ["self","wanted"] (RI CS))
  (CN':CF P w K mg base CX0 1 "is_name" fN fdN ["word"] kX)(CM':CF P w K mg base CX0 1 "is_number" fM fdM ["word"] RH):
  ∀m,m<=5->CF P w K mg base (CXx P w) (4*m+7) "read_terms" fT fdT ["signs","depth"] (dR CS CN fg m)
 |0,h=>by
  have B0:CF P w K mg base (CXx P w) 4 "read_bracket" fB fdB ["signs","depth"] (RD CS CN 0):=((DK FB T).mono ↥_,bB,FB.kp,mB)
  have A0:CF P w K mg base (CXx P w) 5 "read_factor" fA fdA ["signs","depth"] (dR CS CN bX 0):=(nR ↥_ h FA T B0 MS MR CN' CM',bA,FA.kp,mA)
  have F0:CF P w K mg base (CXx P w) 6 "read_factors" fF fdF ["signs","depth"] (dR CS CN ci 0):=(lK ↥_ FF T A0 MS MT,bF,FF.kp,mF)
  exact(qt ↥_ FT T F0 MS MT,bT,FT.kp,mT)
 |m+1,h=>by
  have T0:=uk T FT bT mT FF bF mF FA bA mA FB bB mB MS MT MR CN' CM' m ∅;have B0:CF P w K mg base (CXx P w) (4*m+8) "read_bracket" fB fdB ["signs","depth"] (RD CS CN<|m+1):=(FW ∅ FB T T0 MS MT,bB,FB.kp,mB)
  have A0:CF P w K mg base (CXx P w) (4*m+9) "read_factor" fA fdA ["signs","depth"] (dR CS CN bX<|m+1):=(nR ∅ h FA T B0 MS MR CN' CM',bA,FA.kp,mA)
  have F0:CF P w K mg base (CXx P w) (4*m+10) "read_factors" fF fdF ["signs","depth"] (dR CS CN ci<|m+1):=(lK ∅ FF T A0 MS MT,bF,FF.kp,mF)
  exact(qt ∅ FT T F0 MS MT,bT,FT.kp,mT)
end
end Q
namespace Wd
open PySem L2
section
noncomputable def OK (c:Nat):Nat:=if Om c=true then 2 else if Op c=true then 1 else 0
abbrev Tk:=Nat×↑Nat
noncomputable def toks:↑Nat->↑Tk
 |[]=>[]
 |c::r=>match toks r with
  |[]=>[(OK c ,[c])]
  |(k ,t)::ts=>if OK c≠0/\k=OK c then (k ,c::t)::ts else (OK c ,[c])::(k ,t)::ts
end
section
noncomputable def mid (l:↑Nat):↑Nat:=l.tail.dropLast
end
section
noncomputable def NK:Exp->W|.num n=>.tup [.str "number",.int n]|.box x=>.tup [.str "box",.str x]|.bin s l r=>.tup [.str s,NK l,NK r]
noncomputable def kN (ws:↑W):M W:=match ws with|[.str z]=>gd (⇑z<=sizeLine) (pr<|.bl<|aU z)|_=>no
noncomputable def pz (ws:↑W):M W:=match ws with|[.str z]=>gd (⇑z<=sizeLine) (pr<|.bl<|PF z)|_=>no
noncomputable def hU (ws:↑W):M W:=match ws with
 |[.str z]=>gd (⇑z<=sizeLine) (match NM z with
  |some e=>pr (NK e)
  |none=>no)
 |_=>no
end
end Wd
namespace Q
open PySem L2 Wd
theorem sU {K:Zf}{mu:Nat->Lb}:∀ {e:Exp}{v:V},IsE H e v->Rv K (mu,h,H) (NK e) v|.num n,v,q=>by let(p,rfl,e):=q;unfold NK Rv;exact(p,_,rfl,.of e,Rvs.cons (QK.mpr rfl)<|Rvs.cons (QI.mpr rfl) Rvs.nil)|.box n,v,q=>by let(p,rfl,e):=q;unfold NK Rv;exact(p,_,rfl,.of e,Rvs.cons (QK.mpr rfl)<|Rvs.cons (QK.mpr rfl) Rvs.nil)|.bin s l r,v,q=>by let(p,a,b,rfl,e,h1,h2):=q;unfold NK Rv;exact(p,_,rfl,.of e,Rvs.cons (QK.mpr rfl)<|Rvs.cons (sU h1)<|Rvs.cons (sU h2) Rvs.nil)
section
variable {P:K8}{w:K9}{K:Zf}{mg:Str->Option K5}{base:La}{f CN:Lb}{fd:L5}{k:Nat}
def wE (C:CF P w K mg base CX0 1 "is_name" f fd ["word"] kX):CG P w K mg base 1 "is_name" f fd ["word"] 1 kN:=
 (C.ok.imp λvs H Q E h=>by
  let(o,ws,rfl,hl,R,rv,h):=h;rcases ws with _|⟨x,_|⟨_,_⟩⟩
  exact h.elim
  .let(v,rfl,r):=rv.one;cases x with
   |str z=>
    let(hz,h):=h.gd;exact(z,by rw[QK.mp r],hz,λH' g=>pY (ws:=[]) R g (QH.mpr rfl) h)
   |_=>exact h.elim
  .exact absurd hl ⇑_,C.bi,C.kp,C.mg)
def zy (C:CF P w K mg base CX0 1 "is_number" f fd ["word"] RH):CG P w K mg base 1 "is_number" f fd ["word"] 1 pz:=
 (C.ok.imp λvs H Q E h=>by
  let(o,ws,rfl,hl,R,rv,h):=h;rcases ws with _|⟨x,_|⟨_,_⟩⟩
  exact h.elim
  .let(v,rfl,r):=rv.one;cases x with
   |str z=>
    let(hz,h):=h.gd;exact(z,by rw[QK.mp r],hz,λH' g=>pY (ws:=[]) R g (QH.mpr rfl) h)
   |_=>exact h.elim
  .exact absurd hl ⇑_,C.bi,C.kp,C.mg)
def BP (C:CF P w K mg base (CXx P w) k "expression" f fd ["word"] (rN CN)):CG P w K mg base k "expression" f fd ["word"] 1 hU:=
 (zf C.ok λvs H Q E h=>by
  let(o,ws,rfl,hl,R,rv,h):=h;rcases ws with _|⟨x,_|⟨_,_⟩⟩
  exact h.elim
  .let(v,rfl,r):=rv.one;cases x with
   |str z=>
    let(hz,h):=h.gd;refine(z,by rw[QK.mp r],hz,?_);cases e:NM z with
    |none=>rw[e]at h;exact h.elim
    |some x=>
     rw[e]at h;exact λv H' g i=>Ps.at (p:=(o.mu,o.h,H')) h rfl (Ex.same g) (R.same g) (sU i)
   |_=>exact h.elim
  .exact absurd hl ⇑_,C.bi,C.kp,C.mg)
end
end Q
namespace Q
open PySem L2 Wd
abbrev rS:LI:=top 27
abbrev vo:LI:=top 54
abbrev p4:LI:=top 55
abbrev lf:LI:=top 53
abbrev nF:LI:=top 52
abbrev mU:LI:=top 57
abbrev rR:LI:=top 59
abbrev gD:LI:=top 58
abbrev iR:LI:=cB (top 56) 0
abbrev iQ:LI:=cB (top 56) 1
abbrev dW:LI:=cB (top 56) 8
abbrev gI:LI:=cB (top 56) 3
abbrev gH:LI:=cB (top 56) 4
abbrev gR:LI:=cB (top 56) 5
abbrev gJ:LI:=cB (top 56) 6
abbrev iP:LI:=cB (top 56) 7
abbrev lj:LI:=cB (top 56) 2
abbrev fV:LI:=cB (top 56) 9
abbrev C3:LI:=top 51
abbrev rQ:LI:=top 29
abbrev C1:LI:=top 30
abbrev Aj:LI:=top 33
abbrev xu:LI:=top 34
abbrev jc:LI:=top 37
abbrev nE:LI:=top 38
abbrev p8:LI:=top 36
abbrev C7:LI:=top 35
abbrev Ah:LI:=top 39
abbrev gQ:LI:=top 40
abbrev uf:LI:=top 41
abbrev iO:LI:=top 42
abbrev lh:LI:=top 43
abbrev mS:LI:=top 61
abbrev mQ:LI:=top 62
abbrev p5:LI:=top 63
abbrev rT:LI:=top 64
abbrev ku:LI:=top 65
abbrev vp:LI:=top 66
abbrev rV:LI:=top 67
abbrev ja:LI:=top 68
abbrev p6:LI:=top 69
abbrev rW:LI:=top 70
abbrev mR:LI:=top 71
abbrev xr:LI:=top 72
noncomputable def cP (fr:↑W->M W):MG->M Fl:=(Q7 (sIf (mB<|m2 eqW (m2 ixW (Pm 0) ⇑0) ⇑"number") (Q4<|mTl<|OR Pe) Q1)<|Q7 (sIf (mB<|m2 eqW (m2 ixW (Pm 0) ⇑0) ⇑"box") (Q4<|mTl<|OR<|O7 (m2 ixW (Pm 0) ⇑1) Pe) Q1)<|Q4<|m2 M8 (O5 (arW 1 fr)<|O7 (m2 ixW (Pm 0) ⇑1) Pe)<|O5 (arW 1 fr)<|O7 (m2 ixW (Pm 0) ⇑2) Pe)
noncomputable def aX:Nat->↑W->M W|0=>λJ=>no|n+1=>QF 1<|cP<|aX n
noncomputable def iB:MG->M Fl:=(Q7 (sIf (Pf<|mB<|O5 (arW 1 kN)<|O7 (Pm 0) Pe) QM Q1)<|Q4<|Pm 0)
noncomputable def bU:↑W->M W:=QF 1 iB
noncomputable def eO:MG->M Fl:=(Q7 (sIf (Pf<|mB<|O5 (arW 1 pz)<|O7 (Pm 0) Pe) QM Q1)<|Q4<|O5 Og<|O7 (Pm 0) Pe)
noncomputable def eU:↑W->M W:=QF 1 eO
noncomputable def dk:MG->M Fl:=(Q7 (Q8 1<|m2 ixW (Pm 0) ⇑2)<|Q7 (sIf (mOr (mB<|m2 cH (Pm 1)<|mC<|.tup<|(["<","="]:↑Str).map W.str)<|mB<|m2 neW (m2 ixW (Pm 0) ⇑5) ⇑"else") QM Q1)<|Q7 (Q8 2<|O5 (arW 1 hU)<|O7 (m2 ixW (Pm 0) ⇑1) Pe)<|Q7 (Q8 3<|O5 (arW 1 hU)<|O7 (m2 ixW (Pm 0) ⇑3) Pe)<|Q4<|Pl<|O7 ⇑"if" (O7 (Pm 1)<|O7 (Pm 2)<|O7 (Pm 3)<|O7 (O5 (arW 1 bU)<|O7 (m2 ixW (Pm 0) ⇑4) Pe)<|O7 (O5 (arW 1 bU)<|O7 (m2 ixW (Pm 0) ⇑6) Pe) Pe))
noncomputable def du:↑W->M W:=QF 4 dk
noncomputable def iD:MG->M Fl:=(Q7 (Q8 1<|Pb isS RJ (Pm 0)<|O7 ⇑" " Pe)<|Q7 (Q8 2<|m2 ixW (Pm 1) ⇑0)<|Q7 (Q8 3<|O5 OT<|O7 (Pm 1) Pe)<|Q7 (sIf (O3 (mB<|m2 eqW (Pm 2) ⇑"box")<|mB<|m2 eqW (Pm 3) ⇑3) (Q4<|Pl<|O7 ⇑"box" (O7 (O5 (arW 1 bU)<|O7 (m2 ixW (Pm 1) ⇑1) Pe)<|O7 (O5 (arW 1 eU)<|O7 (m2 ixW (Pm 1) ⇑2) Pe) Pe)) Q1)<|Q7 (sIf (O3 (mB<|m2 eqW (Pm 2) ⇑"block")<|mB<|m2 eqW (Pm 3) ⇑2) (Q4<|Pl<|O7 ⇑"block" (O7 (O5 (arW 1 bU)<|O7 (m2 ixW (Pm 1) ⇑1) Pe) Pe)) Q1)<|Q7 (sIf (O3 (mB<|m2 eqW (Pm 2) ⇑"put")<|mB<|m2 eqW (Pm 3) ⇑3) (Q4<|Pl<|O7 ⇑"put" (O7 (O5 (arW 1 bU)<|O7 (m2 ixW (Pm 1) ⇑1) Pe)<|O7 (O5 (arW 1 hU)<|O7 (m2 ixW (Pm 1) ⇑2) Pe) Pe)) Q1)<|Q7 (sIf (O3 (mB<|m2 eqW (Pm 2) ⇑"say")<|mB<|m2 eqW (Pm 3) ⇑2) (Q4<|Pl<|O7 ⇑"say" (O7 (O5 (arW 1 hU)<|O7 (m2 ixW (Pm 1) ⇑1) Pe) Pe)) Q1)<|Q7 (sIf (O3 (mB<|m2 eqW (Pm 2) ⇑"ask")<|mB<|m2 eqW (Pm 3) ⇑2) (Q4<|Pl<|O7 ⇑"ask" (O7 (O5 (arW 1 bU)<|O7 (m2 ixW (Pm 1) ⇑1) Pe) Pe)) Q1)<|Q7 (sIf (O3 (mB<|m2 eqW (Pm 2) ⇑"go")<|mB<|m2 eqW (Pm 3) ⇑2) (Q4<|Pl<|O7 ⇑"go" (O7 (O5 (arW 1 bU)<|O7 (m2 ixW (Pm 1) ⇑1) Pe) Pe)) Q1)<|Q7 (sIf (O3 (mB<|m2 eqW (Pm 2) ⇑"if")<|mB<|m2 eqW (Pm 3) ⇑7) (Q4<|O5 (arW 1 du)<|O7 (Pm 1) Pe) Q1)<|Q7 (sIf (O3 (mB<|m2 eqW (Pm 2) ⇑"table")<|mB<|aM leW leW ⇑3 (Pm 3) (m2 M8 ⇑2 ⇑6)) (Q4<|Pl<|O7 ⇑"table" (O7 (O5 (arW 1 hU)<|O7 (m2 ixW (Pm 1) ⇑1) Pe)<|O7 (O5 jL<|O7 (mTl<|O6 [] (Pj (m3 slW (Pm 1) (Pg ⇑2) ao) RM) (tgN 0) Pn (O5 (arW 1 bU)<|O7 (Pm 0) Pe) 2) Pe) Pe)) Q1)<|Q7 (sIf (O3 (mB<|m2 eqW (Pm 2) ⇑"stop")<|mB<|m2 eqW (Pm 3) ⇑1) (Q4<|Pl<|O7 ⇑"stop" Pe) Q1) QM)
noncomputable def iG:↑W->M W:=QF 4 iD
noncomputable def ak:MG->M Fl:=(Q7 (sIf (mB<|m2 eqW (m2 ixW (Pm 0) ⇑0) ⇑"put") (Q4<|mTl<|Nm (mTl<|OR<|O7 (m2 ixW (Pm 0) ⇑1) Pe)<|O5 (arW 1<|aX 62)<|O7 (m2 ixW (Pm 0) ⇑2) Pe) Q1)<|Q7 (sIf (mB<|m2 eqW (m2 ixW (Pm 0) ⇑0) ⇑"say") (Q4<|O5 (arW 1<|aX 62)<|O7 (m2 ixW (Pm 0) ⇑1) Pe) Q1)<|Q7 (sIf (mB<|m2 eqW (m2 ixW (Pm 0) ⇑0) ⇑"ask") (Q4<|mTl<|OR<|O7 (m2 ixW (Pm 0) ⇑1) Pe) Q1)<|Q7 (sIf (mB<|m2 eqW (m2 ixW (Pm 0) ⇑0) ⇑"if") (Q4<|m2 M8 (O5 (arW 1<|aX 62)<|O7 (m2 ixW (Pm 0) ⇑2) Pe)<|O5 (arW 1<|aX 62)<|O7 (m2 ixW (Pm 0) ⇑3) Pe) Q1)<|Q7 (sIf (mB<|m2 eqW (m2 ixW (Pm 0) ⇑0) ⇑"table") (Q4<|O5 (arW 1<|aX 62)<|O7 (m2 ixW (Pm 0) ⇑1) Pe) Q1)<|Q4<|mTl<|OR Pe)
noncomputable def aQ:↑W->M W:=QF 1 ak
noncomputable def gf:MG->M Fl:=(Q7 (sIf (mB<|m2 cH (Pm 0)<|Pm 1) QM Q1)<|Q4<|Pb Oo Rw (Pm 1)<|O7 (Pm 0) Pe)
noncomputable def da:↑W->M W:=QF 2 gf
noncomputable def aP:MG->M Fl:=(Q7 (sIf (mB<|m2 eqW (m2 ixW (Pm 0) ⇑0) ⇑"go") (Q4<|Pl<|O7 ⇑"go" (O7 (O5 (arW 2 da)<|O7 (m2 ixW (Pm 0) ⇑1)<|O7 (Pm 1) Pe) Pe)) Q1)<|Q7 (sIf (mB<|m2 eqW (m2 ixW (Pm 0) ⇑0) ⇑"if") (Q4<|m2 M8 (m3 slW (Pm 0) ao<|Pg ⇑4)<|Pl<|O7 (O5 (arW 2 da)<|O7 (m2 ixW (Pm 0) ⇑4)<|O7 (Pm 1) Pe)<|O7 (O5 (arW 2 da)<|O7 (m2 ixW (Pm 0) ⇑5)<|O7 (Pm 1) Pe) Pe) Q1)<|Q7 (sIf (mB<|m2 eqW (m2 ixW (Pm 0) ⇑0) ⇑"table") (Q4<|Pl<|O7 ⇑"table" (O7 (m2 ixW (Pm 0) ⇑1)<|O7 (O5 jL<|O7 (mTl<|O6 [] (Pj (m2 ixW (Pm 0) ⇑2) RN) (tgN 0) Pn (O5 (arW 2 da)<|O7 (Pm 0)<|O7 (Pm 3) Pe) 2) Pe) Pe)) Q1)<|Q4<|Pm 0)
noncomputable def bH:↑W->M W:=QF 2 aP
noncomputable def cD:MG->M Fl:=(Q7 (QT "Reading" "boxes" (Pm 0)<|Pc<|OR Pe)<|Q7 (QT "Reading" "block_names" (Pm 0)<|Pc<|OR Pe)<|Q7 (QT "Reading" "ended_blocks" (Pm 0)<|Pc<|OR Pe)<|QT "Reading" "statements" (Pm 0)<|Pc<|OR Pe)
noncomputable def cE:↑W->M W:=QF 1 cD
noncomputable def cC:MG->M Fl:=(Q4<|m2 gtW (O5 OT<|O7 (m1 (NT "Reading" "block_names")<|Pm 0) Pe)<|O5 OT<|O7 (m1 (NT "Reading" "ended_blocks")<|Pm 0) Pe)
noncomputable def bC:↑W->M W:=QF 1 cC
noncomputable def ck:MG->M Fl:=(Q4<|mTl<|O6 [] (Pj (m1 (NT "Reading" "boxes")<|Pm 0) RM) (tgT [0,1]) Pn (Pm 0) 3)
noncomputable def bJ:↑W->M W:=QF 1 ck
noncomputable def aD:MG->M Fl:=(sIf (mB<|m2 eqW (Pm 1) ⇑"box") (sIf (mB<|m2 gtW (O5 OT<|O7 (m1 (NT "Reading" "block_names")<|Pm 0) Pe) ⇑0) QM Q1)<|sIf (mB<|m2 eqW (Pm 1) ⇑"block") (sIf (mB<|Pa "Reading" "in_block" 1 bC (Pm 0) Pe) QM Q1)<|sIf (Pf<|mB<|Pa "Reading" "in_block" 1 bC (Pm 0) Pe) QM Q1)
noncomputable def av:↑W->M W:=QF 2 aD
noncomputable def aC:MG->M Fl:=(Q7 (sIf (O3 (mB<|m2 eqW (m2 ixW (Pm 1) ⇑0) ⇑"box")<|mB<|m2 inW (m2 ixW (Pm 1) ⇑1)<|Pa "Reading" "box_names" 1 bJ (Pm 0) Pe) QM Q1)<|sIf (O3 (mB<|m2 eqW (m2 ixW (Pm 1) ⇑0) ⇑"block")<|mB<|m2 inW (m2 ixW (Pm 1) ⇑1)<|m1 (NT "Reading" "block_names")<|Pm 0) QM Q1)
noncomputable def au:↑W->M W:=QF 2 aC
noncomputable def aG:MG->M Fl:=(Q7 (sIf (O3 (mB<|m2 eqW (Pm 1) ⇑"box")<|mB<|m2 eqW (O5 OT<|O7 (m1 (NT "Reading" "boxes")<|Pm 0) Pe) ⇑4) QM Q1)<|Q7 (sIf (O3 (mB<|m2 eqW (Pm 1) ⇑"block")<|mB<|m2 eqW (O5 OT<|O7 (m1 (NT "Reading" "block_names")<|Pm 0) Pe) ⇑10) QM Q1)<|sIf (O3 (mB<|m2 inW (Pm 1)<|mC<|.tup<|(["put","say","ask"]:↑Str).map W.str)<|mB<|m2 eqW (O5 OT<|O7 (m1 (NT "Reading" "statements")<|Pm 0) Pe) ⇑8) QM Q1)
noncomputable def az:↑W->M W:=QF 2 aG
noncomputable def bW:MG->M Fl:=(Q7 (Q8 2<|Pa "Reading" "box_names" 1 bJ (Pm 0) Pe)<|QU (Pj (O5 (arW 1 aQ)<|O7 (Pm 1) Pe) RM) (tgN 3)<|sIf (mB<|m2 cH (Pm 3)<|Pm 2) QM Q1)
noncomputable def bw:↑W->M W:=QF 4 bW
noncomputable def aA:MG->M Fl:=(sIf (mB<|m2 eqW (m2 ixW (Pm 1) ⇑0) ⇑"box") (sEx<|Pb isL bu (m1 (NT "Reading" "boxes")<|Pm 0)<|O7 (Pl<|O7 (m2 ixW (Pm 1) ⇑1)<|O7 (m2 ixW (Pm 1) ⇑2) Pe) Pe)<|sIf (mB<|m2 eqW (m2 ixW (Pm 1) ⇑0) ⇑"block") (Q7 (sEx<|Pb isL bu (m1 (NT "Reading" "block_names")<|Pm 0)<|O7 (m2 ixW (Pm 1) ⇑1) Pe)<|QT "Reading" "statements" (Pm 0)<|Pc<|OR Pe)<|sIf (mB<|m2 inW (m2 ixW (Pm 1) ⇑0)<|mC<|.tup<|(["put","say","ask"]:↑Str).map W.str) (sEx<|Pb isL bu (m1 (NT "Reading" "statements")<|Pm 0)<|O7 (Pm 1) Pe)<|sEx<|Pb isL bu (m1 (NT "Reading" "ended_blocks")<|Pm 0)<|O7 (Pl<|O7 (m2 ixW (m1 (NT "Reading" "block_names")<|Pm 0)<|m1 Pz ⇑1)<|O7 (m1 Od<|m1 (NT "Reading" "statements")<|Pm 0)<|O7 (Pm 1) Pe) Pe)
noncomputable def ar:↑W->M W:=QF 2 aA
noncomputable def dl:MG->M Fl:=(Q7 (sEx<|Pa "Reading" "check_place" 2 av (Pm 0)<|O7 (m2 ixW (Pm 1) ⇑0) Pe)<|Q7 (sEx<|Pa "Reading" "check_twice" 2 au (Pm 0)<|O7 (Pm 1) Pe)<|Q7 (sEx<|Pa "Reading" "check_room" 2 az (Pm 0)<|O7 (m2 ixW (Pm 1) ⇑0) Pe)<|Q7 (sEx<|Pa "Reading" "check_boxes" 2 bw (Pm 0)<|O7 (Pm 1) Pe)<|sEx<|Pa "Reading" "put_down" 2 ar (Pm 0)<|O7 (Pm 1) Pe)
noncomputable def dz:↑W->M W:=QF 2 dl
noncomputable def bK:MG->M Fl:=(Q7 (sIf (mOr (mB<|Pa "Reading" "in_block" 1 bC (Pm 0) Pe)<|mB<|m2 eqW (O5 OT<|O7 (m1 (NT "Reading" "block_names")<|Pm 0) Pe) ⇑0) QM Q1)<|Q7 (Q8 1<|Pc<|OR Pe)<|Q7 (QU (Pj (m1 (NT "Reading" "ended_blocks")<|Pm 0) RM) (tgT [2,3,4])<|sEx<|Pb isL bu (Pm 1)<|O7 (Pl<|O7 (Pm 2)<|O7 (Pm 3)<|O7 (O5 (arW 2 bH)<|O7 (Pm 4)<|O7 (m1 (NT "Reading" "block_names")<|Pm 0) Pe) Pe) Pe)<|Q4<|Pl<|O7 (m1 Od<|m1 (NT "Reading" "boxes")<|Pm 0)<|O7 (m1 Od<|Pm 1) Pe)
noncomputable def bL:↑W->M W:=QF 5 bK
noncomputable def ph:MG->M Fl:=(Q7 (Q8 1<|Pb isS RJ (Pm 0)<|O7 ⇑"\n" Pe)<|Q7 (sIf (mB<|m2 gtW (O5 OT<|O7 (Pm 1) Pe) ⇑120) QM Q1)<|Q7 (Q8 2<|O9 "Reading" 1 cE Pe)<|Q7 (QU (Pj (Pm 1) RM) (tgN 3)<|sEx<|Pa "Reading" "take" 2 dz (Pm 2)<|O7 (O5 (arW 1 iG)<|O7 (Pm 3) Pe) Pe)<|Q4<|Pa "Reading" "told_program" 1 bL (Pm 2) Pe)
noncomputable def j4:↑W->M W:=QF 4 ph
noncomputable def gc:MG->M Fl:=(Q7 (sIf (mB<|m2 eqW (m2 ixW (Pm 0) ⇑0) ⇑"go") (Q4<|Pl<|O7 (m2 ixW (Pm 0) ⇑1) Pe) Q1)<|Q7 (sIf (mB<|m2 eqW (m2 ixW (Pm 0) ⇑0) ⇑"if") (Q4<|Pl<|O7 (m2 ixW (Pm 0) ⇑4)<|O7 (m2 ixW (Pm 0) ⇑5) Pe) Q1)<|Q7 (sIf (mB<|m2 eqW (m2 ixW (Pm 0) ⇑0) ⇑"table") (Q4<|m2 ixW (Pm 0) ⇑2) Q1)<|Q4<|Pl Pe)
noncomputable def gv:↑W->M W:=QF 1 gc
noncomputable def pf:MG->M Fl:=(Q7 (Q8 1<|Pc<|OR Pe)<|Q7 (QU (Pk (O7 (m2 ixW (Pm 0) ⇑1) Pe) NE) (tgT [2,3])<|QU (Pk (O7 (O5 (arW 1 gv)<|O7 (m2 ixW (Pm 3) ⇑2) Pe) Pe) NF) (tgT [4,5])<|sEx<|Pb isL bu (Pm 1)<|O7 (Pl<|O7 (Pm 2)<|O7 (Pm 4)<|O7 (Pm 5) Pe) Pe)<|Q4<|m1 Od<|Pm 1)
noncomputable def gu:↑W->M W:=QF 6 pf
noncomputable def kK:MG->M Fl:=(Q7 (Q8 2 oZ)<|Q7 (QU (Pk (O7 (O5 (arW 1 gu)<|O7 (Pm 0) Pe)<|O7 (Pm 1) Pe)<|RO false false) (tgT [3,4])<|Q7 (Q8 5<|m2 ixW (m2 ixW (m2 ixW (Pm 0) ⇑1)<|m2 ixW (Pm 3) ⇑0) ⇑2)<|sIf (mB<|m2 neW (m2 ixW (Pm 5) ⇑0) ⇑"table") (Q7 (Q8 6<|mKt<|O7 (m2 ixW (Pm 3) ⇑0)<|O7 (m2 ixW (Pm 3) ⇑2) Pe)<|aO (Pm 2) (Pm 6)<|m2 M8 (O8 (Pm 2) (Pm 6) ⇑0)<|Pm 4) Q1)<|Q4<|Pm 2)
noncomputable def eV:↑W->M W:=QF 7 kK
noncomputable def pj:MG->M Fl:=(Q7 (Q8 3<|O5 (arW 2 eV)<|O7 (Pm 0)<|O7 (Pm 2) Pe)<|Q4<|m2 RV (O5 RW<|O7 (Pm 2) Pe)<|O5 RW<|O7 (mTl<|O6 [] (Pk (O7 (Pm 1)<|O7 (m3 slW (Pm 1) (Pg ⇑1) ao) Pe)<|RO true true) (tgN 0) Pn (O8 (Pm 5) (Pm 0) ⇑0) 2) Pe)
noncomputable def mi:↑W->M W:=QF 4 pj
noncomputable def dZ:MG->M Fl:=(Q7 (Q8 1<|mTl<|OR<|O7 (Pl<|O7 ⇑0 Pe) Pe)<|Q7 (QU (Pk (O7 ⇑1 (O7 (Pm 0) Pe)) QC) (tgN 2)<|Q8 1<|m2 M8 (Pm 1)<|mTl<|O6 [] (Pj (Pm 1) RM) (tgN 0) Pn (m2 M8 (Pm 0)<|Pl<|O7 (Pm 4) Pe) 2)<|Q4<|Pm 1)
noncomputable def dy:↑W->M W:=QF 3 dZ
noncomputable def iA:MG->M Fl:=(Q4<|O5 jL<|O7 (mTl<|O6 [] (Pj (Pm 0) RN) (tgN 0) (mB<|m2 neW (Pm 0)<|Pm 3) (Pm 0) 2) Pe)
noncomputable def d4:↑W->M W:=QF 2 iA
noncomputable def eT:MG->M Fl:=(Q7 (Q8 4<|mC .non)<|Q7 (QU (Pj (Pm 1) RN) (tgN 5)<|Q7 (Q8 6<|m2 Ox (Pm 3)<|Pl<|O7 (Pm 5)<|O7 (O5 (arW 2 d4)<|O7 (Pm 1)<|O7 (Pm 5) Pe) Pe)<|Q7 (Q8 7<|m2 M8 (O8 (Pm 2) (Pl<|O7 (Pm 0)<|O7 (Pm 5) Pe) ⇑0)<|m2 ixW (Pm 6) ⇑0)<|sIf (mOr (mB<|m2 Os (Pm 4)<|mC .non)<|mB<|m2 gtW (Pm 7)<|m2 ixW (Pm 4) ⇑0) (Q8 4<|Pl<|O7 (Pm 7)<|O7 (m2 M8 (Pl<|O7 (Pm 5) Pe)<|m2 ixW (Pm 6) ⇑1) Pe) Q1)<|Q4<|mIf (mB<|m2 Os (Pm 4)<|mC .non) (Pl<|O7 ⇑0 (O7 (Pl Pe) Pe))<|Pm 4)
noncomputable def eW:↑W->M W:=QF 8 eT
noncomputable def pq:MG->M Fl:=(Q7 (Q8 2<|O5 OT<|O7 (m2 ixW (Pm 0) ⇑1) Pe)<|Q7 (Q8 3<|O5 (arW 2 eV)<|O7 (Pm 0)<|O7 (Pm 1) Pe)<|Q7 (Q8 4<|jX false)<|Q7 (QU (Pj (O5 (arW 1 dy)<|O7 (Pm 2) Pe) RM) (tgN 5)<|Q7 (Q8 6<|m3 slW (Pm 5) (Pg ⇑1) ao)<|QU (Pk (O7 (Pm 2) Pe) QB) (tgN 7)<|sIf (mB<|m2 cH (Pm 7)<|Pm 6) (fX (Pm 4) (Pl<|O7 (Pm 7)<|O7 (Pm 6) Pe)<|O5 (arW 4 eW)<|O7 (Pm 7)<|O7 (Pm 6)<|O7 (Pm 3)<|O7 (Pm 4) Pe) Q1)<|Q4<|m2 M8 (Pl<|O7 ⇑0 Pe)<|m2 ixW (m2 Ox (Pm 4)<|Pl<|O7 ⇑0 (O7 (O5 trW<|O7 ⇑1 (O7 (Pm 2) Pe)) Pe)) ⇑1)
noncomputable def mj:↑W->M W:=QF 8 pq
noncomputable def kJ:MG->M Fl:=(Q7 (Q8 1<|Pc<|OR<|O7 (mC<|OJ true (0 ,[0])) Pe)<|Q7 (QU (Pj (O5 (arW 1 dy)<|O7 (Pm 0) Pe) RM) (tgN 2)<|QU (Pj (m3 slW (Pm 2) (Pg ⇑1) ao) RN) (tgN 3)<|sEx<|Pb isL bu (Pm 1)<|O7 (Pl<|O7 (Pm 2)<|O7 (Pm 3) Pe) Pe)<|Q4<|m1 Od<|Pm 1)
noncomputable def iF:↑W->M W:=QF 4 kJ
noncomputable def cx:MG->M Fl:=(Q7 (sIf (mB<|m2 eqW (Pl<|O7 (Pm 0)<|O7 (Pm 1) Pe)<|mC<|OJ true (0 ,[0])) (Q4 ⇑0) Q1)<|Q7 (Q8 4<|O5 (arW 2 d4)<|O7 (Pm 0)<|O7 (Pm 1) Pe)<|Q7 (Q8 5<|mIf (mB<|m2 eqW (Pm 4)<|Pl<|O7 ⇑0 Pe) (Pm 4)<|m3 slW (Pm 4) (Pg ⇑1) ao)<|Q4<|O5 (NN Pp)<|O7 (mTl<|O6 [] (Pj (Pm 5) RN) (tgN 0) Pn (m2 M8 (m2 Ox (Pm 4)<|Pl<|O7 (Pm 6)<|O7 (Pm 0) Pe)<|O8 (Pm 5) (Pl<|O7 (Pm 0)<|O7 (Pm 3) Pe) ⇑0) 2) Pe)
noncomputable def br:↑W->M W:=QF 6 cx
noncomputable def kI:MG->M Fl:=(Q7 (Q8 2<|O5 (arW 2 eV)<|O7 (Pm 0)<|O7 (Pm 1) Pe)<|Q7 (Q8 3<|jX true)<|Q7 (QU (Pj (O5 (arW 1 iF)<|O7 (O5 OT<|O7 (m2 ixW (Pm 0) ⇑1) Pe) Pe) RM) (tgT [4,5])<|fX (Pm 3) (Pl<|O7 (Pm 4)<|O7 (Pm 5) Pe)<|O5 (arW 4 br)<|O7 (Pm 4)<|O7 (Pm 5)<|O7 (Pm 3)<|O7 (Pm 2) Pe)<|Q4<|O5 RC<|O7 (mTl<|O6 [] (Pj (m1 Od<|Pm 3) RL) (tgT [0,1]) Pn (m2 M8 (Pm 0)<|Pl<|O7 (Pm 1) Pe) 3) Pe)
noncomputable def jB:↑W->M W:=QF 6 kI
noncomputable def gq:MG->M Fl:=(Q7 (Q8 3<|O5 (arW 1 iF)<|O7 (O5 OT<|O7 (m2 ixW (Pm 0) ⇑1) Pe) Pe)<|Q7 (Q8 4<|jX true)<|Q7 (QU (Pj (Pm 2) RM) (tgT [5,6,7])<|fX (Pm 4) (Pl<|O7 (Pm 5)<|O7 (Pm 6) Pe)<|Pm 7)<|Q7 (sIf (mOr (mB<|m2 neW (O5 OT<|O7 (Pm 2) Pe)<|O5 OT<|O7 (Pm 3) Pe)<|mB<|O5 Na<|O7 (mTl<|O6 [] (Pj (Pm 3) RM) (tgN 0) Pn (m2 (Oe true) (Pm 0)<|Pm 6) 2) Pe) (Q4<|mC<|.bl false) Q1)<|Q7 (Q8 8<|O5 (arW 2 eV)<|O7 (Pm 0)<|O7 (Pm 1) Pe)<|Q4<|O5 M9<|O7 (mTl<|O6 [] (Pj (Pm 3) RM) (tgT [0,1]) Pn (m2 geW (m2 Ox (Pm 7)<|Pl<|O7 (Pm 0)<|O7 (Pm 1) Pe)<|O5 (arW 4 br)<|O7 (Pm 0)<|O7 (Pm 1)<|O7 (Pm 7)<|O7 (Pm 11) Pe) 3) Pe)
noncomputable def eE:↑W->M W:=QF 9 gq
noncomputable def gr:MG->M Fl:=(Q7 (Q8 3<|O5 Sd<|O7 (O5 OT<|O7 (m2 ixW (Pm 0) ⇑1) Pe) Pe)<|Q4<|m2 RV (O5 RW<|O7 (Pm 1) Pe)<|O5 (NN Pp)<|O7 (mTl<|O6 [] (Pj (Pm 2) RM) (tgT [0,1,2]) (mB<|m2 eqW (Pm 0)<|Pm 7) (Pm 2) 4) Pe)
noncomputable def eF:↑W->M W:=QF 4 gr
noncomputable def dL:MG->M Fl:=(Q7 (sIf (mB<|m2 ltW (Pm 1)<|O5 OT<|O7 (Pm 0) Pe) (Q4<|m2 ixW (Pm 0)<|Pm 1) Q1)<|Q4 ⇑0)
noncomputable def bQ:↑W->M W:=QF 2 dL
noncomputable def dI:MG->M Fl:=(Q7 (Q8 2<|Pc<|OR Pe)<|Q7 (Q8 3<|O5 M4<|O7 (Pm 0) Pe)<|Q7 (QU (Pk (O7 (Pm 1) Pe) QB) (tgN 4)<|sIf (mB<|m2 geW (O5 M4<|O7 (Pm 0) Pe)<|m2 Ql ⇑10 ⇑18) (Q7 (sEx<|Pb isL bu (Pm 2)<|O7 (m2 Pq (Pm 3) ⇑1009) Pe)<|Q8 3<|m2 NP (Pm 3) ⇑1009)<|Q7 (Q8 5<|m2 Pq (m2 M8 (m2 Pq (Pm 3) ⇑2147483629)<|m2 Pu (m2 Pu ⇑7919 (m2 M8 (Pm 4) ⇑1))<|m2 M8 (Pm 4) ⇑3) ⇑2147483629)<|Q7 (Q8 5<|m2 M8 (m2 Pq (m2 Pu (Pm 5)<|Pm 5) ⇑2147483587)<|m2 NP (Pm 5) ⇑7)<|sEx<|Pb isL bu (Pm 2)<|O7 (m2 NP (m2 Pq (m2 Pu (Pm 5) ⇑48271) ⇑2147483647) ⇑16) Pe)<|Q4<|m1 Od<|Pm 2)
noncomputable def bP:↑W->M W:=QF 6 dI
noncomputable def eR:MG->M Fl:=(Q7 (Q8 1<|mTl<|OR<|O7 ⇑"a" (O7 ⇑"b" (O7 ⇑"c" (O7 ⇑"d" (O7 ⇑"e" (O7 ⇑"f" (O7 ⇑"g" (O7 ⇑"h" (O7 ⇑"i" (O7 ⇑"j" Pe))))))))))<|Q7 (Q8 2<|mTl<|OR<|O7 ⇑"top" (O7 ⇑"t" (O7 ⇑"ab" (O7 ⇑"a" (O7 ⇑"zed" (O7 ⇑"n" (O7 ⇑"nn" (O7 ⇑"out" (O7 ⇑"mid" (O7 ⇑"x" Pe))))))))))<|Q4<|m2 ixW (mTl<|OR<|O7 (Pm 1)<|O7 (Pm 2)<|O7 (Ph (Pm 1)<|Pg<|m1 Pz ⇑1)<|O7 (Ph (Pm 2)<|Pg<|m1 Pz ⇑1) Pe)<|m2 Pq (Pm 0) ⇑4)
noncomputable def dO:↑W->M W:=QF 3 eR
noncomputable def gh:MG->M Fl:=(Q7 (Q8 1<|m2 ixW (mTl<|OR<|O7 ⇑"n" (O7 ⇑"nn" Pe))<|m2 Pq (m2 ixW (Pm 0) ⇑1) ⇑2)<|Q7 (Q8 2<|O5 RU<|O7 (m2 Pq (m2 ixW (Pm 0) ⇑2) ⇑4) Pe)<|Q7 (Q8 3<|mTl<|OR<|O7 (Pm 2)<|O7 (Pm 1)<|O7 (m2 M8 (m2 M8 (Pm 1) ⇑"+")<|Pm 2)<|O7 (m2 M8 (Pm 1) ⇑"-1")<|O7 ⇑"nn-n" (O7 (m2 M8 ⇑"n*" (Pm 2))<|O7 (m2 M8 (m2 M8 ⇑"2*(" (Pm 1)) ⇑"+1)")<|O7 (m2 M8 ⇑"7-" (Pm 1)) Pe))<|Q4<|m2 ixW (Pm 3)<|m2 Pq (m2 ixW (Pm 0) ⇑0) ⇑8)
noncomputable def cQ:↑W->M W:=QF 4 gh
noncomputable def cX:MG->M Fl:=(Q7 (Q8 1<|m2 Pq (m2 NP (m2 ixW (Pm 0) ⇑0) ⇑8) ⇑4)<|Q7 (sIf (mB<|m2 eqW (Pm 1) ⇑0) (Q4<|m2 M8 ⇑"say " (O5 (arW 1 cQ)<|O7 (Pm 0) Pe)) Q1)<|Q7 (sIf (mB<|m2 eqW (Pm 1) ⇑1) (Q4<|m2 M8 ⇑"ask " (m2 ixW (mTl<|OR<|O7 ⇑"n" (O7 ⇑"nn" Pe))<|m2 Pq (m2 ixW (Pm 0) ⇑2) ⇑2)) Q1)<|Q4<|m2 M8 (m2 M8 (m2 M8 ⇑"put " (m2 ixW (mTl<|OR<|O7 ⇑"n" (O7 ⇑"nn" Pe))<|m2 Pq (m2 NP (m2 ixW (Pm 0) ⇑2) ⇑4) ⇑2)) ⇑" ")<|O5 (arW 1 cQ)<|O7 (Pm 0) Pe)
noncomputable def bG:↑W->M W:=QF 2 cX
noncomputable def iC:MG->M Fl:=(Q7 (Q8 2<|m2 ixW (Pm 1)<|m2 Pq (m2 ixW (Pm 0) ⇑8)<|O5 OT<|O7 (Pm 1) Pe)<|Q7 (Q8 3<|m2 ixW (Pm 1)<|m2 Pq (m2 ixW (Pm 0) ⇑9)<|O5 OT<|O7 (Pm 1) Pe)<|Q7 (Q8 4<|m2 Pq (m2 ixW (Pm 0) ⇑7) ⇑8)<|Q7 (sIf (mB<|m2 ltW (Pm 4) ⇑2) (Q4<|m2 M8 ⇑"go " (Pm 2)) Q1)<|Q7 (sIf (mB<|m2 eqW (Pm 4) ⇑5) (Q7 (Q8 5<|O5 (arW 1 cQ)<|O7 (m3 slW (Pm 0) (Pg ⇑9)<|Pg ⇑12) Pe)<|Q4<|Pb isS OC ⇑" " (O7 (mTl<|Nm (mTl<|OR<|O7 ⇑"table" (O7 (Pm 5)<|O7 (Pm 2)<|O7 (Pm 3) Pe))<|m3 slW (Pm 1) ao<|Pg<|m2 Pq (m2 ixW (Pm 0) ⇑10) ⇑3) Pe)) Q1)<|Q7 (sIf (mB<|m2 eqW (Pm 4) ⇑6) (Q4 ⇑"stop") Q1)<|Q7 (Q8 6<|m2 ixW (mTl<|OR<|O7 ⇑" < " (O7 ⇑" = " Pe))<|m2 Pq (m2 NP (m2 ixW (Pm 0) ⇑10) ⇑8) ⇑2)<|Q7 (Q8 7<|m2 M8 (O5 (arW 1 cQ)<|O7 (m3 slW (Pm 0) (Pg ⇑9)<|Pg ⇑12) Pe)<|Pm 6)<|Q7 (Q8 7<|m2 M8 (Pm 7)<|O5 (arW 1 cQ)<|O7 (m2 M8 (m3 slW (Pm 0) (Pg ⇑10)<|Pg ⇑12)<|m3 slW (Pm 0) ao<|Pg ⇑1) Pe)<|Q7 (sIf (mB<|m2 eqW (Pm 4) ⇑7) (Q8 3<|Pm 2) Q1)<|Q4<|m2 M8 (m2 M8 (m2 M8 (m2 M8 (m2 M8 ⇑"if " (Pm 7)) ⇑" ")<|Pm 2) ⇑" else ")<|Pm 3)
noncomputable def fH:↑W->M W:=QF 8 iC
noncomputable def gj:MG->M Fl:=(Q7 (Q8 2<|O5 (arW 2 bP)<|O7 (O5 (arW 2 bQ)<|O7 (Pm 0)<|O7 ⇑0 Pe)<|O7 ⇑4 Pe)<|Q7 (Q8 3<|m3 slW (O5 (arW 1 dO)<|O7 (m2 ixW (Pm 2) ⇑0) Pe) ao<|Pg<|m2 M8 ⇑1 (m2 Pq (m2 ixW (Pm 2) ⇑1)<|Pm 1))<|Q7 (Q8 4<|Pc<|OR<|O7 (m2 M8 ⇑"box n " (O5 RU<|O7 (m2 Pq (m2 ixW (Pm 2) ⇑2) ⇑3) Pe))<|O7 (m2 M8 ⇑"box nn " (O5 RU<|O7 (m2 Pq (m2 ixW (Pm 2) ⇑3) ⇑4) Pe)) Pe)<|Q7 (QU (Pk (O7 (O5 OT<|O7 (Pm 3) Pe) Pe) QB) (tgN 5)<|Q7 (Q8 6<|O5 (arW 2 bP)<|O7 (O5 (arW 2 bQ)<|O7 (Pm 0)<|O7 (m2 M8 ⇑1 (Pm 5)) Pe)<|O7 ⇑12 Pe)<|Q7 (sEx<|Pb isL bu (Pm 4)<|O7 (m2 M8 ⇑"block " (m2 ixW (Pm 3)<|Pm 5)) Pe)<|Q7 (sIf (mB<|m2 gtW (m2 Pq (m2 ixW (Pm 6) ⇑0) ⇑3) ⇑0) (sEx<|Pb isL bu (Pm 4)<|O7 (O5 (arW 1 bG)<|O7 (m3 slW (Pm 6) (Pg ⇑1)<|Pg ⇑4) Pe) Pe) Q1)<|Q7 (sIf (mB<|m2 gtW (m2 Pq (m2 ixW (Pm 6) ⇑0) ⇑3) ⇑1) (sEx<|Pb isL bu (Pm 4)<|O7 (O5 (arW 1 bG)<|O7 (m3 slW (Pm 6) (Pg ⇑4)<|Pg ⇑7) Pe) Pe) Q1)<|sEx<|Pb isL bu (Pm 4)<|O7 (O5 (arW 2 fH)<|O7 (Pm 6)<|O7 (Pm 3) Pe) Pe)<|Q4<|Pb isS OC ⇑"\n" (O7 (Pm 4) Pe))
noncomputable def eC:↑W->M W:=QF 7 gj
noncomputable def dY:MG->M Fl:=(Q7 (Q8 1<|mTl<|OR<|O7 (Pl<|O7 ⇑0 Pe) Pe)<|Q7 (QU (Pk (O7 ⇑1 (O7 (Pm 0) Pe)) QC) (tgN 2)<|Q7 (Q8 3<|mTl<|OR Pe)<|Q7 (QU (Pj (Pm 1) RM) (tgN 4)<|Q8 3<|m2 M8 (Pm 3)<|mTl<|O6 [] (Pk (O7 ⇑1 (O7 (Pm 0) Pe)) QC) (tgN 0) (mB<|m2 cH (Pm 0)<|Pm 6) (m2 M8 (Pm 6)<|Pl<|O7 (Pm 0) Pe) 2)<|Q8 1<|Pm 3)<|Q4<|Pm 1)
noncomputable def dm:↑W->M W:=QF 5 dY
noncomputable def eS:MG->M Fl:=(Q7 (Q8 2 oZ)<|Q7 (QU (Pk (O7 (O5 (arW 1 gu)<|O7 (Pm 0) Pe)<|O7 (Pm 1) Pe)<|RO false false) (tgT [3,4])<|sIf (O3 (mB<|m2 inW (m2 ixW (m2 ixW (m2 ixW (m2 ixW (Pm 0) ⇑1)<|m2 ixW (Pm 3) ⇑0) ⇑2) ⇑0)<|mTl<|OR<|O7 ⇑"go" (O7 ⇑"if" Pe))<|mB<|m2 neW (m2 ixW (Pm 3) ⇑0)<|m2 ixW (Pm 3) ⇑2) (aO (Pm 2) (mKt<|O7 (m2 ixW (Pm 3) ⇑0)<|O7 (m2 ixW (Pm 3) ⇑2) Pe)<|m2 M8 (O8 (Pm 2) (mKt<|O7 (m2 ixW (Pm 3) ⇑0)<|O7 (m2 ixW (Pm 3) ⇑2) Pe) ⇑0)<|Pm 4) Q1)<|Q4<|Pm 2)
noncomputable def dP:↑W->M W:=QF 5 eS
noncomputable def gm:MG->M Fl:=(Q7 (Q8 3 ⇑0)<|Q7 (QU (Pk (O7 ⇑1 (O7 (O5 OT<|O7 (Pm 2) Pe) Pe)) QC) (tgN 4)<|Q8 3<|m2 M8 (Pm 3)<|O8 (Pm 1) (Pl<|O7 (m2 ixW (Pm 2)<|m2 RV (Pm 4) ⇑1)<|O7 (m2 ixW (Pm 2)<|Pm 4) Pe) ⇑0)<|Q4<|m2 RV (O5 RW<|O7 (Pm 0) Pe)<|Pm 3)
noncomputable def eD:↑W->M W:=QF 5 gm
noncomputable def dJ:MG->M Fl:=(Q7 (Q8 3<|O5 (arW 2 bP)<|O7 (O5 (arW 2 bQ)<|O7 (Pm 0)<|O7 (Pm 1) Pe)<|O7 ⇑12 Pe)<|Q7 (Q8 4<|Pc<|OR Pe)<|Q7 (QU (Pk (O7 (O5 OT<|O7 (Pm 2) Pe) Pe) QB) (tgN 5)<|sEx<|Pb isL bu (Pm 4)<|O7 (m2 Pq (m2 NP (m2 ixW (Pm 3)<|m2 Pq (Pm 5) ⇑12)<|m2 M8 ⇑1 (m2 NP (Pm 5) ⇑12))<|m2 ixW (mTl<|OR<|O7 ⇑4 (O7 ⇑40 (O7 (m2 Ql ⇑10 ⇑6) Pe)))<|m2 Pq (m2 ixW (Pm 3)<|m2 Pq (m2 M8 (Pm 5) ⇑5) ⇑12) ⇑3) Pe)<|Q4<|m1 Od<|Pm 4)
noncomputable def cj:↑W->M W:=QF 6 dJ
noncomputable def uP:MG->M Fl:=(Q7 (Q8 1<|O5 (arW 1 j4)<|O7 (O5 (arW 2 eC)<|O7 (Pm 0)<|O7 ⇑6 Pe) Pe)<|Q7 (Q8 2<|O5 (arW 3 cj)<|O7 (Pm 0)<|O7 ⇑8 (O7 (O5 (arW 1 gu)<|O7 (Pm 1) Pe) Pe))<|Q7 (Q8 3<|O5 (arW 2 dP)<|O7 (Pm 1)<|O7 (Pm 2) Pe)<|Q7 (Q8 4<|mC .non)<|Q7 (Q8 5<|mC .non)<|Q7 (QU (Pj (O5 (arW 1 dm)<|O7 (O5 OT<|O7 (m2 ixW (Pm 1) ⇑1) Pe) Pe) RM) (tgN 6)<|Q7 (Q8 7<|O5 (arW 3 eD)<|O7 (Pm 2)<|O7 (Pm 3)<|O7 (Pm 6) Pe)<|Q7 (sIf (mB<|m2 neW (O5 (arW 3 mi)<|O7 (Pm 1)<|O7 (Pm 6)<|O7 (mTl<|OU<|O7 (Pm 2) Pe) Pe)<|Pm 7) (Q4<|mC<|.bl false) Q1)<|sIf (mOr (mB<|m2 Os (Pm 4)<|mC .non)<|mB<|m2 ltW (Pm 7)<|Pm 4) (Q7 (Q8 4<|Pm 7)<|Q8 5<|Pm 6) Q1)<|Q7 (sIf (mB<|m2 neW (O5 (arW 2 mj)<|O7 (Pm 1)<|O7 (mTl<|OU<|O7 (Pm 2) Pe) Pe)<|Pm 5) (Q4<|mC<|.bl false) Q1)<|Q7 (Q8 8<|O5 (arW 2 jB)<|O7 (Pm 1)<|O7 (mTl<|OU<|O7 (Pm 2) Pe) Pe)<|Q7 (Q8 9<|O5 jP<|O7 (mTl<|O6 [] (Pj (Pm 8) RM) (tgT [0,1,2]) Pn (Pl<|O7 (Pm 0)<|O7 (Pm 1) Pe) 4) Pe)<|Q7 (Q8 7<|m2 M8 ⇑1 (m2 ixW (mTl<|OR<|O7 ⇑0 (O7 ⇑1 (O7 ⇑4 (O7 ⇑12 (O7 ⇑32 (O7 ⇑80 Pe))))))<|m2 RV (O5 OT<|O7 (m2 ixW (Pm 1) ⇑1) Pe) ⇑1))<|Q7 (sIf (mOr (mB<|m2 neW (O5 OT<|O7 (Pm 9) Pe)<|Pm 7)<|mB<|m2 neW (O5 OS<|O7 (O5 j5<|O7 (mTl<|O6 [] (Pj (Pm 9) RM) (tgN 0) Pn (Pl<|O7 (Pm 0)<|O7 (mC<|.bl true) Pe) 2) Pe) Pe)<|Pm 7) (Q4<|mC<|.bl false) Q1)<|Q7 (sIf (mB<|m2 PD (O5 (arW 3 eE)<|O7 (Pm 1)<|O7 (mTl<|OU<|O7 (Pm 2) Pe)<|O7 (Pm 8) Pe)<|mC<|.bl true) (Q4<|mC<|.bl false) Q1)<|Q4<|O4 (m2 eqW (O5 (arW 3 eF)<|O7 (Pm 1)<|O7 (Pm 2)<|O7 (Pm 8) Pe)<|Pm 4)<|m2 eqW (Pm 2)<|O5 (arW 3 cj)<|O7 (Pm 0)<|O7 ⇑8 (O7 (O5 (arW 1 gu)<|O7 (Pm 1) Pe) Pe))
noncomputable def qQ:↑W->M W:=QF 10 uP
end Q
namespace Q
open PySem L2
local macro_rules | `(tactic| simp! only [$xs,*]) => do { let l ← ("NR aE be ba aY bR bS QU Pa aj QT Sf Q4 Q8 Q1 sEx aO mB L2.m2 L2.m1 L2.m3 Pm mC O5 O7 Pe Pl mTl Pc OR OU Pg ao O3 mOr Pf O4 mIf aM Pb isS Pj Pk RM RN tgN tgT Rl Pn aB bd_no asB_bl addW_int subW_int ltW_int leW_int gtW_int geW_int eqW_int eqW_str neW_int neW_str neW_bl slW_tl slW_cl lenW_tl lenW_tup Pz List.set_cons_zero List.set_cons_succ List.getElem?_cons_zero Jz Hf Ig arW if_true if_false Ie ite_true ite_false reduceIte decide_true decide_false Ic Bool.not_false gdn0 gdn1 gdn2 gdn3 gdn4 gdn6 gdn8 gdn10".splitOn " ").toArray.mapM λs => `(Lean.Parser.Tactic.simpLemma| $(Lean.mkIdent s.toName):term); let y : Lean.TSyntaxArray [`Lean.Parser.Tactic.simpStar, `Lean.Parser.Tactic.simpErase, `Lean.Parser.Tactic.simpLemma] := l.map (⟨·.raw⟩) ++ xs.getElems; `(tactic| try simp only [$[$y],*]) }
local macro_rules | `(tactic| simp! [$xs,*]) => `(tactic| simp! only [ae,$xs,*])
local macro_rules | `(tactic| simp!) => `(tactic| simp! only [aa])
section
def sz {n:Nat}(h:n<=100000):n<=sizeLine:=HA h ↥_
def uB (l:↑W):O0 (.tl l)=pr l:=rfl
def cW (l:↑W):RM (.tl l)=pr (l,λJ=>True):=rfl
def jK (l:↑W):jL [.tl l]=pr (.tup l):=rfl
def jI (a b:↑W)(h:⇑a+⇑b<=sizeLine):M8 (.tl a) (.tl b)=pr (.tl<|a++b):=by show gd (⇑a+⇑b<=sizeLine) (pr<|W.tl<|a++b)=_;exact ag h
def cp18:My 10 18:=(↥_,↥_,↥_)
def uC (l:↑W):OT [.cl l]=pr (.int ⇑l):=rfl
noncomputable def Pd:Nat->W->Prop|0,_=>False|n+1,w=>(∃i ,w=.int i)\/(∃z ,w=.str z/\Mn.strOk z=true)\/ ∃l,(w=.tup l\/w=.tl l)/\⇑l<=1000/\∀x∈l,Pd n x
theorem Pd.mono:∀ {n:Nat}{w:W},Pd n w->Pd (n+1) w
 |n+1,w,p=>by
  rcases p with p|p|⟨l,e,z,p⟩
  exact .inl p;exact .inr<|.inl p;exact .inr<|.inr (l,e,z,λx hx=>(p x hx).mono)
def Pd.up {n m:Nat}{w:W}(p:Pd n w)(h:n<=m):Pd m w:=by
 induction m with
 |zero=>
  have:n=0:=∅;subst this;exact p
 |succ m ih=>
  by_cases e:n=m+1;subst e;exact p;exact (ih ∅).mono
theorem Pd.int {n:Nat}{i:Int}:Pd (n+1) (.int i):=.inl (i,rfl)
theorem Pd.str {n:Nat}{i:Str}(h:Mn.strOk i=true):Pd (n+1) (.str i):=.inr<|.inl (i,rfl,h)
theorem Pd.tup {n:Nat}(z:⇑l<=1000)(p:∀x∈l ,Pd n x):Pd (n+1) (.tup l):=.inr<|.inr (l,.inl rfl,z,p)
def Pd.lst {n:Nat}(z:⇑l<=1000)(p:∀x∈l ,Pd n x):Pd (n+1) (.tl l):=.inr<|.inr (l,.inr rfl,z,p)
def pd2i {a:Str}{i:Int}{n:Nat}(h:Mn.strOk a=true):Pd (n+2) (.tup [.str a,.int i]):=.tup ⇑_ λx hx=>by
 rcases Hd.mp hx with rfl|hx
 exact .str h;rw[HC.mp hx];exact .int
def pd2s {a b:Str}{n:Nat}(h:Mn.strOk a=true)(h2:Mn.strOk b=true):Pd (n+2) (.tup [.str a,.str b]):=.tup ⇑_ λx hx=>by
 rcases Hd.mp hx with rfl|hx
 exact .str h;rw[HC.mp hx];exact .str h2
def pdT {n:Nat}(z:⇑l<=1000)(h:∀x∈l ,Pd n x):Pd (n+1) (.tup l):=.tup z h
def bq {n:Nat}{w:W}(h:Pd n w)(r:∀x∈l ,Pd n x):∀x∈w::l,Pd n x:=λx hx=>by
 rcases Hd.mp hx with rfl|hx
 exact h;exact r x hx
def gW {n:Nat}:∀x∈([]:↑W),Pd n x:=λx hx=>absurd hx HB
theorem lJ {n:Nat}:∀ (l:↑W),(∀x∈l ,∃d,Ny h n x=`d/\d.canLay0=true)->∃ds,P6 (Ny h n) l=`ds/\Mn.canLayAll0 ds=true
 |[],_=>([],rfl,by rw[Mn.canLayAll0])
 |x::l,q=>by
  let(d,e,c):=q x Hi;let(ds,es,cs):=lJ l λy hy=>q y<|Ht _ hy;refine(d::ds,?_,?_);simp only[P6,e,es];rw[Mn.canLayAll0,c,cs];rfl
theorem Pd.data :∀ {n:Nat}{w:W},Pd n w->∃d,Ny h n w=`d/\d.canLay0=true
 |n+1,w,p=>by
  rcases p with⟨i,rfl⟩|⟨z,rfl,hz⟩|⟨l,e,_,p⟩
  exact(.int i,rfl,by rw[Mn.canLay0]);exact(.str z,rfl,by rw[Mn.canLay0];exact hz)
  .let(ds,es,cs):=lJ (h:=h) l λx hx=>(p x hx).data;rcases e with rfl|rfl
   exact(.tuple ds,by show (P6 (Ny h n) l).map Mn.tuple=_;rw[es];rfl,by rw[Mn.canLay0];exact cs);exact(.list ds,by show (P6 (Ny h n) l).map Mn.list=_;rw[es];rfl,by rw[Mn.canLay0];exact cs)
def zj (p:∀x∈l ,Pd 49 x):eqW (.tl l) (.tl l)=pr (.bl true):=sZ λh=>by let(ds,es,cs):=lJ (h:=h) l λx hx=>(p x hx).data;rw[wy es es cs cs,eX ds cs]
inductive E17|go (t:Int)|iff (s:Str)(a b:W)(x y:Int)|table (e:W)(ts:↑Int)|stop
noncomputable def E17.w:E17->W|.go t=>.tup [.str "go",.int t]|.iff s a b x y=>.tup [.str "if",.str s,a,b,.int x,.int y]|.table e ts=>.tup [.str "table",e,.tup<|ts.map W.int]|.stop=>.tup [.str "stop"]
noncomputable def E17.Good (m:Int):E17->Prop|.go t=>0<=t/\t<m|.iff s a b x y=>(0<=x/\x<m)/\(0<=y/\y<m)/\Pd 8 a/\Pd 8 b/\Mn.strOk s=true|.table e ts=>⇑ts<=6/\(∀t∈ts ,0<=t/\t<m)/\Pd 8 e|.stop=>True
def DL:Mn.strOk "box"=true:=⋯
def vN:Mn.strOk "number"=true:=⋯
end
section
open Wd
def ub:(" ":Str)=⟨#[32]⟩:=⋯
def yj:("\n":Str)=⟨#[10]⟩:=⋯
structure Cln (z:Str):Prop where
 sp:32 ∉z.cps.toList
 nl:10 ∉z.cps.toList
 len:⇑z<=60
noncomputable def No (z:Str):Bool:=decide (32 ∉z.cps.toList)&&(decide (10 ∉z.cps.toList)&&decide (⇑z<=60))
def Cln.of {z:Str}(h:No z=true):Cln z:=by unfold No at h;simp only[HD,decide_eq_true_eq]at h;exact(h.1,h.2.1,h.2.2)
def cp {z:Str}(h:aU z=true):Cln z:=by unfold aU at h;simp only[HD,decide_eq_true_eq,HJ]at h;have q:∀c∈z.cps.toList,97<=c:=λc hc=>(Oq.mp<|h.2.1 c hc).1;exact(λz=>absurd (q _ z) ↥_,λz=>absurd (q _ z) ↥_,∅)
def uz {z:Str}(h:PF z=true):Cln z:=by unfold PF at h;simp only[HD,decide_eq_true_eq,HJ]at h;have q:∀c∈z.cps.toList,48<=c:=λc hc=>(On.mp<|h.2.2 c hc).1;exact(λz=>absurd (q _ z) ↥_,λz=>absurd (q _ z) ↥_,∅)
noncomputable def NI:Exp->↑Str
 |.num _=>[]
 |.box x=>[x]
 |.bin _ l r=>NI l++NI r
noncomputable def NJ:Exp->Bool|.num i=>decide (0<=i/\i<1000)|.box _=>true|.bin s l r=>decide (s∈(["+","-","*"]:↑Str))&&(NJ l && NJ r)
noncomputable def NH:Exp->Nat|.num _=>0|.box _=>0|.bin _ l r=>1+max (NH l) (NH r)
structure Wrd (z:Str)(e:Exp):Prop where
 ex:NM z=`e
 c:Cln z
 ok:NJ e=true
 dp:NH e<=60
 nm:⇑(NI e)<=60
def Ru:(decide (("+":Str)="number")=false/\decide (("+":Str)="box")=false)/\(decide (("-":Str)="number")=false/\decide (("-":Str)="box")=false)/\decide (("*":Str)="number")=false/\decide (("*":Str)="box")=false:=⋯
def DM:decide (("box":Str)="number")=false:=⋯
def CV {s:Str}(h:s∈(["+","-","*"]:↑Str)):decide (s="number")=false/\decide (s="box")=false:=by
 simp only[Hd,HB,or_false]at h;rcases h with rfl|rfl|rfl
 exact Ru.1;exact Ru.2.1;exact Ru.2.2
theorem lR:∀ (n:Nat) (e:Exp),NH e<n->⇑(NI e)<=1000->NJ e=true->aX n [NK e]=pr (.tl<|(NI e).map W.str)|0,e,h,_,_=>absurd h (Nat.not_lt_zero _)|n+1,.num i,_,_,_=>by have e0:aX (n+1) [NK<|.num i]=bd (cP (aX n) [some<|.tup [.str "number",.int i]]) NR:=rfl;rw[e0];unfold cP;simp! only[aa,ix0];rfl|n+1,.box x,_,_,_=>by have e0:aX (n+1) [NK<|.box x]=bd (cP (aX n) [some<|.tup [.str "box",.str x]]) NR:=rfl;rw[e0];unfold cP;simp! only[aa,ix0,ix1,DM];rfl|n+1,.bin s l r,h,z,k=>by have h:1+max (NH l) (NH r)<n+1:=h;have z:⇑(NI l++NI r)<=1000:=z;have k:(decide (s∈(["+","-","*"]:↑Str))&&(NJ l && NJ r))=true:=k;rw[Hk]at z;rw[HD,HD,decide_eq_true_eq]at k;have e0:aX (n+1) [NK<|.bin s l r]=bd (cP (aX n) [some<|.tup [.str s,NK l,NK r]]) NR:=rfl;rw[e0];unfold cP;have h1:=lR n l ∅ ∅ k.2.1;have h2:=lR n r ∅ ∅ k.2.2;have sn:=CV k.1;have ad:=jI ((NI l).map W.str) ((NI r).map W.str) (by rw[Hb,Hb];exact sz ∅);simp! only[aa,ix0,ix1,ix2,sn.1,sn.2,h1,h2,ad];show pr _=pr (W.tl<|(NI l++NI r).map W.str);rw[Hh]
inductive Rr|box (nm v:Str)|block (nm:Str)|put (nm z:Str)(e:Exp)|say (z:Str)(e:Exp)|ask (nm:Str)|go (nm:Str)|iff (s z1:Str)(e1:Exp)(z2:Str)(e2:Exp)(x y:Str)|table (z:Str)(e:Exp)(xs:↑Str)|stop
noncomputable def Rr.ws:Rr->↑Str
 |.box nm v=>["box",nm,v]
 |.block nm=>["block",nm]
 |.put nm z _=>["put",nm,z]
 |.say z _=>["say",z]
 |.ask nm=>["ask",nm]
 |.go nm=>["go",nm]
 |.iff s z1 _ z2 _ x y=>["if",z1,s,z2,x,"else",y]
 |.table z _ xs=>"table"::z::xs
 |.stop=>["stop"]
noncomputable def Rr.tx (r:Rr):Str:=Str.join ⟨#[32]⟩ r.ws
noncomputable def Rr.form:Rr->W|.box nm v=>.tup [.str "box",.str nm,.int<|dC v]|.block nm=>.tup [.str "block",.str nm]|.put nm _ e=>.tup [.str "put",.str nm,NK e]|.say _ e=>.tup [.str "say",NK e]|.ask nm=>.tup [.str "ask",.str nm]|.go nm=>.tup [.str "go",.str nm]|.iff s _ e1 _ e2 x y=>.tup [.str "if",.str s,NK e1,NK e2,.str x,.str y]|.table _ e xs=>.tup [.str "table",NK e,.tup<|xs.map W.str]|.stop=>.tup [.str "stop"]
noncomputable def Rr.Ok:Rr->Prop|.box nm v=>aU nm=true/\PF v=true|.block nm=>aU nm=true|.put nm z e=>aU nm=true/\Wrd z e|.say z e=>Wrd z e|.ask nm=>aU nm=true|.go nm=>aU nm=true|.iff s z1 e1 z2 e2 x y=>(s="<"\/s="=")/\Wrd z1 e1/\Wrd z2 e2/\aU x=true/\aU y=true|.table z e xs=>Wrd z e/\xs≠ []/\⇑xs<=6/\∀x∈xs,aU x=true|.stop=>True
def GJ:Cln "box"/\Cln "block"/\Cln "put"/\Cln "say"/\Cln "ask"/\Cln "go"/\Cln "if"/\Cln "else"/\Cln "table"/\Cln "stop"/\Cln "<"/\Cln "=":=(.of ⋯,.of ⋯,.of ⋯,.of ⋯,.of ⋯,.of ⋯,.of ⋯,.of ⋯,.of ⋯,.of ⋯,.of ⋯,.of ⋯)
def eY:∀z∈([]:↑Str),Cln z:=λz h=>absurd h HB
def aK {z:Str}{l:↑Str}(h:Cln z)(t:∀z∈l ,Cln z):∀y∈z::l,Cln y:=λy hy=>by
 rcases Hd.mp hy with rfl|hy
 exact h;exact t y hy
def Rr.Ok.cln {r:Rr}(g:r.Ok):(∀z∈r.ws ,Cln z)/\r.ws≠ []/\⇑r.ws<=8:=by
 let(k1,k2,k3,k4,k5,k6,k7,k8,k9,k10,k11,k12):=GJ;cases r with
 |box nm v=>exact(aK k1<|aK (cp g.1)<|aK (uz g.2) eY,by simp [ws],by simp [ws])
 |block nm=>exact(aK k2<|aK (cp g) eY,by simp [ws],by simp [ws])
 |put nm z e=>exact(aK k3<|aK (cp g.1)<|aK g.2.c eY,by simp [ws],by simp [ws])
 |say z e=>exact(aK k4<|aK g.c eY,by simp [ws],by simp [ws])
 |ask nm=>exact(aK k5<|aK (cp g) eY,by simp [ws],by simp [ws])
 |go nm=>exact(aK k6<|aK (cp g) eY,by simp [ws],by simp [ws])
 |iff s z1 e1 z2 e2 x y=>
  have hs:Cln s:=by rcases g.1 with rfl|rfl;exact k11;exact k12
  exact(aK k7<|aK g.2.1.c<|aK hs<|aK g.2.2.1.c<|aK (cp g.2.2.2.1)<|aK k8<|aK (cp g.2.2.2.2) eY,by simp [ws],by simp [ws])
 |table z e xs=>exact(aK k9 (aK g.1.c λx hx=>cp<|g.2.2.2 x hx),by simp [ws],by have:=g.2.2.1;simp [ws];omega)
 |stop=>exact(aK k10 eY,by simp [ws],by simp [ws])
def uG {c:Nat}{n:Nat}:∀ {l:↑Str},(∀z∈l ,⇑z<=n)->⇑(Str.join ⟨#[c]⟩ l)<=(n+1)*⇑l:=λ{l} h=>by
 refine HA (StrLaws.join_length_le _ l) ?_;have:(l.map (·.length)).sum<=n*⇑l:=by
  induction l with
  |nil=>simp
  |cons z l ih=>
   have a:=h z Hi;have b:=ih λz hz=>h z<|Ht _ hz;rw[Hg,Il,Hf,Kl];omega
 rw[Nat.add_mul,show ⇑(⟨#[c]⟩:Str)=1 from rfl,Nat.mul_one,Nat.one_mul];omega
theorem Rr.Ok.len {r:Rr}(g:r.Ok):⇑r.tx<=600:=by have a:=uG (c:=32) (n:=60) λz hz=>(g.cln.1 z hz).len;have b:=g.cln.2.2;unfold Rr.tx;omega
def z9 {r:Rr}(g:r.Ok):RJ (.str r.tx) [.str " "]=pr (.tl<|r.ws.map W.str):=by rw[ub];exact pX g.cln.2.1 (λz hz=>(g.cln.1 z hz).sp) (sz (by have:=g.len;unfold Rr.tx at this;omega))<|sz (by have:=g.cln.2.2;omega)
def Br {l:↑Str}(h:∀z∈l ,10 ∉z.cps.toList):10 ∉(Str.join ⟨#[32]⟩ l).cps.toList:=by
 induction l with
 |nil=>exact λz=>by cases z
 |cons x l ih=>
  cases l with
  |nil=>exact h x Hi
  |cons y l=>
   rw[fw,Ij,Hd,not_or,not_or];exact(h x Hi,↥_,ih λz hz=>h z<|Ht _ hz)
theorem Rr.Ok.nl {r:Rr}(g:r.Ok):10 ∉r.tx.cps.toList:=Br λz hz=>(g.cln.1 z hz).nl
def wk {z:Str}(h:aU z=true):kN [.str z]=pr (.bl true):=by show gd (⇑z<=sizeLine) (pr<|W.bl<|aU z)=_;rw[ag<|sz (by have:=(cp h).len;omega),h]
def yY {z:Str}(h:PF z=true):pz [.str z]=pr (.bl true):=by show gd (⇑z<=sizeLine) (pr<|W.bl<|PF z)=_;rw[ag<|sz (by have:=(uz h).len;omega),h]
def jC {z:Str}(h:Wrd z e):hU [.str z]=pr (NK e):=by
 show gd (⇑z<=sizeLine) (match NM z with
  |some e=>pr (NK e)
  |none=>no)=_
 rw[ag<|sz (by have:=h.c.len;omega),h.ex]
def cM {z:Str}(h:aU z=true):bU [.str z]=pr (.str z):=by have e0:bU [.str z]=bd (iB [some<|.str z]) NR:=rfl;rw[e0];unfold iB;simp! only[aa,wk h]
def Bw {z:Str}(h:PF z=true):Og [.str z]=pr (.int<|dC z):=by
 have a:=qx h
 show (match PySem.intText? z with
  |some n=>gd (⇑z<=640) (pr<|W.int n)
  |none=>no)=_
 rw[a.1];exact ag a.2
def oX {z:Str}(h:PF z=true):eU [.str z]=pr (.int<|dC z):=by have e0:eU [.str z]=bd (eO [some<|.str z]) NR:=rfl;rw[e0];unfold eO;simp! only[aa,yY h,Bw h]
def tx0 (a:W)(l:↑W):ixW (.tl (a::l)) (.int 0)=pr a:=cv<|bp ↥_ rfl
def tx1 (a b:W)(l:↑W):ixW (.tl (a::b::l)) (.int 1)=pr b:=cv<|bp ↥_ rfl
def tx2 (a b c:W)(l:↑W):ixW (.tl (a::b::c::l)) (.int 2)=pr c:=cv<|bp ↥_ rfl
def tx3 (a b c d:W)(l:↑W):ixW (.tl (a::b::c::d::l)) (.int 3)=pr d:=cv<|bp ↥_ rfl
def tx4 (a b c d e:W)(l:↑W):ixW (.tl (a::b::c::d::e::l)) (.int 4)=pr e:=cv<|bp ↥_ rfl
def tx5 (a b c d e f:W)(l:↑W):ixW (.tl (a::b::c::d::e::f::l)) (.int 5)=pr f:=cv<|bp ↥_ rfl
def tx6 (a b c d e f g:W)(l:↑W):ixW (.tl (a::b::c::d::e::f::g::l)) (.int 6)=pr g:=cv<|bp ↥_ rfl
def uN {x:Str}{ss:↑Str}:inB (.str x) (.tup<|ss.map W.str) h=some (decide<|x∈ss):=by
 show (match vOf (.str x) ,Sl (ss.map W.str) with
  |some v,some vs=>some (inV v vs)
  |_,_=>none)=_
 rw[d5 (k:=V.str)<|λa=>rfl];show some (inV (.str x)<|ss.map V.str)=_;rw[jy]
def j3 {x:Str}{ss:↑Str}:inW (.str x) (.tup<|ss.map W.str)=pr (.bl<|decide<|x∈ss):=by funext h;unfold inW;rw[uN];rfl
def vP {x:Str}{ss:↑Str}:cH (.str x) (.tup<|ss.map W.str)=pr (.bl<|!decide (x∈ss)):=by funext h;unfold cH;rw[uN];rfl
def yi {s:Str}(h:s="<"\/s="="):cH (.str s) (.tup<|(["<","="]:↑Str).map W.str)=pr (.bl false):=by rw[vP,bN<|by simpa using h];rfl
def hds:(decide (("box":Str)="block")=false/\decide (("box":Str)="put")=false/\decide (("box":Str)="say")=false/\decide (("box":Str)="ask")=false/\decide (("box":Str)="go")=false/\decide (("box":Str)="if")=false/\decide (("box":Str)="table")=false/\decide (("box":Str)="stop")=false)/\(decide (("block":Str)="box")=false/\decide (("block":Str)="put")=false/\decide (("block":Str)="say")=false/\decide (("block":Str)="ask")=false/\decide (("block":Str)="go")=false/\decide (("block":Str)="if")=false/\decide (("block":Str)="table")=false/\decide (("block":Str)="stop")=false)/\(decide (("put":Str)="box")=false/\decide (("put":Str)="block")=false/\decide (("put":Str)="say")=false/\decide (("put":Str)="ask")=false/\decide (("put":Str)="go")=false/\decide (("put":Str)="if")=false/\decide (("put":Str)="table")=false/\decide (("put":Str)="stop")=false)/\(decide (("say":Str)="box")=false/\decide (("say":Str)="block")=false/\decide (("say":Str)="put")=false/\decide (("say":Str)="ask")=false/\decide (("say":Str)="go")=false/\decide (("say":Str)="if")=false/\decide (("say":Str)="table")=false/\decide (("say":Str)="stop")=false)/\(decide (("ask":Str)="box")=false/\decide (("ask":Str)="block")=false/\decide (("ask":Str)="put")=false/\decide (("ask":Str)="say")=false/\decide (("ask":Str)="go")=false/\decide (("ask":Str)="if")=false/\decide (("ask":Str)="table")=false/\decide (("ask":Str)="stop")=false)/\(decide (("go":Str)="box")=false/\decide (("go":Str)="block")=false/\decide (("go":Str)="put")=false/\decide (("go":Str)="say")=false/\decide (("go":Str)="ask")=false/\decide (("go":Str)="if")=false/\decide (("go":Str)="table")=false/\decide (("go":Str)="stop")=false)/\(decide (("if":Str)="box")=false/\decide (("if":Str)="block")=false/\decide (("if":Str)="put")=false/\decide (("if":Str)="say")=false/\decide (("if":Str)="ask")=false/\decide (("if":Str)="go")=false/\decide (("if":Str)="table")=false/\decide (("if":Str)="stop")=false)/\(decide (("table":Str)="box")=false/\decide (("table":Str)="block")=false/\decide (("table":Str)="put")=false/\decide (("table":Str)="say")=false/\decide (("table":Str)="ask")=false/\decide (("table":Str)="go")=false/\decide (("table":Str)="if")=false/\decide (("table":Str)="stop")=false)/\(decide (("stop":Str)="box")=false/\decide (("stop":Str)="block")=false/\decide (("stop":Str)="put")=false/\decide (("stop":Str)="say")=false/\decide (("stop":Str)="ask")=false/\decide (("stop":Str)="go")=false/\decide (("stop":Str)="if")=false/\decide (("stop":Str)="table")=false):=(⋯,⋯,⋯,⋯,⋯,⋯,⋯,⋯,⋯)
def kj:(decide (((0+1:Nat):Int)=1)=true/\decide (((0+1:Nat):Int)=2)=false/\decide (((0+1:Nat):Int)=3)=false)/\(decide (((0+1+1:Nat):Int)=2)=true/\decide (((0+1+1:Nat):Int)=3)=false)/\decide (((0+1+1+1:Nat):Int)=3)=true/\decide (((0+1+1+1+1+1+1+1:Nat):Int)=7)=true:=↥_
def BN {s z1 z2 x y:Str}(g:(Rr.iff s z1 e1 z2 e2 x y).Ok):du [.tl<|(Rr.iff s z1 e1 z2 e2 x y).ws.map W.str]=pr (Rr.iff s z1 e1 z2 e2 x y).form:=by let(g1,g2,g3,g4,g5):=g;have e0:du [.tl<|(Rr.iff s z1 e1 z2 e2 x y).ws.map W.str]=bd (dk [some<|.tl [.str "if",.str z1,.str s,.str z2,.str x,.str "else",.str y],none,none,none]) NR:=rfl;rw[e0];unfold dk;simp! only[aa,tx1,tx2,tx3,tx4,tx5,tx6,yi g1,jC g2,jC g3,cM g4,cM g5];rfl
def sD {xs:↑Str}(h:∀x∈xs ,aU x=true):Nr (λJ=>True) (tgN 0) Pn (O5 (arW 1 bU)<|O7 (Pm 0) Pe) 2 (xs.map W.str) ρ=pr (xs.map W.str):=by
 have:=qX (t:=tgN 0) (f:=Pn) (e:=O5 (arW 1 bU)<|O7 (Pm 0) Pe) (n:=2) (ρ:=ρ) (b:=λJ=>true) (v:=id) (l:=xs.map W.str) λw hw=>by let(x,hx,rfl):=Hq.mp hw;refine(_,rfl,rfl,λJ=>?_);simp! only[List.replicate,HK,HS,aa,cM<|h x hx,id]
 rw[this,List.map_id,Km.mpr λJ J=>rfl]
def BA {r:Rr}(g:r.Ok):iG [.str r.tx]=pr r.form:=by
 have e0:iG [.str r.tx]=bd (iD [some<|.str r.tx,none,none,none]) NR:=rfl;rw[e0];unfold iD;have sp:=z9 g;cases r with
 |box nm v=>
  generalize (Rr.box nm v).tx=T at*;simp! only[aa,sp,Rr.ws,Hg,HM,tx0,tx1,tx2,cM g.1,oX g.2,eq_self,decide_true,kj];rfl
 |block nm=>
  generalize (Rr.block nm).tx=T at*;simp! only[aa,sp,Rr.ws,Hg,HM,tx0,tx1,tx2,hds,cM g,eq_self,decide_true,kj];rfl
 |put nm z e=>
  generalize (Rr.put nm z e).tx=T at*;simp! only[aa,sp,Rr.ws,Hg,HM,tx0,tx1,tx2,hds,cM g.1,jC g.2,eq_self,decide_true,kj];rfl
 |say z e=>
  generalize (Rr.say z e).tx=T at*;simp! only[aa,sp,Rr.ws,Hg,HM,tx0,tx1,tx2,hds,jC g,eq_self,decide_true,kj];rfl
 |ask nm=>
  generalize (Rr.ask nm).tx=T at*;simp! only[aa,sp,Rr.ws,Hg,HM,tx0,tx1,tx2,hds,cM g,eq_self,decide_true,kj];rfl
 |go nm=>
  generalize (Rr.go nm).tx=T at*;simp! only[aa,sp,Rr.ws,Hg,HM,tx0,tx1,tx2,hds,cM g,eq_self,decide_true,kj];rfl
 |iff s z1 e1 z2 e2 x y=>
  have ce:=BN g;generalize (Rr.iff s z1 e1 z2 e2 x y).tx=T at*;generalize (Rr.iff s z1 e1 z2 e2 x y).form=F at*;simp only[Rr.ws,Hg,HM]at sp ce;simp! only[aa,sp,tx0,tx1,tx2,hds,eq_self,decide_true,kj,ce]
 |table z e xs=>
  let(g1,g2,g3,g4):=g;generalize (Rr.table z e xs).tx=T at*;simp only[Rr.ws,Hg]at sp;have cu:Nv (W.str "table"::W.str z::xs.map W.str) (some 2) none=xs.map W.str:=by unfold Nv;show List.take _ (xs.map W.str)=_;rw[J4];show _<=⇑(xs.map W.str)+1+1-2;omega
  have l0:0<⇑xs:=KI.mpr g2;have gl:∀ {α:Type} (q:M α),gd (⇑(xs.map W.str)<=sizeLine) q=q:=λq=>ag (by rw[Hb];exact sz ∅);have c1:decide ((3:Int)<=((⇑(xs.map W.str)+1+1:Nat):Int))=true:=bN (by rw[Hb];omega);have c2:decide (((⇑(xs.map W.str)+1+1:Nat):Int)<=2+6)=true:=bN (by rw[Hb];omega);have nc:∀ρ,_:=λρ=>sD (ρ:=ρ) g4;simp! only[aa,sp,tx0,tx1,hds,eq_self,decide_true,c1,c2,jC g1,cu,aj,cW,gl,nc,jK];rfl
 |stop=>
  generalize Rr.stop.tx=T at*;simp! only[aa,sp,Rr.ws,Hg,HM,tx0,hds,eq_self,decide_true,kj];rfl
end
section
open Wd
noncomputable def NU:↑Str:=["boxes","block_names","ended_blocks","statements"]
def fne:(((("block_names":Str)="boxes")=False)/\((("ended_blocks":Str)="boxes")=False)/\((("statements":Str)="boxes")=False)/\((("ended_blocks":Str)="block_names")=False)/\((("statements":Str)="block_names")=False)/\((("statements":Str)="ended_blocks")=False))/\(((("boxes":Str)="statements")=False)/\((("block_names":Str)="statements")=False)/\((("ended_blocks":Str)="statements")=False))/\((("boxes":Str)="block_names")=False)/\((("boxes":Str)="ended_blocks")=False)/\((("block_names":Str)="ended_blocks")=False):=
 ((eq_false ⋯,eq_false ⋯,eq_false ⋯,eq_false ⋯,eq_false ⋯,eq_false ⋯),(eq_false ⋯,eq_false ⋯,eq_false ⋯),eq_false ⋯,eq_false ⋯,eq_false ⋯)
def Bi (a b c d:W):OV NU [a,b,c,d] "boxes"=`a:=by simp only[NU,OV,if_true]
def qI (a b c d:W):OV NU [a,b,c,d] "block_names"=`b:=by simp only[NU,OV,fne,if_true,if_false]
def EA (a b c d:W):OV NU [a,b,c,d] "ended_blocks"=`c:=by simp only[NU,OV,fne,if_true,if_false]
def Ez (a b c d:W):OV NU [a,b,c,d] "statements"=`d:=by simp only[NU,OV,fne,if_true,if_false]
def GX (a b c d y:W):putN NU [a,b,c,d] "statements" y=(NU ,[a,b,c,y]):=by simp only[NU,putN,fne,if_true,if_false]
def Pt:("in_block":Str)∉NU/\("box_names":Str)∉NU/\("check_place":Str)∉NU/\("check_twice":Str)∉NU/\("check_room":Str)∉NU/\("check_boxes":Str)∉NU/\("put_down":Str)∉NU/\("take":Str)∉NU/\("told_program":Str)∉NU:=⋯
structure RS where
 bx:↑(Str×Int)
 nm:↑Str
 dn:↑(Str×↑W×Rr)
 st:↑W
noncomputable def bqW (b:Str×Int):W:=.tup [.str b.1,.int b.2]
noncomputable def dnW (b:Str×↑W×Rr):W:=.tup [.str b.1,.tl b.2.1,b.2.2.form]
structure MW (h:↑Ob)(o jb jn je js:Nat)(s:RS):Prop where
 ob:h[o]?=some (.ins "Reading" NU [.loc jb,.loc jn,.loc je,.loc js])
 b:h[jb]?=some (.lst<|s.bx.map bqW)
 n:h[jn]?=some (.lst<|s.nm.map W.str)
 e:h[je]?=some (.lst<|s.dn.map dnW)
 st:⇑s.dn<⇑s.nm->h[js]?=some (.lst s.st)
 ne:o<jb/\jb<jn/\jn<je/\je<js
 z:⇑s.bx<=4/\⇑s.nm<=10/\⇑s.dn<=⇑s.nm/\⇑s.st<=8/\⇑s.nm<=⇑s.dn+1
section
variable {h:↑Ob}{o jb jn je js:Nat}{s:RS}
def l8 (A:MW h o jb jn je js s):Ok (bC [.loc o]) h λw h'=>w=.bl (decide<|⇑s.dn<⇑s.nm)/\h'=h:=by have e0:bC [.loc o]=bd (cC [some<|.loc o]) NR:=rfl;rw[e0];unfold cC;simp!;refine cG A.ob (qI ..) ?_;simp!;refine (Lw.len<|.inr (jn,rfl,A.n)) ?_;simp!;refine cG A.ob (EA ..) ?_;simp!;refine (Lw.len<|.inr (je,rfl,A.e)) ?_;simp!;refine ah (?_,rfl);rw[Hb,Hb];congr 1;rw[decide_eq_decide];omega
def oj (A:MW h o jb jn je js s):Ok (bJ [.loc o]) h λw h'=>w=.tl ((s.bx.map (·.1)).map W.str)/\h'=h:=by
 have e0:bJ [.loc o]=bd (ck [some<|.loc o]) NR:=rfl;rw[e0];unfold ck;simp!;refine cG A.ob (Bi ..) ?_;refine sB A.b ?_;have gl:∀ {α:Type} (q:M α),gd (⇑(s.bx.map bqW)<=sizeLine) q=q:=λq=>ag (by rw[Hb];exact sz (by have:=A.z.1;omega));simp! only[aa,gl];refine dH (I:=λi a h'=>h'=h/\a=((s.bx.take i).map (·.1)).map W.str) (rfl,rfl) eZ (λJ J J I=>by rw[I.1];exact A.b) (λi w a h' hw I=>?_) λa h' I=>?_;let(rfl,rfl):=I;rw[Hl]at hw;let(b,hb,rfl):=Hn.mp hw;refine(_,rfl,?_);simp! only[List.replicate,HK,HS,aa];refine ah (rfl,?_);rw[Iw,hb,Hh,Hh];rfl;let(rfl,rfl):=I;rw[Hb,Hz];simp!;exact ah (rfl,rfl)
def Dg (A:MW h o jb jn je js s)(p:s.nm=[]):Ok (av [.loc o,.str "box"]) h λJ h'=>h'=h:=by
 have e0:av [.loc o,.str "box"]=bd (aD [some<|.loc o,some<|.str "box"]) NR:=rfl;rw[e0];unfold aD;simp!;refine cG A.ob (qI ..) ?_;simp!;refine (Lw.len<|.inr (jn,rfl,A.n)) ?_;have:decide ((0:Int)<((⇑(s.nm.map W.str):Nat):Int))=false:=by rw[p];rfl
 simp! only[aa,this];exact ah rfl
def xG (A:MW h o jb jn je js s)(p:⇑s.dn=⇑s.nm):Ok (av [.loc o,.str "block"]) h λJ h'=>h'=h:=by have e0:av [.loc o,.str "block"]=bd (aD [some<|.loc o,some<|.str "block"]) NR:=rfl;rw[e0];unfold aD;simp! only[aa,hds];refine dS A.ob Pt.1 ?_;simp!;refine aJ (l8 A) λw h' qq_=>?_;let(ew,eh):=qq_;subst ew eh;simp! only[aa,bg<|show¬⇑s.dn<⇑s.nm by omega];exact ah rfl
def Fz {z:Str}(A:MW h o jb jn je js s)(n1:decide (z="box")=false)(n2:decide (z="block")=false)(p:⇑s.dn<⇑s.nm):Ok (av [.loc o,.str z]) h λJ h'=>h'=h:=by have e0:av [.loc o,.str z]=bd (aD [some<|.loc o,some<|.str z]) NR:=rfl;rw[e0];unfold aD;simp! only[aa,n1,n2];refine dS A.ob Pt.1 ?_;simp!;refine aJ (l8 A) λw h' qq_=>?_;let(ew,eh):=qq_;subst ew eh;simp! only[aa,bN p];exact ah rfl
def Cw {nm:Str}{w:W}(A:MW h o jb jn je js s)(p:nm ∉s.bx.map (·.1)):Ok (au [.loc o,.tup [.str "box",.str nm,w]]) h λJ h'=>h'=h:=by have e0:au [.loc o,.tup [.str "box",.str nm,w]]=bd (aC [some<|.loc o,some<|.tup [.str "box",.str nm,w]]) NR:=rfl;rw[e0];unfold aC;simp! only[aa,ix0,ix1];refine dS A.ob Pt.2.1 ?_;simp!;refine aJ (oj A) λw h' qq_=>?_;let(ew,eh):=qq_;subst ew eh;simp! only[aa,uM,bg p,hds];exact ah rfl
def wT {nm:Str}(A:MW h o jb jn je js s)(p:nm ∉s.nm):Ok (au [.loc o,.tup [.str "block",.str nm]]) h λJ h'=>h'=h:=by have e0:au [.loc o,.tup [.str "block",.str nm]]=bd (aC [some<|.loc o,some<|.tup [.str "block",.str nm]]) NR:=rfl;rw[e0];unfold aC;simp! only[aa,ix0,ix1,hds];refine cG A.ob (qI ..) ?_;simp!;refine FS A.n ?_;simp! only[aa,bg p];exact ah rfl
def Fe {z:Str}(n1:decide (z="box")=false)(n2:decide (z="block")=false):Ok (au [.loc o,.tup (.str z::l)]) h λJ h'=>h'=h:=by have e0:au [.loc o,.tup (.str z::l)]=bd (aC [some<|.loc o,some<|.tup (.str z::l)]) NR:=rfl;rw[e0];unfold aC;simp! only[aa,ix0,n1,n2];exact ah rfl
def RQ:decide (("box":Str)∈(["put","say","ask"]:↑Str))=false/\decide (("block":Str)∈(["put","say","ask"]:↑Str))=false:=⋯
def Da (A:MW h o jb jn je js s)(p:⇑s.bx<4):Ok (az [.loc o,.str "box"]) h λJ h'=>h'=h:=by have e0:az [.loc o,.str "box"]=bd (aG [some<|.loc o,some<|.str "box"]) NR:=rfl;rw[e0];unfold aG;simp!;refine cG A.ob (Bi ..) ?_;simp!;refine (Lw.len<|.inr (jb,rfl,A.b)) ?_;have:decide (((⇑(s.bx.map bqW):Nat):Int)=4)=false:=bg (by rw[Hb];omega);simp! only[aa,this,hds,j3,RQ.1];exact ah rfl
def xx (A:MW h o jb jn je js s)(p:⇑s.nm<10):Ok (az [.loc o,.str "block"]) h λJ h'=>h'=h:=by have e0:az [.loc o,.str "block"]=bd (aG [some<|.loc o,some<|.str "block"]) NR:=rfl;rw[e0];unfold aG;simp! only[aa,hds];refine cG A.ob (qI ..) ?_;simp!;refine (Lw.len<|.inr (jn,rfl,A.n)) ?_;have:decide (((⇑(s.nm.map W.str):Nat):Int)=10)=false:=bg (by rw[Hb];omega);simp! only[aa,this,hds,j3,RQ.2];exact ah rfl
def Fx {z:Str}(A:MW h o jb jn je js s)(n1:decide (z="box")=false)(n2:decide (z="block")=false)(p:⇑s.dn<⇑s.nm)(q:z∈(["put","say","ask"]:↑Str)->⇑s.st<8):Ok (az [.loc o,.str z]) h λJ h'=>h'=h:=by
 have e0:az [.loc o,.str z]=bd (aG [some<|.loc o,some<|.str z]) NR:=rfl;rw[e0];unfold aG;by_cases c:z∈(["put","say","ask"]:↑Str);simp! only[aa,n1,n2,j3,bN c];refine cG A.ob (Ez ..) ?_;simp!;refine (Lw.len<|.inr (js,rfl,A.st p)) ?_;have q:=q c;have:decide (((⇑s.st:Nat):Int)=8)=false:=bg ∅;simp! only[aa,this];exact ah rfl;simp! only[aa,n1,n2,j3,bg c];exact ah rfl
noncomputable def Rr.bxs:Rr->↑Str
 |.put nm _ e=>nm::NI e
 |.say _ e=>NI e
 |.ask nm=>[nm]
 |.iff _ _ e1 _ e2 _ _=>NI e1++NI e2
 |.table _ e _=>NI e
 |_=>[]
def jm {z:Str}(h:Wrd z e):aX 62 [NK e]=pr (.tl<|(NI e).map W.str):=lR 62 e (by have:=h.dp;omega) (by have:=h.nm;omega) h.ok
def yq {r:Rr}(g:r.Ok):aQ [r.form]=pr (.tl<|r.bxs.map W.str):=by
 cases r with
 |box nm v=>
  have e0:aQ [(Rr.box nm v).form]=bd (ak [some<|.tup [.str "box",.str nm,.int<|dC v]]) NR:=rfl;rw[e0];unfold ak;simp! only[aa,ix0,hds];rfl
 |block nm=>
  have e0:aQ [(Rr.block nm).form]=bd (ak [some<|.tup [.str "block",.str nm]]) NR:=rfl;rw[e0];unfold ak;simp! only[aa,ix0,hds];rfl
 |put nm z e=>
  have e0:aQ [(Rr.put nm z e).form]=bd (ak [some<|.tup [.str "put",.str nm,NK e]]) NR:=rfl;rw[e0];unfold ak;have gl:∀ {α:Type} (q:M α),gd (0+1+⇑((NI e).map W.str)<=sizeLine) q=q:=λq=>ag (by rw[Hb];exact sz (by have:=g.2.nm;omega));simp! only[aa,ix0,ix1,ix2,hds,jm g.2,Nm,uB,gl];rfl
 |say z e=>
  have e0:aQ [(Rr.say z e).form]=bd (ak [some<|.tup [.str "say",NK e]]) NR:=rfl;rw[e0];unfold ak;simp! only[aa,ix0,ix1,hds,jm g];rfl
 |ask nm=>
  have e0:aQ [(Rr.ask nm).form]=bd (ak [some<|.tup [.str "ask",.str nm]]) NR:=rfl;rw[e0];unfold ak;simp! only[aa,ix0,ix1,hds];rfl
 |go nm=>
  have e0:aQ [(Rr.go nm).form]=bd (ak [some<|.tup [.str "go",.str nm]]) NR:=rfl;rw[e0];unfold ak;simp! only[aa,ix0,ix1,hds];rfl
 |iff s z1 e1 z2 e2 x y=>
  have e0:aQ [(Rr.iff s z1 e1 z2 e2 x y).form]=bd (ak [some<|.tup [.str "if",.str s,NK e1,NK e2,.str x,.str y]]) NR:=rfl;rw[e0];unfold ak;have ad:=jI ((NI e1).map W.str) ((NI e2).map W.str) (by rw[Hb,Hb];exact sz (by have:=g.2.1.nm;have:=g.2.2.1.nm;omega));simp! only[aa,ix0,ix2,ix3,hds,jm g.2.1,jm g.2.2.1,ad];show pr _=pr (W.tl<|(NI e1++NI e2).map W.str);rw[Hh]
 |table z e xs=>
  have e0:aQ [(Rr.table z e xs).form]=bd (ak [some<|.tup [.str "table",NK e,.tup<|xs.map W.str]]) NR:=rfl;rw[e0];unfold ak;simp! only[aa,ix0,ix1,hds,jm g.1];rfl
 |stop=>
  have e0:aQ [(Rr.stop).form]=bd (ak [some<|.tup [.str "stop"]]) NR:=rfl;rw[e0];unfold ak;simp! only[aa,ix0,hds];rfl
def zz {r:Rr}(g:r.Ok)(A:MW h o jb jn je js s)(p:∀x∈r.bxs ,x∈s.bx.map (·.1)):Ok (bw [.loc o,r.form]) h λJ h'=>h'=h:=by
 have e0:bw [.loc o,r.form]=bd (bW [some<|.loc o,some r.form,none,none]) NR:=rfl;rw[e0];unfold bW;have ne:=yq g;generalize r.form=F at*;simp!;refine dS A.ob Pt.2.1 ?_;simp!;refine aJ (oj A) λw h' qq_=>?_;let(ew,eh):=qq_;subst ew eh;simp! only[aa,ne,cW];refine cz (I:=λi ρ h1=>h1=h'/\∃a ,ρ=[some<|.loc o,some F,some (.tl ((s.bx.map (·.1)).map W.str)),a]) (rfl,_,rfl) (λJ J J J=>trivial) (λi w ρ h1 hw I=>?_) λρ h1 I=>?_;let(rfl,a,rfl):=I;rw[Hl]at hw;let(x,hx,rfl):=Hn.mp hw;refine(_,rfl,?_);simp! only[aa,sC,bN<|p x<|HH hx];exact ah (_,rfl,rfl,_,rfl);let(rfl,a,rfl):=I;simp!;exact ah rfl
end
end
section
open Wd
noncomputable def Rr.stm:Rr->Bool|.put _ _ _=>true|.say _ _=>true|.ask _=>true|_=>false
noncomputable def Rr.end':Rr->Bool|.go _=>true|.iff _ _ _ _ _ _ _=>true|.table _ _ _=>true|.stop=>true|_=>false
noncomputable def RS.step (s:RS)(r:Rr):RS:=match r with
 |.box nm v=>{s with bx:=s.bx++[(nm ,dC v)]}
 |.block nm=>{s with nm:=s.nm++[nm],st:=[]}
 |.put nm z e=>{s with st:=s.st++[(Rr.put nm z e).form]}
 |.say z e=>{s with st:=s.st++[(Rr.say z e).form]}
 |.ask nm=>{s with st:=s.st++[(Rr.ask nm).form]}
 |r=>{s with dn:=s.dn++[(s.nm.getLastD "" ,s.st,r)]}
def pV {s:RS}{r:Rr}(h:r.stm=true):s.step r={s with st:=s.st++[r.form]}:=by cases r<;>first|rfl|cases h
def pW {s:RS}{r:Rr}(h:r.end'=true):s.step r={s with dn:=s.dn++[(s.nm.getLastD "" ,s.st,r)]}:=by cases r<;>first|rfl|cases h
structure MV (s:RS)(r:Rr):Prop where
 i:⇑s.dn<⇑s.nm
 c:r.stm=true->⇑s.st<8
 b:∀x∈r.bxs,x∈s.bx.map (·.1)
def Pre (s:RS)(r:Rr):Prop:=match r with|.box nm _=>s.nm=[]/\nm ∉s.bx.map (·.1)/\⇑s.bx<4|.block nm=>⇑s.dn=⇑s.nm/\nm ∉s.nm/\⇑s.nm<10|r=>MV s r
def De (p:Pre s r)(h:r.stm=true\/r.end'=true):MV s r:=by cases r<;>first|exact p|(rcases h with h|h<;>cases h)
structure Fo (o:Nat)(h h':↑Ob):Prop where
 eq:∀i,i<o->h'[i]?=h[i]?
 le:⇑h<=⇑h'
theorem Fo.trans {o:Nat}(x:Fo o a b)(y:Fo o b c):Fo o a c:=(λi hi=>(y.eq i hi).trans<|x.eq i hi,HA x.le y.le)
theorem Fo.set {o j:Nat}(hj:o<=j):Fo o h (h.set j b):=(λi hi=>by rw[Hr ∅],by rw[HP];exact Hc _)
noncomputable def Rr.hd:Rr->Str
 |.box _ _=>"box"
 |.block _=>"block"
 |.put _ _ _=>"put"
 |.say _ _=>"say"
 |.ask _=>"ask"
 |.go _=>"go"
 |.iff _ _ _ _ _ _ _=>"if"
 |.table _ _ _=>"table"
 |.stop=>"stop"
def kL (r:Rr):∃l,r.form=.tup (.str r.hd::l):=by cases r<;>exact(_,rfl)
def zb {r:Rr}(h:r.stm=true\/r.end'=true):decide (r.hd="box")=false/\decide (r.hd="block")=false:=by cases r<;>first|(rcases h with h|h<;>cases h;done)|(unfold Rr.hd;simp only[hds];exact(trivial,trivial))|(unfold Rr.hd;simp only[hds,and_self])
def RR:("put":Str)∈(["put","say","ask"]:↑Str)/\("say":Str)∈(["put","say","ask"]:↑Str)/\("ask":Str)∈(["put","say","ask"]:↑Str):=⋯
def ND:("go":Str)∉(["put","say","ask"]:↑Str)/\("if":Str)∉(["put","say","ask"]:↑Str)/\("table":Str)∉(["put","say","ask"]:↑Str)/\("stop":Str)∉(["put","say","ask"]:↑Str):=⋯
def EM {r:Rr}(h:r.stm=true):r.hd∈(["put","say","ask"]:↑Str):=by cases r<;>first|exact absurd h Hv|exact RR.1|exact RR.2.1|exact RR.2.2
def zc {r:Rr}(h:r.end'=true):r.hd ∉(["put","say","ask"]:↑Str):=by cases r<;>first|exact absurd h Hv|exact ND.1|exact ND.2.1|exact ND.2.2.1|exact ND.2.2.2
section
variable {h:↑Ob}{o jb jn je js:Nat}{s:RS}
def Dp {nm v:Str}(A:MW h o jb jn je js s)(p:Pre s (.box nm v)):Ok (ar [.loc o,(Rr.box nm v).form]) h λJ h'=>MW h' o jb jn je js (s.step<|.box nm v)/\Fo o h h':=by
 have e0:ar [.loc o,(Rr.box nm v).form]=bd (aA [some<|.loc o,some<|.tup [.str "box",.str nm,.int<|dC v]]) NR:=rfl;rw[e0];unfold aA;let(n1,n2,n3,n4):=A.ne;have p:s.nm=[]/\nm ∉s.bx.map (·.1)/\⇑s.bx<4:=p;simp! only[aa,ix0];refine cG A.ob (Bi ..) ?_;refine cL A.b ?_;simp! only[aa,ix1,ix2];refine d9 A.b (by rw[Hb];exact HQ (show _<=10 by omega) ↥_) ?_;simp!;refine ah ((?_,?_,?_,?_,?_,A.ne,?_),Fo.set ∅);rw[Hr ∅];exact A.ob;rw[de A.b];show _=some (Ob.lst<|(s.bx++[(nm ,dC v)]).map bqW);rw[Hh];rfl;rw[Hr ∅];exact A.n;rw[Hr ∅];exact A.e;intro q;rw[Hr ∅];exact A.st q;let(z1,z2,z3,z4,z5):=A.z;refine(?_,z2,z3,z4,z5);show ⇑(s.bx++[_])<=4;rw[Hk,HI];omega
def xS {nm:Str}(A:MW h o jb jn je js s)(p:Pre s (.block nm)):Ok (ar [.loc o,(Rr.block nm).form]) h λJ h'=>(∃js' ,MW h' o jb jn je js'<|s.step<|.block nm)/\Fo o h h':=by
 have e0:ar [.loc o,(Rr.block nm).form]=bd (aA [some<|.loc o,some<|.tup [.str "block",.str nm]]) NR:=rfl;rw[e0];unfold aA;let(n1,n2,n3,n4):=A.ne;have p:⇑s.dn=⇑s.nm/\nm ∉s.nm/\⇑s.nm<10:=p;simp! only[aa,ix0,hds];refine cG A.ob (qI ..) ?_;refine cL A.n ?_;simp! only[aa,ix1];refine d9 A.n (by rw[Hb];exact HQ (show _<=10 by omega) ↥_) ?_;simp!;refine gY ?_;simp!;have le:=dj A.e;have lo:=dj A.ob;have ln:=dj A.n;have eo:(h.set jn (.lst<|s.nm.map W.str++[.str nm])++[.lst []])[o]?=some (.ins "Reading" NU [.loc jb,.loc jn,.loc je,.loc js]):=by rw[HN (by rw[HP];exact lo),Hr ∅];exact A.ob
 refine ye eo (by show 4<1000;decide) (GX ..) ?_;simp!;have hl:⇑(h.set jn<|.lst<|s.nm.map W.str++[.str nm])=⇑h:=HP ..;refine ah ((⇑h,(?_,?_,?_,?_,?_,?_,?_)),(λi hi=>?_,?_));rw[de eo,hl];rw[Hr ∅,HN (by rw[hl];exact dj A.b),Hr ∅];exact A.b;rw[Hr ∅,HN (by rw[hl];exact ln),de A.n];show _=some (Ob.lst<|(s.nm++[nm]).map W.str);rw[Hh];rfl;rw[Hr ∅,HN (by rw[hl];exact le),Hr ∅];exact A.e;intro _;rw[Hr ∅];have:=f9 (h:=h.set jn<|.lst<|s.nm.map W.str++[.str nm]) (a:=.lst []);rw[hl]at this;exact this;exact(n1,n2,n3,le)
 .let(z1,z2,z3,z4,z5):=A.z;refine(z1,?_,?_,Hy _,?_);show ⇑(s.nm++[nm])<=10;rw[Hk,HI];omega;show ⇑s.dn<=⇑(s.nm++[nm]);rw[Hk,HI];omega;show ⇑(s.nm++[nm])<=⇑s.dn+1;rw[Hk,HI];omega
 rw[Hr ∅,HN (by rw[hl];omega),Hr ∅];rw[HP,Hk,hl];omega
def Dn (q:r.stm=true)(A:MW h o jb jn je js s)(p:MV s r):Ok (ar [.loc o,r.form]) h λJ h'=>MW h' o jb jn je js (s.step r)/\Fo o h h':=by
 rw[pV q];have nh:=zb (r:=r)<|.inl q;have st:=EM q;let(l,e):=kL r;rw[e];have e0:ar [.loc o,.tup (.str r.hd::l)]=bd (aA [some<|.loc o,some<|.tup (.str r.hd::l)]) NR:=rfl;rw[e0];unfold aA;let(n1,n2,n3,n4):=A.ne;have pr':=p.c q;simp! only[aa,ix0,nh.1,nh.2,j3,bN st];refine cG A.ob (Ez ..) ?_;refine cL (A.st p.i) ?_;simp!;refine d9 (A.st p.i) (HQ (show _<=10 by omega) ↥_) ?_;simp!;refine ah ((?_,?_,?_,?_,?_,A.ne,?_),Fo.set ∅);rw[Hr ∅];exact A.ob;rw[Hr ∅];exact A.b;rw[Hr ∅];exact A.n;rw[Hr ∅];exact A.e;intro _;rw[de<|A.st p.i];let(z1,z2,z3,z4,z5):=A.z;refine(z1,z2,z3,?_,z5);show ⇑(s.st++[_])<=8;rw[Hk,HI];omega
def sW {l:↑Str}(h:l≠ []):atI (l.map W.str) (-1)=some (.str<|l.getLastD ""):=by
 have e:l=l.dropLast++[l.getLast h]:=(List.dropLast_concat_getLast h).symm;have g:l.getLastD ""=l.getLast h:=by
  cases l with|nil=>exact absurd rfl h|cons a l=>rw[List.getLastD_cons,List.getLast_eq_getLastD]
 rw[g]
 conv=>lhs;rw[e,Hh]
 exact zN _ _
def Do (q:r.end'=true)(A:MW h o jb jn je js s)(p:MV s r):Ok (ar [.loc o,r.form]) h λJ h'=>MW h' o jb jn je js (s.step r)/\Fo o h h':=by
 rw[pW q];have nh:=zb (r:=r)<|.inr q;have st:=zc q;let(l,e):=kL r;have ie:∀x,W.tup [.str x,.tl s.st,.tup (.str r.hd::l)]=dnW (x ,s.st,r):=λx=>by unfold dnW;rw[<-e]
 rw[e];have e0:ar [.loc o,.tup (.str r.hd::l)]=bd (aA [some<|.loc o,some<|.tup (.str r.hd::l)]) NR:=rfl;rw[e0];unfold aA;let(n1,n2,n3,n4):=A.ne;let(z1,z2,z3,z4,z5):=A.z;have pi:=p.i;have nn:s.nm≠ []:=λz=>by rw[z]at pi;simp at pi
 simp! only[aa,ix0,nh.1,nh.2,j3,bg st];refine cG A.ob (EA ..) ?_;refine cL A.e ?_;simp!;refine cG A.ob (qI ..) ?_;simp!;refine Cd A.n (sW nn) ?_;simp!;refine cG A.ob (Ez ..) ?_;refine iV (A.st pi) ?_;have e2:(h.set js .gone)[je]?=some (.lst<|s.dn.map dnW):=by rw[Hr ∅];exact A.e
 simp!;refine d9 e2 (by rw[Hb];exact HQ (show _<=10 by omega) ↥_) ?_;simp!;refine ah ((?_,?_,?_,?_,?_,A.ne,?_),(Fo.set ∅).trans<|Fo.set ∅);rw[Hr ∅,Hr ∅];exact A.ob;rw[Hr ∅,Hr ∅];exact A.b;rw[Hr ∅,Hr ∅];exact A.n;rw[de e2,ie];show _=some (Ob.lst<|(s.dn++[_]).map dnW);rw[Hh];rfl;intro q;have q:⇑(s.dn++[_])<⇑s.nm:=q;rw[Hk,HI]at q;omega
 .refine(z1,z2,?_,z4,?_);show ⇑(s.dn++[_])<=⇑s.nm;rw[Hk,HI];omega;show ⇑s.nm<=⇑(s.dn++[_])+1;rw[Hk,HI];omega
def Gn (r:Rr):(∃nm v ,r=.box nm v)\/(∃nm ,r=.block nm)\/r.stm=true\/r.end'=true:=by cases r<;>first|exact .inl (_,_,rfl)|exact .inr (.inl (_,rfl))|exact .inr (.inr<|.inl rfl)|exact .inr<|.inr<|.inr rfl
def zX (g:r.Ok)(A:MW h o jb jn je js s)(p:Pre s r):Ok (dz [.loc o,r.form]) h λw h'=>w=.non/\(∃js' ,MW h' o jb jn je js'<|s.step r)/\Fo o h h':=by
 have e0:dz [.loc o,r.form]=bd (dl [some<|.loc o,some r.form]) NR:=rfl;rw[e0];unfold dl;let(m1,m2,m3,m4,m5,m6,m7,m8,m9):=Pt;have st:Ok (av [.loc o,.str r.hd]) h (λJ h'=>h'=h)/\Ok (au [.loc o,r.form]) h (λJ h'=>h'=h)/\Ok (az [.loc o,.str r.hd]) h (λJ h'=>h'=h)/\Ok (bw [.loc o,r.form]) h (λJ h'=>h'=h)/\Ok (ar [.loc o,r.form]) h λJ h'=>(∃js' ,MW h' o jb jn je js'<|s.step r)/\Fo o h h':=by
  rcases Gn r with⟨nm,v,rfl⟩|⟨nm,rfl⟩|q
  have p':s.nm=[]/\nm ∉s.bx.map (·.1)/\⇑s.bx<4:=p;exact(Dg A p'.1,Cw A p'.2.1,Da A p'.2.2,zz g A (λx hx=>absurd hx HB),(Dp A p).imp λ_ _ (a,b)=>((_,a),b));have p':⇑s.dn=⇑s.nm/\nm ∉s.nm/\⇑s.nm<10:=p;exact(xG A p'.1,wT A p'.2.1,xx A p'.2.2,zz g A (λx hx=>absurd hx HB),xS A p)
  .have pi:=De p q;have nh:=zb q;let(l,e):=kL r;refine(Fz A nh.1 nh.2 pi.i,by rw[e];exact Fe nh.1 nh.2,Fx A nh.1 nh.2 pi.i λhm=>?_,zz g A pi.b,?_)
   .rcases q with q|q
    exact pi.c q;exact absurd hm<|zc q
   .rcases q with q|q
    exact (Dn q A pi).imp λ_ _ (a,b)=>((_,a),b)
    exact (Do q A pi).imp λ_ _ (a,b)=>((_,a),b)
 let(s1,s2,s3,s4,s5):=st;have ih:ixW r.form (.int 0)=pr (.str r.hd):=by let(l,e):=kL r;rw[e];exact ix0 ..
 generalize r.form=F at*;simp!;refine dS A.ob m3 ?_;simp! only[aa,ih];refine aJ s1 λJ h1 eh=>?_;subst eh;simp!;refine dS A.ob m4 ?_;simp!;refine aJ s2 λJ h1 eh=>?_;subst eh;simp!;refine dS A.ob m5 ?_;simp! only[aa,ih];refine aJ s3 λJ h1 eh=>?_;subst eh;simp!;refine dS A.ob m6 ?_;simp!;refine aJ s4 λJ h1 eh=>?_;subst eh;simp!;refine dS A.ob m7 ?_;simp!;refine aJ s5 λJ h1 q=>?_;simp!;exact ah (rfl,q)
end
end
section
open Wd
noncomputable def Oy (l:↑Str)(x:Str):Nat:=(l.findIdx?<|λm=>decide<|m=x).getD 0
def nV {l:↑Str}{x:Str}(h:x∈l):l.findIdx? (λm=>decide<|m=x)=some (Oy l x)/\Oy l x<⇑l:=by
 unfold Oy;cases e:l.findIdx? (λm=>decide<|m=x) with
 |none=>
  rw[List.findIdx?_eq_none_iff]at e;have:=e x h;simp at this
 |some i=>
  refine(rfl,?_);rw[KJ]at e;exact e.1
noncomputable def Rr.en (l:↑Str):Rr->E17|.go nm=>.go (Oy l nm:Nat)|.iff s _ e1 _ e2 x y=>.iff s (NK e1) (NK e2) (Oy l x:Nat) (Oy l y:Nat)|.table _ e xs=>.table (NK e) (xs.map λx=>((Oy l x:Nat):Int))|_=>.stop
noncomputable def Rr.tos:Rr->↑Str
 |.go nm=>[nm]
 |.iff _ _ _ _ _ x y=>[x,y]
 |.table _ _ xs=>xs
 |_=>[]
section
variable {h:↑Ob}{jn:Nat}{ss:↑Str}
def yf {β:Type}{Q:β->↑Ob->Prop}{j:Nat}{x:Str}{ss:↑Str}{k:W->M β}(e:h[j]?=some (.lst<|ss.map W.str))(q:Ok (k<|.bl<|!decide (x∈ss)) h Q):Ok (bd (cH (.str x)<|.loc j) k) h Q:=by
 refine bj (a:=.bl<|!decide (x∈ss)) (h':=h) ?_ q;unfold cH;have d:Nz (.loc j) h=none:=by unfold Nz;simp only[e]
 have lo:O1 (.loc j) h=.ok (ss.map W.str) h:=by unfold O1;simp only[e]
 have e:inB (.str x) (.loc j) h=some (decide<|x∈ss):=by unfold inB;simp only[d,lo,d5 (g:=W.str) (k:=V.str) (λa=>rfl) ss];show some (inV (.str x)<|ss.map V.str)=_;rw[jy]
 rw[e]
def lT {j:Nat}(e:h[j]?=some (.lst l)):O0 (.loc j) h=.ok l h:=by unfold O0;simp only[e]
def ji {x:Str}(e:h[jn]?=some (.lst<|ss.map W.str))(m:x∈ss):Ok (da [.str x,.loc jn]) h λw h'=>w=.int (Oy ss x:Nat)/\h'=h:=by have e0:da [.str x,.loc jn]=bd (gf [some<|.str x,some<|.loc jn]) NR:=rfl;rw[e0];unfold gf;simp!;refine yf e ?_;simp! only[aa,bN m,Oo];refine bj (lT e) ?_;simp! only[aa,Rw];refine bj (lT e) ?_;have o:P6 sOf (ss.map W.str)=`ss:=jj (f:=sOf) (g:=W.str) (λa=>rfl) ss;rw[o];dsimp only;rw[(nV m).1];simp!;exact ah (rfl,rfl)
def sl64 (a b c d e f:W):slW (.tup [a,b,c,d,e,f]) none (some 4)=pr (.tup [a,b,c,d]):=by show gd (¬(HT.sIx 6 0 none=0/\HT.sIx 6 6 (some 4)=6)) (pr<|W.tup<|Nv [a,b,c,d,e,f] none<|some 4)=_;rw[ag ↥_];rfl
def E9 (a b c d e f:W):M8 (.tup [a,b,c,d]) (.tup [e,f])=pr (.tup [a,b,c,d,e,f]):=by show gd _ (pr<|W.tup<|[a,b,c,d]++[e,f])=_;rw[ag (rfl,sz<|by show 4+2<=_;omega)];rfl
def BC {r:Rr}(q:r.end'=true)(e:h[jn]?=some (.lst<|ss.map W.str))(g:r.Ok)(m:∀x∈r.tos ,x∈ss):Ok (bH [r.form,.loc jn]) h λw h'=>w=(r.en ss).w/\h'=h:=by
 cases r with
 |go nm=>
  have e0:bH [(Rr.go nm).form,.loc jn]=bd (aP [some<|.tup [.str "go",.str nm],some<|.loc jn]) NR:=rfl;rw[e0];unfold aP;simp! only[aa,ix0,ix1,hds];refine aJ (ji e<|m nm Hi) λw h' qq_=>?_;let(ew,eh):=qq_;subst ew eh;simp!;exact ah (rfl,rfl)
 |iff s z1 e1 z2 e2 x y=>
  have e0:bH [(Rr.iff s z1 e1 z2 e2 x y).form,.loc jn]=bd (aP [some<|.tup [.str "if",.str s,NK e1,NK e2,.str x,.str y],some<|.loc jn]) NR:=rfl;rw[e0];unfold aP;simp! only[aa,ix0,ix4,ix5,hds,sl64];refine aJ (ji e<|m x Hi) λw h' qq_=>?_;let(ew,eh):=qq_;subst ew eh;simp! only[aa,ix5];refine aJ (ji e<|m y<|Ht _ Hi) λw h' qq_=>?_;let(ew,eh):=qq_;subst ew eh;simp! only[aa,E9];exact ah (rfl,rfl)
 |table z e1 xs=>
  have e0:bH [(Rr.table z e1 xs).form,.loc jn]=bd (aP [some<|.tup [.str "table",NK e1,.tup<|xs.map W.str],some<|.loc jn]) NR:=rfl;rw[e0];unfold aP;have gl:∀ {α:Type} (q:M α),gd (⇑(xs.map W.str)<=sizeLine) q=q:=λq=>ag (by rw[Hb];exact sz (by have:=g.2.2.1;omega));simp! only[aa,ix0,ix1,ix2,hds,gl];refine dH (I:=λi a h'=>h'=h/\a=((xs.take i).map λx=>((Oy ss x:Nat):Int)).map W.int) (rfl,rfl) eZ (λJ J J J=>trivial) (λi w a h' hw I=>?_) λa h' I=>?_;let(rfl,rfl):=I;rw[Hl]at hw;let(x,hx,rfl):=Hn.mp hw;refine(_,rfl,?_);simp! only[List.replicate,HK,HS,aa];refine (ji e<|m x<|HH hx).imp λw h2 qz=>?_;let(ew,eh):=qz;subst ew eh;refine(rfl,?_);rw[Iw,hx,Hh,Hh];rfl;let(rfl,rfl):=I;rw[Hb,Hz];simp! only[aa,jK];exact ah (rfl,rfl)
 |stop=>
  have e0:bH [Rr.stop.form,.loc jn]=bd (aP [some<|.tup [.str "stop"],some<|.loc jn]) NR:=rfl;rw[e0];unfold aP;simp! only[aa,ix0,hds];exact ah (rfl,rfl)
 |_=>cases q
end
noncomputable def bkW (l:↑Str)(b:Str×↑W×Rr):W:=.tup [.str b.1,.tl b.2.1,(b.2.2.en l).w]
structure MF (s:RS):Prop where
 l:⇑s.dn=⇑s.nm
 l1:1<=⇑s.nm
 e:∀b∈s.dn,b.2.2.end'=true/\b.2.2.Ok/\∀x∈b.2.2.tos,x∈s.nm
def zV {o jb jn je js:Nat}(A:MW h o jb jn je js s)(E:MF s):Ok (bL [.loc o]) h λw h'=>w=.tup [.tl<|s.bx.map bqW,.tl<|s.dn.map<|bkW s.nm]/\Fo o h h':=by
 have e0:bL [.loc o]=bd (bK [some<|.loc o,none,none,none,none]) NR:=rfl;rw[e0];unfold bK;let(n1,n2,n3,n4):=A.ne;let(z1,z2,z3,z4,z5):=A.z;have el:=E.l;have el1:=E.l1;have lo:=dj A.ob;have lb:=dj A.b;have ln:=dj A.n;have le:=dj A.e;simp!;refine dS A.ob Pt.1 ?_;simp!;refine aJ (l8 A) λw h' qq_=>?_;let(ew,eh):=qq_;subst ew eh;simp! only[aa,bg<|show¬⇑s.dn<⇑s.nm by omega];refine cG A.ob (qI ..) ?_;simp!;refine (Lw.len<|.inr (jn,rfl,A.n)) ?_;have d0:decide (((⇑(s.nm.map W.str):Nat):Int)=0)=false:=bg (by rw[Hb];omega);simp! only[aa,d0];refine gY ?_;have ap:∀ {j:Nat}{b:Ob},h'[j]?=`b->(h'++[.lst []])[j]?=`b:=λe=>Bz e;simp!;refine cG (ap A.ob) (EA ..) ?_;refine sB (ap A.e) ?_;simp!;refine cz (I:=λi ρ h1=>∃a b c ,ρ=[some<|.loc o,some<|.loc ⇑h',a,b,c]/\⇑h1=⇑h'+1/\(∀j ,j<⇑h'->h1[j]?=h'[j]?)/\h1[⇑h']?=some (.lst<|(s.dn.take i).map<|bkW s.nm)) (_,_,_,rfl,⇑_,λj hj=>by rw[HN hj],f9) (λJ J J I=>by let(a,b,c,_,_,q,_):=I;rw[q _ le];exact A.e) (λi w ρ h1 hw I=>?_) λρ h1 I=>?_
 .let(a,b,c,rfl,l1,q1,q2):=I;rw[Hl]at hw;let((nm,sts,r),hb,rfl):=Hn.mp hw;let(r1,r2,r3):=E.e _<|HH hb;have hi:=(Hm.mp hb).1;refine([some<|.loc o,some<|.loc ⇑h',some<|.str nm,some<|.tl sts,some r.form],rfl,?_);have en:h1[jn]?=some (.lst<|s.nm.map W.str):=by rw[q1 _ ln];exact A.n
  have eo:h1[o]?=some (.ins "Reading" NU [.loc jb,.loc jn,.loc je,.loc js]):=by rw[q1 _ lo];exact A.ob
  have eb:=BC r1 en r2 r3;generalize r.form=F at*;simp!;refine cL q2 ?_;simp!;refine cG eo (qI ..) ?_;simp!;refine aJ eb λw h2 qq_=>?_;let(ew,eh):=qq_;subst ew eh;simp!;refine d9 q2 (by rw[Hb,H9];exact HQ (show _<=10 by omega) ↥_) ?_;simp!;refine ah (_,rfl,_,_,_,rfl,by rw[HP];exact l1,λj hj=>by rw[Hr ∅];exact q1 j hj,?_);rw[de q2,Iw,hb,Hh];rfl
 .let(a,b,c,rfl,l1,q1,q2):=I;rw[Hb,Hz]at q2;have eo:h1[o]?=some (.ins "Reading" NU [.loc jb,.loc jn,.loc je,.loc js]):=by rw[q1 _ lo];exact A.ob
  have eb:h1[jb]?=some (.lst<|s.bx.map bqW):=by rw[q1 _ lb];exact A.b
  simp!;refine cG eo (Bi ..) ?_;refine iV eb ?_;have q3:(h1.set jb .gone)[⇑h']?=some (.lst<|s.dn.map<|bkW s.nm):=by rw[Hr ∅];exact q2
  simp!;refine iV q3 ?_;simp!;refine ah (rfl,λi hi=>?_,?_);rw[Hr ∅,Hr ∅];exact q1 i ∅;rw[HP,HP,l1];omega
noncomputable def OkR:↑Rr->RS->Prop|[],_=>True|r::rs,s=>(r.Ok/\Pre s r)/\OkR rs (s.step r)
noncomputable def QG (rs:↑Rr)(s:RS):RS:=rs.foldl RS.step s
theorem kG:∀ {a b:↑Rr}{s:RS},OkR a s->OkR b (QG a s)->OkR (a++b) s
 |[],_,_,_,h=>h
 |r::a,b,s,g,h=>(g.1,kG (a:=a) g.2 h)
def ly (a b:↑Rr)(s:RS):QG (a++b) s=QG b (QG a s):=JK ..
theorem ux:∀ {a:↑Rr}{s:RS},OkR a s->∀r∈a,r.Ok
 |[],_,_,r,h=>absurd h HB
 |x::a,s,g,r,h=>by
  rcases Hd.mp h with rfl|h
  exact g.1.1;exact ux g.2 r h
noncomputable def RS.nil:RS:=([],[],[],[])
section
variable {β:Type}{h:↑Ob}{Q:β->↑Ob->Prop}
def oY {k:W->M β}{n:Nat}(hn:L.length=n)(q:Ok (k<|.loc<|⇑h+n) (h++(L++[.lst l])) Q):Ok (bd (PB l) k) (h++L) Q:=by refine gY ?_;rw[Hk,HF,hn];exact q
def oN {c f:Str}{ns ns':↑Str}{ws ws':↑W}{k:Unit->M β}(z:⇑ns<1000)(e2:putN ns ws f y=(ns' ,ws'))(q:Ok (k ()) (h++.ins c ns' ws'::L) Q):Ok (bd (Qr c f (.loc ⇑h) y) k) (h++.ins c ns ws::L) Q:=by refine ye (by rw[Iq<|Hc _,J7];rfl) z e2 ?_;rw[List.set_append_right _ _<|Hc _,J7];exact q
end
def Bx (h:↑Ob):Ok (cE [.loc ⇑h]) (h++[.ins "Reading" [] []]) λw h'=>w=.non/\MW h' ⇑h (⇑h+1) (⇑h+2) (⇑h+3) (⇑h+4) RS.nil/\Fo ⇑h h h':=by
 have e0:cE [.loc ⇑h]=bd (cD [some<|.loc ⇑h]) NR:=rfl;rw[e0];unfold cD;simp!;refine oY (n:=1) rfl ?_;simp! only[HK,HS,aa];refine oN (by show 0<1000;decide) (ns':=["boxes"]) (ws':=[.loc<|⇑h+1]) rfl ?_;simp!;refine oY (n:=2) rfl ?_;simp! only[HK,HS,aa];refine oN (by show 1<1000;decide) (ns':=["boxes","block_names"]) (ws':=[.loc<|⇑h+1,.loc<|⇑h+2]) (by simp only[putN,fne,if_false]) ?_;simp!;refine oY (n:=3) rfl ?_;simp! only[HK,HS,aa];refine oN (by show 2<1000;decide) (ns':=["boxes","block_names","ended_blocks"]) (ws':=[.loc<|⇑h+1,.loc<|⇑h+2,.loc<|⇑h+3]) (by simp only[putN,fne,if_false]) ?_;simp!;refine oY (n:=4) rfl ?_;simp! only[HK,HS,aa];refine oN (by show 3<1000;decide) (ns':=NU) (ws':=[.loc<|⇑h+1,.loc<|⇑h+2,.loc<|⇑h+3,.loc<|⇑h+4]) (by simp only[NU,putN,fne,if_false]) ?_;simp!;have at':∀ (L:↑Ob) (k:Nat),(h++L)[⇑h+k]?=L[k]?:=λL k=>by rw[Iq ∅];congr 1;omega
 refine ah (rfl,(at' _ 0,at' _ 1,at' _ 2,at' _ 3,λJ=>at' _ 4,(∅,∅,∅,∅),(Hy _,Hy _,Hc _,Hy _,Hy _)),(λi hi=>HN hi,by rw[Hk];omega))
noncomputable def Sc (rs:↑Rr):Str:=Str.join ⟨#[10]⟩<|rs.map Rr.tx
def An (K:OkR rs RS.nil)(E:MF (QG rs RS.nil))(l1:rs≠ [])(l2:⇑rs<=120):Ok (j4 [.str<|Sc rs]) h λw h'=>w=.tup [.tl<|(QG rs RS.nil).bx.map bqW,.tl<|(QG rs RS.nil).dn.map<|bkW (QG rs RS.nil).nm]/\Fo ⇑h h h':=by
 have e0:j4 [.str<|Sc rs]=bd (ph [some<|.str<|Sc rs,none,none,none]) NR:=rfl;rw[e0];unfold ph;have all:=ux K;have hz:∀z∈rs.map Rr.tx,⇑z<=600:=λz hz=>by let(r,hr,rfl):=Hq.mp hz;exact (all r hr).len
 have sp:RJ (.str<|Sc rs) [.str "\n"]=pr (.tl<|(rs.map Rr.tx).map W.str):=by
  rw[yj];refine pX (λz=>l1<|IX.mp z) (λz hz=>?_) (HA (uG hz) ?_) (sz<|by rw[Hb];omega);let(r,hr,rfl):=Hq.mp hz;exact (all r hr).nl;rw[Hb];exact sz ∅
 generalize Sc rs=T at*;have d0:decide ((120:Int)<((⇑((rs.map Rr.tx).map W.str):Nat):Int))=false:=bg (by rw[Hb,Hb];omega);simp! only[aa,sp,d0,O9];refine AJ (by rfl) (Bx h) λh1 qz=>?_;let(A,F1):=qz;simp! only[aa,cW];generalize ⇑h+1=jb at*;generalize ⇑h+2=jn at*;generalize ⇑h+3=je at*;generalize ⇑h+4=js at*;generalize ho:⇑h=o at*;have m8:=Pt.2.2.2.2.2.2.2.1;have m9:=Pt.2.2.2.2.2.2.2.2;refine cz (I:=λi ρ h2=>∃a js s ,ρ=[some<|.str T,some<|.tl<|(rs.map Rr.tx).map W.str,some<|.loc o,a]/\MW h2 o jb jn je js s/\OkR (rs.drop i) s/\QG (rs.drop i) s=QG rs RS.nil/\Fo o h h2) (_,js,RS.nil,rfl,A,K,rfl,F1) (λJ J J J=>trivial) (λi w ρ h2 hw I=>?_) λρ h2 I=>?_
 .let(a,js,s,rfl,A,K,er,F2):=I;rw[Hl,Hl]at hw;let(x,hx,rfl):=Hn.mp hw;let(r,hr,rfl):=Hn.mp hx;have hi:=(Hm.mp hr).1;have ed:rs.drop i=r::rs.drop (i+1):=by rw[IU hi];congr 1;exact Option.some.inj ((Hw hi).symm.trans hr)
  rw[ed]at K er;let((g,p),K):=K;have fe:=BA g;have tk:=zX g A p;refine(_,rfl,?_);generalize r.form=F at*;generalize r.tx=X at*;simp!;refine dS A.ob m8 ?_;simp! only[aa,fe];refine aJ tk λw h3 qq_=>?_;let(ew,(js',A'),F3):=qq_;subst ew;simp!;exact ah (_,rfl,_,js',_,rfl,A',K,er,F2.trans F3)
 let(a,js,s,rfl,A,K,er,F2):=I;rw[Hb,Hb,J8]at er;have er:s=QG rs RS.nil:=er;subst er;simp!;refine dS A.ob m9 ?_;simp!;refine aJ (zV A E) λw h3 qq_=>?_;let(ew,F3):=qq_;subst ew;simp!;exact ah (rfl,F2.trans F3)
end
section
open Wd
structure Bt where
 nm:Str
 ss:↑Rr
 e:Rr
noncomputable def Bt.rows (b:Bt):↑Rr:=.block b.nm::(b.ss++[b.e])
noncomputable def pgR (bx:↑(Str×Str))(bl:↑Bt):↑Rr:=(bx.map λb=>Rr.box b.1 b.2)++bl.flatMap Bt.rows
structure BtG (bn ns:↑Str)(b:Bt):Prop where
 nm:aU b.nm=true
 l:⇑b.ss<=8
 s:∀r∈b.ss,r.stm=true/\r.Ok/\∀x∈r.bxs,x∈bn
 e:b.e.end'=true/\b.e.Ok/\(∀x∈b.e.bxs ,x∈bn)/\∀x∈b.e.tos,x∈ns
structure PtxG (bx:↑(Str×Str))(bl:↑Bt):Prop where
 b:∀x∈bx,aU x.1=true/\PF x.2=true
 bn:(bx.map (·.1)).Nodup
 b4:⇑bx<=4
 n:(bl.map Bt.nm).Nodup
 l:⇑bl<=10
 l1:1<=⇑bl
 g:∀b∈bl,BtG (bx.map (·.1)) (bl.map Bt.nm) b
noncomputable def bxV (bx:↑(Str×Str)):↑(Str×Int):=bx.map λb=>(b.1 ,dC b.2)
theorem uj:∀ (bx:↑(Str×Str)) (d:↑(Str×Int)),(∀x∈bx ,aU x.1=true/\PF x.2=true)->(d.map (·.1)++bx.map (·.1)).Nodup->⇑d+⇑bx<=4->OkR (bx.map λb=>Rr.box b.1 b.2) (d,[],[],[])/\QG (bx.map λb=>Rr.box b.1 b.2) (d,[],[],[])=(d++bxV bx,[],[],[])
 |[],d,_,_,_=>(trivial,by show _=RS.mk (d++[]) _ _ _;rw[HL];rfl)
 |b::bx,d,g,nd,l=>by
  have ih:=uj bx (d++[(b.1 ,dC b.2)]) (λx hx=>g x<|Ht _ hx) (by rw[Hh,HF];exact nd) (by rw[Hk,HI];rw[Hf]at l;omega);rw[Hf]at l;refine(((g b Hi,rfl,λhm=>?_,by show ⇑d<4;omega),ih.1),?_);rw[Hg,Ji]at nd;exact nd.2.2 _ hm _ Hi rfl;show QG (bx.map λb=>Rr.box b.1 b.2) (d++[(b.1 ,dC b.2)],[],[],[])=_;rw[ih.2,HF];rfl
theorem ui:∀ (ss:↑Rr) (s:RS),⇑s.dn<⇑s.nm->⇑s.st+⇑ss<=8->(∀r∈ss ,r.stm=true/\r.Ok/\∀x∈r.bxs,x∈s.bx.map (·.1))->OkR ss s/\QG ss s={s with st:=s.st++ss.map Rr.form}
 |[],s,_,_,_=>(trivial,by rw[HM,HL];rfl)
 |r::ss,s,i,l,g=>by
  rw[Hf]at l;let(g1,g2,g3):=g r Hi;have es:=pV (s:=s) g1;have ih:=ui ss {s with st:=s.st++[r.form]} i (by show ⇑(s.st++[_])+_<=8;rw[Hk,HI];omega) λr hr=>g r<|Ht _ hr;have p:MV s r:=(i,λJ=>∅,g3)
  have p:Pre s r:=by cases r<;>first|exact p|cases g1
  refine(((g2,p),by rw[es];exact ih.1),?_);show QG ss (s.step r)=_;rw[es,ih.2];show RS.mk s.bx s.nm s.dn ((s.st++[r.form])++ss.map Rr.form)=RS.mk s.bx s.nm s.dn (s.st++(r::ss).map Rr.form);rw[HF];rfl
def v8 (l:↑Str)(x:Str):(l++[x]).getLastD ""=x:=⇑_
def BE {r:Rr}(a:r.end'=true)(b:r.stm=true):False:=by cases r<;>first|exact absurd a Hv|exact absurd b Hv
def Al {bn ns:↑Str}(g:BtG bn ns b)(hb:s.bx.map (·.1)=bn)(i:⇑s.dn=⇑s.nm)(l:⇑s.nm<10)(n:b.nm ∉s.nm):OkR b.rows s/\QG b.rows s=(s.bx,s.nm++[b.nm],s.dn++[(b.nm ,b.ss.map Rr.form,b.e)],b.ss.map Rr.form):=by
 subst hb;have h1:=ui b.ss (s.bx,s.nm++[b.nm],s.dn,[]) (by show ⇑s.dn<⇑(s.nm++[_]);rw[Hk,HI];omega) (by show 0+_<=8;have:=g.l;omega) g.s;have e2:QG b.ss (s.bx,s.nm++[b.nm],s.dn,[])=(s.bx,s.nm++[b.nm],s.dn,b.ss.map Rr.form):=by rw[h1.2];rfl
 have p:MV (s.bx,s.nm++[b.nm],s.dn,b.ss.map Rr.form) b.e:=(by show ⇑s.dn<⇑(s.nm++[_]);rw[Hk,HI];omega,λq=>(BE g.e.1 q).elim,g.e.2.2.1)
 have p:Pre (s.bx,s.nm++[b.nm],s.dn,b.ss.map Rr.form) b.e:=by have ge:=g.e.1;cases h:b.e<;>rw[h]at p ge<;>first|exact p|cases ge
 refine(((g.nm,i,n,l),kG h1.1 ?_),?_);show OkR [b.e] (QG b.ss (s.bx,s.nm++[b.nm],s.dn,[]));rw[e2];exact((g.e.2.1,p),trivial);show QG (b.ss++[b.e]) (s.bx,s.nm++[b.nm],s.dn,[])=_;rw[ly,e2];show RS.step _ b.e=_;rw[pW g.e.1];show RS.mk s.bx (s.nm++[b.nm]) (s.dn++[((s.nm++[b.nm]).getLastD "" ,b.ss.map Rr.form,b.e)]) _=_;rw[v8]
theorem qb {bn ns:↑Str}:∀ (bl:↑Bt) (s:RS),(∀b∈bl ,BtG bn ns b)->s.bx.map (·.1)=bn->⇑s.dn=⇑s.nm->(s.nm++bl.map Bt.nm).Nodup->⇑s.nm+⇑bl<=10->OkR (bl.flatMap Bt.rows) s/\∃st,QG (bl.flatMap Bt.rows) s=(s.bx,s.nm++bl.map Bt.nm,s.dn++bl.map (λb=>(b.nm ,b.ss.map Rr.form,b.e)),st)
 |[],s,_,_,_,_,_=>(trivial,s.st,by rw[HM,HM,HL,HL];rfl)
 |b::bl,s,g,hb,i,nd,l=>by
  rw[Hf]at l;rw[Hg]at nd;have nn:b.nm ∉s.nm:=λhm=>by rw[Ji]at nd;exact nd.2.2 _ hm _ Hi rfl
  have h1:=Al (g b Hi) hb i ∅ nn;let(h2,st,h3):=qb bl (s.bx,s.nm++[b.nm],s.dn++[(b.nm ,b.ss.map Rr.form,b.e)],b.ss.map Rr.form) (λb hb=>g b<|Ht _ hb) hb (by show ⇑(s.dn++[_])=⇑(s.nm++[_]);rw[Hk,Hk,i];rfl) (by show ((s.nm++[b.nm])++_).Nodup;rw[HF];exact nd) (by show ⇑(s.nm++[_])+_<=10;rw[Hk,HI];omega);rw[IA];refine(kG h1.1 (by rw[h1.2];exact h2),st,?_);rw[ly,h1.2,h3];show RS.mk _ ((s.nm++[b.nm])++bl.map Bt.nm) ((s.dn++[_])++_) _=_;rw[HF,HF];rfl
noncomputable def Bt.w (ns:↑Str)(b:Bt):W:=.tup [.str b.nm,.tl<|b.ss.map Rr.form,(b.e.en ns).w]
def QE {bl:↑Bt}(h:∀b∈bl ,⇑b.ss<=8):⇑(bl.flatMap Bt.rows)<=10*⇑bl:=by
 induction bl with
 |nil=>simp
 |cons b bl ih=>
  have a:=h b Hi;have c:=ih λb hb=>h b<|Ht _ hb;rw[IA,Hk,Hf];have:⇑b.rows=⇑b.ss+2:=by unfold Bt.rows;rw[Hf,Hk];rfl
  omega
def xz (G:PtxG bx bl):Ok (j4 [.str<|Sc<|pgR bx bl]) h λw h'=>w=.tup [.tl<|(bxV bx).map bqW,.tl<|bl.map<|Bt.w<|bl.map Bt.nm]/\Fo ⇑h h h':=by
 have h1:=uj bx [] G.b G.bn (by have:=G.b4;show 0+_<=4;omega);have ebx:(bxV bx).map (·.1)=bx.map (·.1):=by unfold bxV;rw[HG];rfl
 let(h2,st,h3):=qb bl (bxV bx,[],[],[]) (λb hb=>G.g b hb) ebx rfl G.n (by have:=G.l;show 0+_<=10;omega);have e1:QG (bx.map λb=>Rr.box b.1 b.2) RS.nil=(bxV bx,[],[],[]):=h1.2;have er:QG (pgR bx bl) RS.nil=(bxV bx,bl.map Bt.nm,bl.map (λb=>(b.nm ,b.ss.map Rr.form,b.e)),st):=by unfold pgR;rw[ly,e1,h3];rfl
 have K:OkR (pgR bx bl) RS.nil:=kG h1.1 (by rw[e1];exact h2);have ll:=QE λb hb=>(G.g b hb).l;have g1:=G.l;have g2:=G.l1;have g3:=G.b4;have lp:⇑(pgR bx bl)=⇑bx+⇑(bl.flatMap Bt.rows):=by unfold pgR;rw[Hk,Hb]
 have ne:pgR bx bl≠ []:=by
  cases bl with|nil=>exact absurd g2 ⇑_|cons b bl=>unfold pgR;rw[IA];unfold Bt.rows;simp
 have E:MF (QG (pgR bx bl) RS.nil):=by rw[er];refine(by show ⇑(bl.map _)=⇑(bl.map _);rw[Hb,Hb],by show 1<=⇑(bl.map _);rw[Hb];exact g2,λb hb=>?_);have hb:b∈bl.map (λb=>(b.nm ,b.ss.map Rr.form,b.e)):=hb;let(c,hc,rfl):=Hq.mp hb;have g:=(G.g c hc).e;exact(g.1,g.2.1,g.2.2.2)
 refine (An K E ne ∅).imp λw h' (ew,F)=>(?_,F)
 rw[ew,er];show W.tup [.tl _,.tl<|(bl.map λb=>(b.nm ,b.ss.map Rr.form,b.e)).map<|bkW<|bl.map Bt.nm]=_;rw[HG];rfl
end
section
open Wd
def EH {i:Int}{w:W}(h:atI l i=`w):ixW (.cl l) (.int i)=pr w:=by funext hh;unfold ixW;have:ixO (.cl l) (.int i) hh=`w:=h;rw[this];rfl
def pE (ns:↑Int)(i:Int)(h0:0<=i):∃c:Int,bQ [.cl<|ns.map W.int,.int i]=pr (.int c):=by
 have e0:bQ [.cl<|ns.map W.int,.int i]=bd (dL [some<|.cl<|ns.map W.int,some<|.int i]) NR:=rfl;rw[e0];unfold dL;by_cases hc:i<(⇑(ns.map W.int):Int);have q:=g7 W.int ns 0 h0 (by rw[Hb]at hc;exact hc);refine(ns.getD i.toNat 0,?_);simp! only[aa,uC,bN hc,EH q];refine(0,?_);simp! only[aa,uC,bg hc]
def pM (i:Int):M4 [.int i]=pr (.int<|if i<0 then -i else i):=rfl
noncomputable def Py (a:Int):Nat->Int|0=>a|k+1=>if 10^(18:Int).toNat<=a then Py a k / 1009 else Py a k
noncomputable def Pw (r:Int)(k:Int):Int:=(r%2147483629+7919*(k+1)*(k+3))%2147483629
noncomputable def Px (a:Int)(k:Nat):Int:=if 10^(18:Int).toNat<=a then Py a k%1009 else (Pw (Py a k) (0+(k:Int))*Pw (Py a k) (0+(k:Int))%2147483587+Pw (Py a k) (0+(k:Int)) / 7)*48271%2147483647 / 16
noncomputable def PJ (c:Int)(n:Nat):↑Int:=(List.range n).map (Px<|if c<0 then -c else c)
def jk (c:Int)(n:Nat):⇑(PJ c n)=n:=by unfold PJ;simp
def oW {c N:Int}{n:Nat}(hN:N=(n:Int))(hn:n<=60):Ok (bP [.int c,.int N]) h λw h'=>w=.tl ((PJ c n).map W.int)/\Fo ⇑h h h':=by
 have e0:bP [.int c,.int N]=bd (dI [some<|.int c,some<|.int N,none,none,none,none]) NR:=rfl;rw[e0];unfold dI;have eN:N.toNat=n:=∅;simp!;refine gY ?_;simp! only[aa,pM,jf (show (-(2^62):Int)<=N by omega)<|show N<2^62 by omega];unfold PJ;generalize hA:(if c<0 then -c else c)=A;refine cz (I:=λi ρ h'=>∃a b ,ρ=[some<|.int c,some<|.int N,some<|.loc ⇑h,some<|.int<|Py A i,a,b]/\⇑h'=⇑h+1/\(∀j ,j<⇑h->h'[j]?=h[j]?)/\h'[⇑h]?=some (.lst<|((List.range i).map<|Px A).map W.int)) (_,_,rfl,⇑_,λj hj=>by rw[HN hj],f9) (λJ J J J=>trivial) (λi w ρ h1 hw I=>?_) λρ h1 I=>?_
 .let(a,b,rfl,l1,q1,q2):=I;let(rfl,hi):=cV _ _ _ _ hw;rw[eN]at hi;refine(_,rfl,?_);have er:(List.range<|i+1).map (Px A)=(List.range i).map (Px A)++[Px A i]:=by rw[IV,Hh];rfl
  have z:⇑(((List.range i).map<|Px A).map W.int)<sizeLine:=by rw[Hb,Hb,IN];exact HQ (show _<=60 by omega) ↥_
  have fin:∀x:Int,x=Px A i->(h1.set ⇑h<|.lst<|((List.range i).map<|Px A).map W.int++[.int x])[⇑h]?=some (.lst<|((List.range<|i+1).map<|Px A).map W.int):=λx e=>by rw[de q2,er,e,Hh];rfl
  have fr:∀b:Ob,⇑(h1.set ⇑h b)=⇑h+1/\∀j,j<⇑h->(h1.set ⇑h b)[j]?=h[j]?:=λb=>(by rw[HP];exact l1,λj hj=>by rw[Hr ∅];exact q1 j hj)
  by_cases c18:10^(18:Int).toNat<=A
  .have n1:Px A i=Py A i%1009:=by unfold Px;rw[bf c18]
   have n2:Py A (i+1)=Py A i / 1009:=by show (if 10^(18:Int).toNat<=A then _ else _)=_;rw[bf c18]
   simp! only[aa,pM,lC cp18,hA,bN c18];refine cL q2 ?_;simp! only[aa,am<|show (0:Int)<1009 by decide];refine d9 q2 z ?_;simp! only[aa,cy (show (0:Int)<1009 by decide) ↥_];rw[<-n2];exact ah (_,rfl,_,_,rfl,(fr _).1,(fr _).2,fin _ n1.symm)
  .have n1:Px A i=(Pw (Py A i) (0+(i:Int))*Pw (Py A i) (0+(i:Int))%2147483587+Pw (Py A i) (0+(i:Int)) / 7)*48271%2147483647 / 16:=by unfold Px;rw[aZ c18]
   have n2:Py A (i+1)=Py A i:=by show (if 10^(18:Int).toNat<=A then _ else _)=_;rw[aZ c18]
   simp! only[aa,pM,lC cp18,hA,bg c18,am (show (0:Int)<2147483629 by decide),jo<|yu (i:=7919) (j:=0+(i:Int)+1) ↥_ ↥_,jo<|yt (i:=7919*(0+(i:Int)+1)) (j:=0+(i:Int)+3) ∅ ∅];have em:(Py A i%2147483629+7919*(0+(i:Int)+1)*(0+(i:Int)+3))%2147483629=Pw (Py A i) (0+(i:Int)):=rfl;have m0:0<=Pw (Py A i) (0+(i:Int)):=HV _ ↥_;have m1:Pw (Py A i) (0+(i:Int))<2147483629:=HU _ ↥_;rw[em];generalize Pw (Py A i) (0+(i:Int))=x at*;simp! only[aa,jo<|yu (i:=x) (j:=x) ∅ ∅,am (show (0:Int)<2147483587 by decide),cy (show (0:Int)<7 by decide) ↥_];refine cL q2 ?_;simp! only[aa,jo<|yt (i:=x*x%2147483587+x / 7) (j:=48271) ↥_ ↥_,am (show (0:Int)<2147483647 by decide),cy (show (0:Int)<16 by decide) ↥_];refine d9 q2 z ?_;simp!;rw[<-n2];exact ah (_,rfl,_,_,rfl,(fr _).1,(fr _).2,fin _ n1.symm)
 let(a,b,rfl,l1,q1,q2):=I;rw[cO,eN]at q2;simp!;refine iV q2 ?_;simp!;exact ah (rfl,λi hi=>by rw[Hr ∅];exact q1 i hi,by rw[HP,l1];omega)
def Ra (a b c:Str):(a++b)++c=a++(b++c):=oy (by rw[iJ,iJ,iJ,iJ,HF])
def RA (a b:Str):⇑(a++b)=⇑a+⇑b:=KC
def adS {a b:Str}(h:⇑a+⇑b<=100000):M8 (.str a) (.str b)=pr (.str<|a++b):=zR<|sz h
noncomputable def bn2:↑Str:=["n","nn"]
structure WG (z:Str)(e:Exp):Prop where
 w:Wrd z e
 b:∀x∈NI e,x∈bn2
 d:NH e<=5
noncomputable def wOk (z:Str):Bool:=match NM z with|none=>false|some e=>No z && (NJ e && (decide (NH e<=5)&&(decide (⇑(NI e)<=60)&&(NI e).all λx=>decide<|x∈bn2)))
def Ct {z:Str}(h:wOk z=true):∃e,WG z e:=by
 unfold wOk at h;cases e:NM z with
 |none=>rw[e]at h;cases h
 |some x=>
  rw[e]at h;simp only[HD,decide_eq_true_eq,HJ]at h;let(h1,h2,h3,h4,h5):=h;exact(x,(e,.of h1,h2,∅,h4),h5,h3)
noncomputable def wS (one more:Str):↑Str:=[more,one,one++ "+"++more,one++ "-1","nn-n","n*"++more,"2*("++one++ "+1)","7-"++one]
noncomputable def NQ:↑Str:=["0","1","2","3"]
def Fd:∀o,o<2->∀m,m<4->∀i,i<8->wOk ((wS (bn2.getD o "")<|NQ.getD m "").getD i "")=true:=⋯
def oT:∀o,o<2->⇑(bn2.getD o "")<=2:=⋯
def lS:∀m,m<4->⇑(NQ.getD m "")<=1:=⋯
def st4 {v:Int}(h0:0<=v)(h1:v<4):RU [.int v]=pr (.str<|NQ.getD v.toNat ""):=by have:v=0\/v=1\/v=2\/v=3:=∅;rcases this with rfl|rfl|rfl|rfl<;>exact xf ↥_
def Qj {v:Int}(h0:0<=v)(h1:v<2):ixW (.tl [.str "n",.str "nn"]) (.int v)=pr (.str<|bn2.getD v.toNat ""):=cv<|g7 W.str bn2 "" h0 h1
def nL {v:Int}(h0:0<=v)(h1:v<2):bn2.getD v.toNat ""∈bn2/\aU (bn2.getD v.toNat "")=true:=by have:v=0\/v=1:=∅;rcases this with rfl|rfl<;>decide+kernel
def OL:(⇑("+":Str)=1/\⇑("-1":Str)=2/\⇑("n*":Str)=2/\⇑("2*(":Str)=3/\⇑("+1)":Str)=3/\⇑("7-":Str)=2)/\⇑("say ":Str)=4/\⇑("ask ":Str)=4/\⇑("put ":Str)=4/\⇑(" ":Str)=1/\⇑("go ":Str)=3/\⇑("if ":Str)=3/\⇑(" else ":Str)=6/\⇑("block ":Str)=6:=⋯
def ou (a b c:Int)(l:↑W):∃z e,cQ [.tl (.int a::.int b::.int c::l)]=pr (.str z)/\WG z e:=by have a0:=HV a (show (8:Int)≠0 by decide);have a1:=HU a (show (0:Int)<8 by decide);have b0:=HV b (show (2:Int)≠0 by decide);have b1:=HU b (show (0:Int)<2 by decide);have c0:=HV c (show (4:Int)≠0 by decide);have c1:=HU c (show (0:Int)<4 by decide);let(e,w):=Ct<|Fd (b%2).toNat ∅ (c%4).toNat ∅ (a%8).toNat ∅;refine(_,e,?_,w);have e0:cQ [.tl (.int a::.int b::.int c::l)]=bd (gh [some<|.tl (.int a::.int b::.int c::l),none,none,none]) NR:=rfl;rw[e0];unfold gh;have l1:=oT (b%2).toNat ∅;have l2:=lS (c%4).toNat ∅;have p2:=Qj b0 b1;have s4:=st4 c0 c1;let((k1,k2,k3,k4,k5,k6),_):=OL;generalize bn2.getD (b%2).toNat ""=one at*;generalize NQ.getD (c%4).toNat ""=more at*;have ix:ixW (.tl [.str more,.str one,.str<|one++ "+"++more,.str<|one++ "-1",.str "nn-n",.str<|"n*"++more,.str<|"2*("++one++ "+1)",.str<|"7-"++one]) (.int<|a%8)=pr (.str<|(wS one more).getD (a%8).toNat ""):=cv<|g7 W.str (wS one more) "" a0 a1;simp! only[aa,tx0,tx1,tx2,am (show (0:Int)<2 by decide),am (show (0:Int)<4 by decide),am (show (0:Int)<8 by decide),p2,s4,adS (a:=one) (b:="+") ∅,adS (a:=one++ "+") (b:=more) (by rw[RA];omega),adS (a:=one) (b:="-1") ∅,adS (a:="n*") (b:=more) ∅,adS (a:="2*(") (b:=one) ∅,adS (a:="2*("++one) (b:="+1)") (by rw[RA];omega),adS (a:="7-") (b:=one) ∅,ix]
theorem WG.len {z:Str}(g:WG z e):⇑z<=60:=g.w.c.len
def OM:(("say ":Str)="say"++⟨#[32]⟩/\("ask ":Str)="ask"++⟨#[32]⟩/\("put ":Str)="put"++⟨#[32]⟩/\("go ":Str)="go"++⟨#[32]⟩)/\("if ":Str)="if"++⟨#[32]⟩/\(" else ":Str)=⟨#[32]⟩++("else"++⟨#[32]⟩)/\("block ":Str)="block"++⟨#[32]⟩/\(" < ":Str)=⟨#[32]⟩++("<"++⟨#[32]⟩)/\(" = ":Str)=⟨#[32]⟩++("="++⟨#[32]⟩):=⋯
noncomputable def Rr.dep:Rr->Nat|.put _ _ e=>NH e|.say _ e=>NH e|.iff _ _ e1 _ e2 _ _=>max (NH e1) (NH e2)|.table _ e _=>NH e|_=>0
structure RG (r:Rr):Prop where
 ok:r.Ok
 b:∀x∈r.bxs,x∈bn2
 d:r.dep<=5
def C0 (z:Str)(e:Exp):(Rr.say z e).tx="say "++z:=by rw[OM.1.1];rfl
def E5 (z:Str):(Rr.ask z).tx="ask "++z:=by rw[OM.1.2.1];rfl
def Dc (x z:Str)(e:Exp):(Rr.put x z e).tx="put "++x++ " "++z:=by rw[OM.1.2.2.1,ub];show "put"++⟨#[32]⟩++(x++⟨#[32]⟩++z)=_;simp only[Ra]
def Gr (z:Str):(Rr.go z).tx="go "++z:=by rw[OM.1.2.2.2];rfl
def zK (z:Str):(Rr.block z).tx="block "++z:=by rw[OM.2.2.2.1];rfl
def xg (p q r:Int):∃R:Rr,bG [.tl [.int p,.int q,.int r]]=pr (.str R.tx)/\R.stm=true/\RG R:=by
 have e0:bG [.tl [.int p,.int q,.int r]]=bd (cX [some<|.tl [.int p,.int q,.int r],none]) NR:=rfl;rw[e0];unfold cX;let(z,e,ew,g):=ou p q r [];have zl:=g.len;have k0:=HV (p / 8) (show (4:Int)≠0 by decide);have k1:=HU (p / 8) (show (0:Int)<4 by decide);let(_,l1,l2,l3,l4,_):=OL;by_cases c0:p / 8%4=0;refine(.say z e,?_,rfl,g.w,g.b,g.d);rw[C0];simp! only[aa,tx0,cy (show (0:Int)<8 by decide) ↥_,am (show (0:Int)<4 by decide),bN c0,ew,adS (a:="say ") (b:=z) ∅]
 by_cases c1:p / 8%4=1;have r0:=HV r (show (2:Int)≠0 by decide);have r1:=HU r (show (0:Int)<2 by decide);have m:=nL r0 r1;have l:=oT (r%2).toNat ∅;have p2:=Qj r0 r1;generalize bn2.getD (r%2).toNat ""=one at*;refine(.ask one,?_,rfl,m.2,λx hx=>by rw[HC.mp hx];exact m.1,Hy _);rw[E5];simp! only[aa,tx0,tx2,cy (show (0:Int)<8 by decide) ↥_,am (show (0:Int)<4 by decide),am (show (0:Int)<2 by decide),bg c0,bN c1,p2,adS (a:="ask ") (b:=one) ∅]
 .have r0:=HV (r / 4) (show (2:Int)≠0 by decide);have r1:=HU (r / 4) (show (0:Int)<2 by decide);have m:=nL r0 r1;have l:=oT (r / 4%2).toNat ∅;have p2:=Qj r0 r1;generalize bn2.getD (r / 4%2).toNat ""=one at*;refine(.put one z e,?_,rfl,(m.2,g.w),λx hx=>?_,g.d);rw[Dc];simp! only[aa,tx0,tx2,cy (show (0:Int)<8 by decide) ↥_,cy (show (0:Int)<4 by decide) ↥_,am (show (0:Int)<4 by decide),am (show (0:Int)<2 by decide),bg c0,bg c1,p2,ew,adS (a:="put ") (b:=one) ∅,adS (a:="put "++one) (b:=" ") (by rw[RA];omega),adS (a:="put "++one++ " ") (b:=z)<|by rw[RA,RA];omega]
  .rcases Hd.mp hx with rfl|hx
   exact m.1;exact g.b x hx
end
section
open Wd
def Gq (s z1 z2 x y:Str)(e1 e2:Exp):(Rr.iff s z1 e1 z2 e2 x y).tx="if "++(z1++(⟨#[32]⟩++(s++⟨#[32]⟩))++z2)++ " "++x++ " else "++y:=by rw[OM.2.1,OM.2.2.1,ub];show "if"++⟨#[32]⟩++(z1++⟨#[32]⟩++(s++⟨#[32]⟩++(z2++⟨#[32]⟩++(x++⟨#[32]⟩++("else"++⟨#[32]⟩++y)))))=_;simp only[Ra]
def BL {α:Type}(l:↑α){v:Int}(h0:0<=v):⇑(Nv l none<|some v)<=v.toNat/\∀x∈Nv l none `v,x∈l:=by
 unfold Nv;refine(?_,λx hx=>List.mem_of_mem_drop<|Kn hx);rw[H9];have:HT.sIx ⇑l ⇑l `v<=v.toNat:=by show (if v<0 then (v+(⇑l:Int)).toNat else min v.toNat ⇑l)<=_;rw[aZ ∅];omega
 show min (HT.sIx ⇑l ⇑l `v-HT.sIx ⇑l 0 none) _<=_;omega
def sgn2 {v:Int}(h0:0<=v)(h1:v<2):∃s:Str,ixW (.tl [.str " < ",.str " = "]) (.int v)=pr (.str<|⟨#[32]⟩++(s++⟨#[32]⟩))/\(s="<"\/s="=")/\⇑s=1:=by
 have:v=0\/v=1:=∅;rcases this with rfl|rfl
 exact("<",by rw[tx0,OM.2.2.2.2.1],.inl rfl,⋯);exact("=",by rw[tx1,OM.2.2.2.2.2],.inr rfl,⋯)
def uA {ns:↑Str}{x N:Int}(hN:N=(⇑ns:Int))(l1:1<=⇑ns):∃s∈ns,ixW (.tl<|ns.map W.str) (.int<|x%N)=pr (.str s):=by have a0:=HV x (show N≠0 by omega);have a1:=HU x (show 0<N by omega);have hi:(x%N).toNat<⇑ns:=∅;exact(ns[(x%N).toNat],List.getElem_mem _,cv<|bp a0<|by rw[Hl,Hw hi];rfl)
def tx7 (a b c d e f g h:W)(l:↑W):ixW (.tl (a::b::c::d::e::f::g::h::l)) (.int 7)=pr h:=cv<|bp ↥_ rfl
def tx8 (a b c d e f g h i:W)(l:↑W):ixW (.tl (a::b::c::d::e::f::g::h::i::l)) (.int 8)=pr i:=cv<|bp ↥_ rfl
def tx9 (a b c d e f g h i j:W)(l:↑W):ixW (.tl (a::b::c::d::e::f::g::h::i::j::l)) (.int 9)=pr j:=cv<|bp ↥_ rfl
def Sg (a b c d e f g h i j k:W)(l:↑W):ixW (.tl (a::b::c::d::e::f::g::h::i::j::k::l)) (.int 10)=pr k:=cv<|bp ↥_ rfl
section
variable (x0 x1 x2 x3 x4 x5 x6 x7 x8 x9 x10 x11:W)
def Nt:Nv [x0,x1,x2,x3,x4,x5,x6,x7,x8,x9,x10,x11] (some 9) (some 12)=[x9,x10,x11]:=rfl
def zw:Nv [x0,x1,x2,x3,x4,x5,x6,x7,x8,x9,x10,x11] (some 10) (some 12)=[x10,x11]:=rfl
def ct01:Nv [x0,x1,x2,x3,x4,x5,x6,x7,x8,x9,x10,x11] none (some 1)=[x0]:=rfl
def ct14:Nv [x0,x1,x2,x3,x4,x5,x6,x7,x8,x9,x10,x11] (some 1) (some 4)=[x1,x2,x3]:=rfl
def ct47:Nv [x0,x1,x2,x3,x4,x5,x6,x7,x8,x9,x10,x11] (some 4) (some 7)=[x4,x5,x6]:=rfl
end
def ad21 (a b c:W):M8 (.tl [a,b]) (.tl [c])=pr (.tl [a,b,c]):=jI [a,b] [c] (sz<|by show 2+1<=_;omega)
def zF {a b:↑Str}(h:∀x∈a ,x∈bn2)(g:∀x∈b ,x∈bn2):∀x∈a++b,x∈bn2:=λx hx=>by
 rcases Ij.mp hx with hx|hx
 exact h x hx;exact g x hx
theorem pR:∀ {l:↑Str},(∀z∈l ,⇑z<=60)->(l.map (·.length)).sum<=60*⇑l|[],_=>⇑_|z::l,h=>by have a:=h z Hi;have b:=pR (l:=l) λz hz=>h z<|Ht _ hz;rw[Hg,Il,Hf,Kl];omega
def Bj {ns:↑Str}(x0 x1 x2 x3 x4 x5 x6 x7 x8 x9 x10 x11:Int)(l1:1<=⇑ns)(l2:⇑ns<=10)(nm:∀x∈ns ,aU x=true):∃R:Rr,fH [.tl [.int x0,.int x1,.int x2,.int x3,.int x4,.int x5,.int x6,.int x7,.int x8,.int x9,.int x10,.int x11],.tl<|ns.map W.str]=pr (.str R.tx)/\R.end'=true/\RG R/\∀x∈R.tos,x∈ns:=by
 have e0:fH [.tl [.int x0,.int x1,.int x2,.int x3,.int x4,.int x5,.int x6,.int x7,.int x8,.int x9,.int x10,.int x11],.tl<|ns.map W.str]=bd (iC [some<|.tl [.int x0,.int x1,.int x2,.int x3,.int x4,.int x5,.int x6,.int x7,.int x8,.int x9,.int x10,.int x11],some<|.tl<|ns.map W.str,none,none,none,none,none,none]) NR:=rfl;rw[e0];unfold iC;obtain⟨N,hN⟩:∃N:Int,N=(⇑ns:Int):=(_,rfl)
 have N0:0<N:=∅;have eL:OT [.tl<|ns.map W.str]=pr (.int N):=by rw[lenW_tl,Hb,hN]
 let(one,m1,i1):=uA (x:=x8) hN l1;let(other,m2,i2):=uA (x:=x9) hN l1;have o1:=(cp<|nm one m1).len;have o2:=(cp<|nm other m2).len;have v0:=HV x10 (show (3:Int)≠0 by decide);have v1:=HU x10 (show (0:Int)<3 by decide);let(f1,f2):=BL ns v0;have cm:=BK W.str ns none<|some<|x10%3;have sl:slW (.tl<|ns.map W.str) none (some<|x10%3)=pr (.tl<|(Nv ns none<|some<|x10%3).map W.str):=by rw[slW_tl,cm]
 generalize Nv ns none (some<|x10%3)=few at*;generalize W.tl (ns.map W.str)=NW at*;let(w1,e1,ew1,g1):=ou x9 x10 x11 [];let(w2,e2,ew2,g2):=ou x10 x11 x0 [];have z1:=g1.len;have z2:=g2.len;let(_,_,_,_,k4,k5,k6,k7,_):=OL;have k8:=HU x7 (show (0:Int)<8 by decide);by_cases c2:x7%8<2;refine(.go one,?_,rfl,(nm one m1,λx hx=>absurd hx HB,Hy _),λx hx=>by rw[HC.mp hx];exact m1);rw[Gr];simp! only[aa,tx7,tx8,tx9,Sg,eL,am N0,am (show (0:Int)<8 by decide),i1,i2,bN c2,adS (a:="go ") (b:=one) ∅]
 by_cases c5:x7%8=5
 .refine(.table w1 e1 (one::other::few),?_,rfl,((g1.w,⇑_,by rw[Hf,Hf];omega,λx hx=>?_),g1.b,g1.d),λx hx=>?_)
  .have gl:∀ {α:Type} (q:M α),gd (0+1+1+1+1+⇑(few.map W.str)<=sizeLine) q=q:=λq=>ag (by rw[Hb];exact sz ∅);have jw:OC (.str " ") [.tl<|[W.str "table",W.str w1,W.str one,W.str other]++few.map W.str]=pr (.str<|Str.join " " ("table"::w1::one::other::few)):=by refine yW (ts:="table"::w1::one::other::few)<|sz ?_;have fl:∀z∈few,⇑z<=60:=λz hz=>(cp<|nm z<|f2 z hz).len;have fs:=pR fl;have t5:⇑("table":Str)=5:=⋯;simp only[Hg,Il,Hf];rw[k4];omega
   simp! only[aa,tx7,tx8,tx9,Sg,eL,am N0,am (show (0:Int)<8 by decide),am (show (0:Int)<3 by decide),i1,i2,bg c2,bN c5,Nt,ew1,sl,Nm,uB,gl,jw];rw[ub];rfl
  .rcases Hd.mp hx with rfl|hx
   exact nm _ m1
   .rcases Hd.mp hx with rfl|hx
    exact nm _ m2;exact nm _<|f2 x hx
  .rcases Hd.mp hx with rfl|hx
   exact m1
   .rcases Hd.mp hx with rfl|hx
    exact m2;exact f2 x hx
 by_cases c6:x7%8=6;refine(.stop,?_,rfl,(trivial,λx hx=>absurd hx HB,Hy _),λx hx=>absurd hx HB);simp! only[aa,tx7,tx8,tx9,Sg,eL,am N0,am (show (0:Int)<8 by decide),i1,i2,bg c2,bg c5,bN c6];rfl
 .have s0:=HV (x10 / 8) (show (2:Int)≠0 by decide);have s1:=HU (x10 / 8) (show (0:Int)<2 by decide);let(s,es,hs,ls):=sgn2 s0 s1;have sgl:⇑((⟨#[32]⟩:Str)++(s++⟨#[32]⟩))=3:=by rw[RA,RA,ls];rfl
  have tx:=λy=>Gq s w1 w2 one y e1 e2;generalize ((⟨#[32]⟩:Str)++(s++⟨#[32]⟩))=sg at*;by_cases c7:x7%8=7;refine(.iff s w1 e1 w2 e2 one one,?_,rfl,((hs,g1.w,g2.w,nm one m1,nm one m1),zF g1.b g2.b,Nat.max_le.mpr (g1.d,g2.d)),λx hx=>by rcases Hd.mp hx with rfl|hx;exact m1;rw[HC.mp hx];exact m1);rw[tx];simp! only[aa,tx7,tx8,tx9,Sg,eL,am N0,am (show (0:Int)<8 by decide),am (show (0:Int)<2 by decide),cy (show (0:Int)<8 by decide) ↥_,i1,i2,bg c2,bg c5,bg c6,bN c7,es,Nt,zw,ct01,ad21,ew1,ew2,adS (a:=w1) (b:=sg) ∅,adS (a:=w1++sg) (b:=w2) (by rw[RA];omega),adS (a:="if ") (b:=w1++sg++w2) (by rw[RA,RA];omega),adS (a:="if "++(w1++sg++w2)) (b:=" ") (by rw[RA,RA,RA];omega),adS (a:="if "++(w1++sg++w2)++ " ") (b:=one) (by rw[RA,RA,RA,RA];omega),adS (a:="if "++(w1++sg++w2)++ " "++one) (b:=" else ") (by rw[RA,RA,RA,RA,RA];omega),adS (a:="if "++(w1++sg++w2)++ " "++one++ " else ") (b:=one)<|by rw[RA,RA,RA,RA,RA,RA];omega];refine(.iff s w1 e1 w2 e2 one other,?_,rfl,((hs,g1.w,g2.w,nm one m1,nm other m2),zF g1.b g2.b,Nat.max_le.mpr (g1.d,g2.d)),λx hx=>by rcases Hd.mp hx with rfl|hx;exact m1;rw[HC.mp hx];exact m2);rw[tx];simp! only[aa,tx7,tx8,tx9,Sg,eL,am N0,am (show (0:Int)<8 by decide),am (show (0:Int)<2 by decide),cy (show (0:Int)<8 by decide) ↥_,i1,i2,bg c2,bg c5,bg c6,bg c7,es,Nt,zw,ct01,ad21,ew1,ew2,adS (a:=w1) (b:=sg) ∅,adS (a:=w1++sg) (b:=w2) (by rw[RA];omega),adS (a:="if ") (b:=w1++sg++w2) (by rw[RA,RA];omega),adS (a:="if "++(w1++sg++w2)) (b:=" ") (by rw[RA,RA,RA];omega),adS (a:="if "++(w1++sg++w2)++ " ") (b:=one) (by rw[RA,RA,RA,RA];omega),adS (a:="if "++(w1++sg++w2)++ " "++one) (b:=" else ") (by rw[RA,RA,RA,RA,RA];omega),adS (a:="if "++(w1++sg++w2)++ " "++one++ " else ") (b:=other)<|by rw[RA,RA,RA,RA,RA,RA];omega]
noncomputable def nmA:↑Str:=["a","b","c","d","e","f","g","h","i","j"]
noncomputable def nmB:↑Str:=["top","t","ab","a","zed","n","nn","out","mid","x"]
noncomputable def nmL (i:Nat):↑Str:=[nmA,nmB,nmA.reverse,nmB.reverse].getD i []
def DO:∀i,i<4->⇑(nmL i)=10/\(nmL i).all aU=true/\(nmL i).Nodup:=⋯
def yp (x:Int):dO [.int x]=pr (.tl<|(nmL (x%4).toNat).map W.str):=by
 have e0:dO [.int x]=bd (eR [some<|.int x,none,none]) NR:=rfl;rw[e0];unfold eR;have a0:=HV x (show (4:Int)≠0 by decide);have a1:=HU x (show (0:Int)<4 by decide);have rv:∀l:↑W,QA (.tl l) (some<|-1)=pr (.tl l.reverse):=λl=>rfl;have ix:ixW (.tl [.tl<|nmA.map W.str,.tl<|nmB.map W.str,.tl (nmA.map W.str).reverse,.tl (nmB.map W.str).reverse]) (.int<|x%4)=pr (.tl<|(nmL (x%4).toNat).map W.str):=by rw[<-List.map_reverse,<-List.map_reverse];exact cv<|g7 (λl:↑Str=>W.tl<|l.map W.str) [nmA,nmB,nmA.reverse,nmB.reverse] [] a0 a1
 have ea:[W.str "a",W.str "b",W.str "c",W.str "d",W.str "e",W.str "f",W.str "g",W.str "h",W.str "i",W.str "j"]=nmA.map W.str:=rfl;have eb:[W.str "top",W.str "t",W.str "ab",W.str "a",W.str "zed",W.str "n",W.str "nn",W.str "out",W.str "mid",W.str "x"]=nmB.map W.str:=rfl;simp!;rw[ea,eb];generalize nmA.map W.str=LA at*;generalize nmB.map W.str=LB at*;simp! only[aa,Ph,rv,am (show (0:Int)<4 by decide),ix]
def ln12:∀ {l:↑Int},⇑l=12->∃a b c d e f g h i j k m,l=[a,b,c,d,e,f,g,h,i,j,k,m]
 |[a,b,c,d,e,f,g,h,i,j,k,m],_=>(a,b,c,d,e,f,g,h,i,j,k,m,rfl)
def ln4':∀ {l:↑Int},⇑l=4->∃a b c d,l=[a,b,c,d]
 |[a,b,c,d],_=>(a,b,c,d,rfl)
structure BtL (ns:↑Str)(b:Bt):Prop where
 g:BtG bn2 ns b
 l:⇑b.ss<=2
 d:(∀r∈b.ss ,r.dep<=5)/\b.e.dep<=5
noncomputable def bT:MG->M Fl:=(Q7 (Q8 6<|O5 (arW 2 bP)<|O7 (O5 (arW 2 bQ)<|O7 (Pm 0)<|O7 (m2 M8 ⇑1 (Pm 5)) Pe)<|O7 ⇑12 Pe)<|Q7 (sEx<|Pb isL bu (Pm 4)<|O7 (m2 M8 ⇑"block " (m2 ixW (Pm 3)<|Pm 5)) Pe)<|Q7 (sIf (mB<|m2 gtW (m2 Pq (m2 ixW (Pm 6) ⇑0) ⇑3) ⇑0) (sEx<|Pb isL bu (Pm 4)<|O7 (O5 (arW 1 bG)<|O7 (m3 slW (Pm 6) (Pg ⇑1)<|Pg ⇑4) Pe) Pe) Q1)<|Q7 (sIf (mB<|m2 gtW (m2 Pq (m2 ixW (Pm 6) ⇑0) ⇑3) ⇑1) (sEx<|Pb isL bu (Pm 4)<|O7 (O5 (arW 1 bG)<|O7 (m3 slW (Pm 6) (Pg ⇑4)<|Pg ⇑7) Pe) Pe) Q1)<|sEx<|Pb isL bu (Pm 4)<|O7 (O5 (arW 2 fH)<|O7 (Pm 6)<|O7 (Pm 3) Pe) Pe)
def lG:gj=(Q7 (Q8 2<|O5 (arW 2 bP)<|O7 (O5 (arW 2 bQ)<|O7 (Pm 0)<|O7 ⇑0 Pe)<|O7 ⇑4 Pe)<|Q7 (Q8 3<|m3 slW (O5 (arW 1 dO)<|O7 (m2 ixW (Pm 2) ⇑0) Pe) ao<|Pg<|m2 M8 ⇑1 (m2 Pq (m2 ixW (Pm 2) ⇑1)<|Pm 1))<|Q7 (Q8 4<|Pc<|OR<|O7 (m2 M8 ⇑"box n " (O5 RU<|O7 (m2 Pq (m2 ixW (Pm 2) ⇑2) ⇑3) Pe))<|O7 (m2 M8 ⇑"box nn " (O5 RU<|O7 (m2 Pq (m2 ixW (Pm 2) ⇑3) ⇑4) Pe)) Pe)<|Q7 (QU (Pk (O7 (O5 OT<|O7 (Pm 3) Pe) Pe) QB) (tgN 5) bT)<|Q4<|Pb isS OC ⇑"\n" (O7 (Pm 4) Pe)):=rfl
def BS (sc:↑Int){ns:↑Str}{k:Nat}{nm:Str}(hk:ns[k]?=`nm)(l2:⇑ns<=10)(na:∀x∈ns ,aU x=true):∃b:Bt,b.nm=nm/\BtL ns b/\∀ (h:↑Ob) (j:Nat) (L:↑Str) (a mo hd:Option W),h[j]?=some (.lst<|L.map W.str)->L.length<=200->
  Ok (bT [some<|.cl<|sc.map W.int,mo,hd,some<|.tl<|ns.map W.str,some<|.loc j,some<|.int<|0+(k:Int),a]) h λx h'=>(∃a' ,x=.nx [some<|.cl<|sc.map W.int,mo,hd,some<|.tl<|ns.map W.str,some<|.loc j,some<|.int<|0+(k:Int),a'])/\h'[j]?=some (.lst<|(L++b.rows.map Rr.tx).map W.str)/\(∀i ,i<⇑h->i≠j->h'[i]?=h[i]?)/\⇑h<=⇑h':=by
 let(c,ec):=pE sc (1+(0+(k:Int))) ∅;let(x0,x1,x2,x3,x4,x5,x6,x7,x8,x9,x10,x11,ex):=ln12<|jk c 12;have hl:=(Hm.mp hk).1;let(R1,es1,st1,g1):=xg x1 x2 x3;let(R2,es2,st2,g2):=xg x4 x5 x6;let(R,ee,en,g,to):=Bj x0 x1 x2 x3 x4 x5 x6 x7 x8 x9 x10 x11 (ns:=ns) ∅ l2 na;have nm1:=na nm<|HH hk;have nl:=(cp nm1).len;have v0:=HV x0 (show (3:Int)≠0 by decide);have v1:=HU x0 (show (0:Int)<3 by decide);have ik:ixW (.tl<|ns.map W.str) (.int<|0+(k:Int))=pr (.str nm):=cv<|bp ∅ (by rw[Hl,show (0+(k:Int)).toNat=k by omega,hk];rfl);have kb:⇑("block ":Str)=6:=OL.2.2.2.2.2.2.2.2;have ss:∀ {h:↑Ob}{j:Nat}{L:↑Str}{z:Str}{β:Type}{k:W->M β}{Q:β->↑Ob->Prop},h[j]?=some (.lst<|L.map W.str)->L.length<=300->(∀h' ,h'[j]?=some (.lst<|(L++[z]).map W.str)->(∀i ,i≠j->h'[i]?=h[i]?)->⇑h'=⇑h->Ok (k .non) h' Q)->Ok (bd (bu (.loc j) [.str z]) k) h Q:=λ{h j L z β k Q} e l q=>by refine d9 e (by rw[Hb];exact HQ l ↥_)<|q _ ?_ (λi hi=>Hr<|Ne.symm hi)<|HP ..;rw[de e,Hh];rfl
 refine((nm,if x0%3=0 then [] else if x0%3=1 then [R1] else [R1,R2],R),rfl,((nm1,?_,?_,(en,g.ok,g.b,to)),?_,?_,g.d),λh j L a mo hd ej lL=>?_)
 .show ⇑(if x0%3=0 then [] else if x0%3=1 then [R1] else [R1,R2])<=8;split;simp;split<;>simp
 .intro r hr;have hr:r∈(if x0%3=0 then [] else if x0%3=1 then [R1] else [R1,R2]):=hr;have two:r∈[R1,R2]->r.stm=true/\r.Ok/\∀x∈r.bxs,x∈bn2:=λhm=>by
   rcases Hd.mp hm with rfl|hm
   exact(st1,g1.ok,g1.b);rw[HC.mp hm];exact(st2,g2.ok,g2.b)
  split at hr;exact absurd hr HB
  .split at hr;exact two (by rw[HC.mp hr];exact Hi);exact two hr
 .show ⇑(if x0%3=0 then [] else if x0%3=1 then [R1] else [R1,R2])<=2;split;simp;split<;>simp
 .intro r hr;have hr:r∈(if x0%3=0 then [] else if x0%3=1 then [R1] else [R1,R2]):=hr;have two:r∈[R1,R2]->r.dep<=5:=λhm=>by
   rcases Hd.mp hm with rfl|hm
   exact g1.d;rw[HC.mp hm];exact g2.d
  split at hr;exact absurd hr HB
  .split at hr;exact two (by rw[HC.mp hr];exact Hi);exact two hr
 unfold bT;have em:(PJ c 12).map W.int=[.int x0,.int x1,.int x2,.int x3,.int x4,.int x5,.int x6,.int x7,.int x8,.int x9,.int x10,.int x11]:=by rw[ex];rfl
 simp! only[aa,ec];refine aJ (oW (n:=12) rfl ↥_) λw h1 qq_=>?_;let(ew,F):=qq_;subst ew;rw[em];have e1:h1[j]?=some (.lst<|L.map W.str):=(F.eq j<|dj ej).trans ej;have bt:=zK nm;simp!;refine cL e1 ?_;simp! only[aa,ik,adS (a:="block ") (b:=nm) ∅];rw[<-bt];refine ss e1 ∅ λh2 e2 f2 l2'=>?_;have lL2:⇑(L++[(Rr.block nm).tx])<=201:=by rw[Hk,HI];omega
 by_cases c0:x0%3=0
 .simp! only[aa,tx0,am (show (0:Int)<3 by decide),bg (show¬(0:Int)<x0%3 by omega),bg<|show¬(1:Int)<x0%3 by omega];refine cL e2 ?_;simp! only[aa,ee];refine ss e2 ∅ λh3 e3 f3 l3=>?_;simp!;refine ah ((_,rfl),?_,λi hi hj=>?_,?_);rw[e3,bf c0,HF];rfl;rw[f3 i hj,f2 i hj];exact F.eq i hi;rw[l3,l2'];exact F.le
 by_cases c1:x0%3=1
 .simp! only[aa,tx0,am (show (0:Int)<3 by decide),bN (show (0:Int)<x0%3 by omega),bg<|show¬(1:Int)<x0%3 by omega];refine cL e2 ?_;simp! only[aa,ct14,es1];refine ss e2 ∅ λh3 e3 f3 l3=>?_;simp! only[aa,tx0,am (show (0:Int)<3 by decide),bg<|show¬(1:Int)<x0%3 by omega];refine cL e3 ?_;simp! only[aa,ee];refine ss e3 (by rw[Hk,HI];omega) λh4 e4 f4 l4=>?_;simp!;refine ah ((_,rfl),?_,λi hi hj=>?_,?_);rw[e4,aZ c0,bf c1,HF,HF];rfl;rw[f4 i hj,f3 i hj,f2 i hj];exact F.eq i hi;rw[l4,l3,l2'];exact F.le
 .simp! only[aa,tx0,am (show (0:Int)<3 by decide),bN (show (0:Int)<x0%3 by omega),bN<|show (1:Int)<x0%3 by omega];refine cL e2 ?_;simp! only[aa,ct14,es1];refine ss e2 ∅ λh3 e3 f3 l3=>?_;simp! only[aa,tx0,am (show (0:Int)<3 by decide),bN<|show (1:Int)<x0%3 by omega];refine cL e3 ?_;simp! only[aa,ct47,es2];refine ss e3 (by rw[Hk,HI];omega) λh4 e4 f4 l4=>?_;simp!;refine cL e4 ?_;simp! only[aa,ee];refine ss e4 (by rw[Hk,Hk,HI,HI];omega) λh5 e5 f5 l5=>?_;simp!;refine ah ((_,rfl),?_,λi hi hj=>?_,?_);rw[e5,aZ c0,aZ c1,HF,HF,HF];rfl;rw[f5 i hj,f4 i hj,f3 i hj,f2 i hj];exact F.eq i hi;rw[l5,l4,l3,l2'];exact F.le
def zv {α:Type}(l:↑α){v:Int}(h0:0<=v):Nv l none `v=l.take v.toNat:=by
 unfold Nv;show List.take ((if v<0 then (v+(⇑l:Int)).toNat else min v.toNat ⇑l)-0) (l.drop 0)=_;rw[aZ ∅,J9,Nat.sub_zero];by_cases h:v.toNat<=⇑l;rw[Nat.min_eq_left h];rw[Nat.min_eq_right ∅,Hz,J4 ∅]
def zI (x v:Str):(Rr.box x v).tx="box"++⟨#[32]⟩++(x++⟨#[32]⟩++v):=rfl
def Gm:("box n ":Str)="box"++⟨#[32]⟩++("n"++⟨#[32]⟩)/\("box nn ":Str)="box"++⟨#[32]⟩++("nn"++⟨#[32]⟩)/\⇑("box n ":Str)=6/\⇑("box nn ":Str)=7:=⋯
def uQ:∀m,m<4->PF (NQ.getD m "")=true:=⋯
def Ng:aU "n"=true/\aU "nn"=true/\(["n","nn"]:↑Str).Nodup:=⋯
structure TxG (most:Nat)(bx:↑(Str×Str))(bl:↑Bt):Prop where
 g:PtxG bx bl
 b:∀b∈bl,BtL (bl.map Bt.nm) b
 n:bx.map (·.1)=bn2
 l:⇑bl<=most
def zW (sc:↑Int){most:Nat}{MM:Int}(hM:MM=(most:Int))(m1:1<=most)(m2:most<=10):∃bx bl,TxG most bx bl/\∀h:↑Ob,Ok (eC [.cl<|sc.map W.int,.int MM]) h λw h'=>w=.str (Sc<|pgR bx bl)/\Fo ⇑h h h':=by
 let(c,ec):=pE sc 0 ∅;let(y0,y1,y2,y3,ey):=ln4'<|jk c 4;have i0:=HV y0 (show (4:Int)≠0 by decide);have i1:=HU y0 (show (0:Int)<4 by decide);let(nl,na,nd):=DO (y0%4).toNat ∅;have na:=HJ.mp na;have v0:=HV y1 (show MM≠0 by omega);have v1:=HU y1 (show 0<MM by omega);have hn:=yp y0;obtain⟨ns,hns⟩:∃ns,ns=(nmL (y0%4).toNat).take (1+y1%MM).toNat:=(_,rfl)
 have ln:⇑ns=(1+y1%MM).toNat:=by rw[hns,H9,nl];omega
 have nn:∀x∈ns,aU x=true:=λx hx=>by rw[hns]at hx;exact na x<|Kn hx
 have ndn:ns.Nodup:=by rw[hns];exact nd.sublist<|Kx _ _
 have sl:slW (.tl<|(nmL (y0%4).toNat).map W.str) none (some<|1+y1%MM)=pr (.tl<|ns.map W.str):=by rw[slW_tl,zv _ ∅,<-List.map_take,<-hns]
 generalize nmL (y0%4).toNat=NL at*;have s0:=HV y2 (show (3:Int)≠0 by decide);have s1:=HU y2 (show (0:Int)<3 by decide);have t0:=HV y3 (show (4:Int)≠0 by decide);have t1:=HU y3 (show (0:Int)<4 by decide);have sv:=st4 s0 (show y2%3<4 by omega);have tv:=st4 t0 t1;have n2:=uQ (y2%3).toNat ∅;have n3:=uQ (y3%4).toNat ∅;have l2:=lS (y2%3).toNat ∅;have l3:=lS (y3%4).toNat ∅;generalize NQ.getD (y2%3).toNat ""=f2 at*;generalize NQ.getD (y3%4).toNat ""=f3 at*;have bo:∀k:Nat,∃b:Bt,∀nm,ns[k]?=`nm->b.nm=nm/\BtL ns b/\∀ (h:↑Ob) (j:Nat) (L:↑Str) (a mo hd:Option W),h[j]?=some (.lst<|L.map W.str)->L.length<=200->
  Ok (bT [some<|.cl<|sc.map W.int,mo,hd,some<|.tl<|ns.map W.str,some<|.loc j,some<|.int<|0+(k:Int),a]) h λx h'=>(∃a' ,x=.nx [some<|.cl<|sc.map W.int,mo,hd,some<|.tl<|ns.map W.str,some<|.loc j,some<|.int<|0+(k:Int),a'])/\h'[j]?=some (.lst<|(L++b.rows.map Rr.tx).map W.str)/\(∀i ,i<⇑h->i≠j->h'[i]?=h[i]?)/\⇑h<=⇑h':=λk=>by
  cases e:ns[k]? with
  |none=>exact(("",[],.stop),λnm h=>by cases h)
  |some nm=>
   let(b,q):=BS sc e ∅ nn;exact(b,λnm' h=>by cases h;exact q)
 let(F,hF):=Classical.axiomOfChoice bo;have gF:∀k,k<⇑ns->∃nm,ns[k]?=`nm:=λk hk=>(_,Hw hk)
 have enm:((List.range ⇑ns).map F).map Bt.nm=ns:=by
  apply JD;intro k;rw[HG,Hl];by_cases hk:k<⇑ns;let(nm,e):=gF k hk;rw[Ko hk,e];exact congrArg some (hF k nm e).1;rw[IY (by rw[IN];omega),IY ∅];rfl
 have all:∀b∈(List.range ⇑ns).map F,BtL ns b:=λb hb=>by let(k,hk,rfl):=Hq.mp hb;let(nm,e):=gF k<|Ii.mp hk;exact (hF k nm e).2.1
 have lbl:⇑((List.range ⇑ns).map F)=⇑ns:=by rw[Hb,IN]
 refine([("n" ,f2),("nn" ,f3)],(List.range ⇑ns).map F,((λx hx=>?_,Ng.2.2,⇑_,by rw[enm];exact ndn,by rw[lbl];omega,by rw[lbl];omega,λb hb=>by rw[enm];exact (all b hb).g),λb hb=>by rw[enm];exact all b hb,rfl,by rw[lbl];omega),λh=>?_)
 .rcases Hd.mp hx with rfl|hx
  exact(Ng.1,n2);rw[HC.mp hx];exact(Ng.2.1,n3)
 have e0:eC [.cl<|sc.map W.int,.int MM]=bd (gj [some<|.cl<|sc.map W.int,some<|.int MM,none,none,none,none,none]) NR:=rfl;rw[e0,lG];have em:(PJ c 4).map W.int=[.int y0,.int y1,.int y2,.int y3]:=by rw[ey];rfl
 simp! only[aa,ec];refine aJ (oW (n:=4) rfl ↥_) λw h1 qq_=>?_;let(ew,F1):=qq_;subst ew;rw[em];let(kb1,kb2,kb3,kb4):=Gm;obtain⟨N,hN⟩:∃N:Int,N=(⇑ns:Int):=(_,rfl)
 have eL:OT [.tl<|ns.map W.str]=pr (.int N):=by rw[lenW_tl,Hb,hN]
 have eN:N.toNat=⇑ns:=∅;obtain⟨NW,hNW⟩:∃NW,NW=W.tl (ns.map W.str):=(_,rfl)
 rw[<-hNW]at sl eL;simp! only[aa,tx0,tx1,tx2,tx3,hn,am (show 0<MM by omega),am (show (0:Int)<3 by decide),am (show (0:Int)<4 by decide),sl,sv,tv,adS (a:="box n ") (b:=f2) ∅,adS (a:="box nn ") (b:=f3) ∅];refine gY ?_;simp! only[aa,eL,jf (show (-(2^62):Int)<=N by omega)<|show N<2^62 by omega];have b1:"box n "++f2=(Rr.box "n" f2).tx:=by rw[zI,kb1];simp only[Ra]
 have b2:"box nn "++f3=(Rr.box "nn" f3).tx:=by rw[zI,kb2];simp only[Ra]
 rw[b1,b2];obtain⟨T1,hT1⟩:∃T,T=(Rr.box "n" f2).tx:=(_,rfl)
 obtain⟨T2,hT2⟩:∃T,T=(Rr.box "nn" f3).tx:=(_,rfl)
 rw[<-hT1,<-hT2];have rl:∀i,i<=⇑ns->⇑([T1,T2]++(((List.range i).map F).flatMap Bt.rows).map Rr.tx)<=2+4*i:=λi hi=>by
  rw[Hk,Hb];show 2+_<=_;have:∀i,i<=⇑ns->⇑(((List.range i).map F).flatMap Bt.rows)<=4*i:=λi=>by
   induction i with
   |zero=>intro _;simp
   |succ i ih=>
    intro hi;have ih:=ih ∅;rw[IV,Hh,Jk,Hk];let(nm,e):=gF i ∅;have:=(hF i nm e).2.1.l;have:⇑((List.map F [i]).flatMap Bt.rows)=(F i).ss.length+2:=by show ⇑((F i).rows++[])=_;rw[HL];unfold Bt.rows;rw[Hf,Hk];rfl
    omega
  have:=this i hi;omega
 have hg0:(h1++[Ob.lst [.str T1,.str T2]])[⇑h1]?=some (.lst<|([T1,T2]++(((List.range 0).map F).flatMap Bt.rows).map Rr.tx).map W.str):=f9;have hg1:⇑h1<=⇑(h1++[Ob.lst [.str T1,.str T2]]):=by rw[Hk];omega
 refine cz (I:=λi ρ h'=>∃a b ,ρ=[some<|.cl<|sc.map W.int,some<|.int MM,some<|.tl [.int y0,.int y1,.int y2,.int y3],some NW,some<|.loc ⇑h1,a,b]/\h'[⇑h1]?=some (.lst<|([T1,T2]++(((List.range i).map F).flatMap Bt.rows).map Rr.tx).map W.str)/\(∀i ,i<⇑h1->h'[i]?=h1[i]?)/\⇑h1<=⇑h') (none,none,rfl,hg0,λi hi=>HN hi,hg1) (λJ J J J=>trivial) (λi w ρ h2 hw I=>?_) λρ h2 I=>?_
 .let(a,b,rfl,q1,q2,q3):=I;let(rfl,hi):=cV _ _ _ _ hw;rw[eN]at hi;let(nm,e):=gF i hi;let(_,_,bk):=hF i nm e;have r:=rl i ∅;rw[<-hNW]at bk;refine(_,rfl,(bk h2 ⇑h1 _ b _ _ q1 ∅).imp λx h3 qz=>?_);let((a',ex),p1,p2,p3):=qz;refine(_,ex,_,_,rfl,?_,λi hi=>(p2 i ∅ ∅).trans<|q2 i hi,∅);have e1:((List.range<|i+1).map F).flatMap Bt.rows=((List.range i).map F).flatMap Bt.rows++(F i).rows:=by rw[IV,Hh,Jk];show _++((F i).rows++[])=_;rw[HL]
  rw[p1,e1,HF,<-Hh (f:=Rr.tx)]
 .let(a,b,rfl,q1,q2,q3):=I;rw[cO,eN]at q1;have r:=rl ⇑ns<|Hc _;have et:[T1,T2]++(((List.range ⇑ns).map F).flatMap Bt.rows).map Rr.tx=(pgR [("n" ,f2),("nn" ,f3)]<|(List.range ⇑ns).map F).map Rr.tx:=by unfold pgR;rw[Hh,hT1,hT2];rfl
  rw[et]at q1 r;have lens:∀z∈(pgR [("n" ,f2),("nn" ,f3)]<|(List.range ⇑ns).map F).map Rr.tx,⇑z<=600:=λz hz=>by
   let(R,hR,rfl):=Hq.mp hz;unfold pgR at hR;rcases Ij.mp hR with hR|hR
   .let(x,hx,rfl):=Hq.mp hR;rcases Hd.mp hx with rfl|hx
    exact Rr.Ok.len (r:=.box "n" f2) (Ng.1,n2);rw[HC.mp hx];exact Rr.Ok.len (r:=.box "nn" f3) (Ng.2.1,n3)
   .let(b,hb,hR):=IZ.mp hR;have gb:=(all b hb).g;rcases Hd.mp hR with rfl|hR
    exact Rr.Ok.len (r:=.block b.nm) gb.nm
    .rcases Ij.mp hR with hR|hR
     exact (gb.s _ hR).2.1.len;rw[HC.mp hR];exact gb.e.2.1.len
  have sm:∀ {l:↑Str},(∀z∈l ,⇑z<=600)->(l.map (·.length)).sum<=600*⇑l:=λ{l} h=>by
   induction l with
   |nil=>simp
   |cons z l ih=>
    have a:=h z Hi;have b:=ih λz hz=>h z<|Ht _ hz;rw[Hg,Il,Hf,Kl];omega
  have sm:=sm lens;have hr:Sc (pgR [("n" ,f2),("nn" ,f3)]<|(List.range ⇑ns).map F)=Str.join "\n" ((pgR [("n" ,f2),("nn" ,f3)]<|(List.range ⇑ns).map F).map Rr.tx):=by rw[yj];rfl
  rw[hr];generalize (pgR [("n" ,f2),("nn" ,f3)]<|(List.range ⇑ns).map F).map Rr.tx=TS at*;have jl:⇑("\n":Str)=1:=by rw[yj];rfl
  have jw:OC (.str "\n") [.loc ⇑h1] h2=.ok (.str<|Str.join "\n" TS) h2:=by show bd (O0<|.loc ⇑h1) _ h2=_;rw[eI<|lT q1,jj (f:=sOf) (g:=W.str)<|λa=>rfl];exact congrFun (ag<|sz<|by rw[jl];omega) h2
  simp!;refine bj jw ?_;simp!;exact ah (rfl,λi hi=>(q2 i<|HE hi F1.le).trans<|F1.eq i hi,HA F1.le q3)
end
section
open Wd
def Rx:(Mn.strOk "n"=true/\Mn.strOk "nn"=true)/\(Mn.strOk "+"=true/\Mn.strOk "-"=true/\Mn.strOk "*"=true)/\(Mn.strOk "say"=true/\Mn.strOk "ask"=true/\Mn.strOk "put"=true)/\Mn.strOk "<"=true/\Mn.strOk "="=true:=⋯
def xl {x:Str}(h:x∈bn2):Mn.strOk x=true:=by
 rcases Hd.mp h with rfl|h
 exact Rx.1.1;rw[HC.mp h];exact Rx.1.2
theorem iT:∀ (n:Nat) (e:Exp),NH e+2<=n->NJ e=true->(∀x∈NI e ,x∈bn2)->Pd n (NK e)
 |0,_,h,_,_=>∅
 |1,_,h,_,_=>∅
 |n+2,.num i,_,_,_=>pd2i vN
 |n+2,.box x,_,_,b=>pd2s DL<|xl<|b x Hi
 |n+2,.bin s l r,h,k,b=>by
  have h:1+max (NH l) (NH r)+2<=n+2:=h;have k:(decide (s∈(["+","-","*"]:↑Str))&&(NJ l && NJ r))=true:=k;rw[HD,HD,decide_eq_true_eq]at k;have sk:Mn.strOk s=true:=by
   have:=k.1;simp only[Hd,HB,or_false]at this;rcases this with rfl|rfl|rfl
   exact Rx.2.1.1;exact Rx.2.1.2.1;exact Rx.2.1.2.2
  exact pdT ⇑_ (bq (.str sk)<|bq (iT (n+1) l ∅ k.2.1 λx hx=>b x<|Jd _ hx)<|bq (iT (n+1) r ∅ k.2.2 λx hx=>b x<|HW _ hx) gW)
def BF {ns:↑Str}{r:Rr}{N:Int}(hN:N=(⇑ns:Int))(q:r.end'=true)(g:r.Ok)(b:∀x∈r.bxs ,x∈bn2)(d:r.dep<=5)(to:∀x∈r.tos ,x∈ns):(r.en ns).Good N:=by
 have ix:∀x,x∈ns->(0:Int)<=((Oy ns x:Nat):Int)/\((Oy ns x:Nat):Int)<N:=λx hx=>by have:=(nV hx).2;omega
 cases r with
 |go nm=>exact ix nm<|to nm Hi
 |iff s z1 e1 z2 e2 x y=>
  let(g1,g2,g3,g4,g5):=g;have d:max (NH e1) (NH e2)<=5:=d;refine(ix x<|to x Hi,ix y<|to y<|Ht _ Hi,iT 8 e1 ∅ g2.ok λx hx=>b x<|Jd _ hx,iT 8 e2 ∅ g3.ok λx hx=>b x<|HW _ hx,?_);rcases g1 with rfl|rfl
  exact Rx.2.2.2.1;exact Rx.2.2.2.2
 |table z e xs=>
  let(g1,g2,g3,g4):=g;have d:NH e<=5:=d;refine(by show ⇑(xs.map _)<=6;rw[Hb];exact g3,λt ht=>?_,iT 8 e ∅ g1.ok b);have ht:t∈xs.map λx=>((Oy ns x:Nat):Int):=ht;let(x,hx,rfl):=Hq.mp ht;exact ix x<|to x hx
 |stop=>trivial
 |_=>cases q
def CQ {r:Rr}(q:r.stm=true)(g:r.Ok)(b:∀x∈r.bxs ,x∈bn2)(d:r.dep<=5):∃ (z:Str) (l:↑W),r.form=.tup (.str z::l)/\(z="say"\/z="ask"\/z="put")/\Pd 9 r.form:=by
 let(k1,k2,k3):=Rx.2.2.1;cases r with
 |put nm z e=>
  have d:NH e<=5:=d;exact("put",_,rfl,.inr<|.inr rfl,pdT (n:=8) ⇑_ (bq (.str k3)<|bq (.str<|xl<|b nm Hi)<|bq (iT 8 e ∅ g.2.ok λx hx=>b x<|Ht _ hx) gW))
 |say z e=>
  have d:NH e<=5:=d;exact("say",_,rfl,.inl rfl,pdT (n:=8) ⇑_ (bq (.str k1)<|bq (iT 8 e ∅ g.ok b) gW))
 |ask nm=>exact("ask",_,rfl,.inr<|.inl rfl,pd2s k2<|xl<|b nm Hi)
 |_=>cases q
end
section
noncomputable def Sh (n:Nat):↑Int:=(List.range n).map λ(r:Nat)=>1+(r:Int)
def ve (n:Nat):Sh (n+1)=Sh n++[1+(n:Int)]:=by unfold Sh;rw[IV,Hh];rfl
def i9 (n:Nat):⇑(Sh n)=n:=by unfold Sh;simp
def Si {n:Nat}{x:Int}:x∈Sh n↔1<=x/\x<=n:=by
 unfold Sh;constructor;intro h;let(r,hr,rfl):=Hq.mp h;have:=Ii.mp hr;omega;intro h;exact Hq.mpr ((x-1).toNat,Ii.mpr ∅,∅)
def addT (a:W)(l m:↑W)(h:⇑l+⇑m<=100):M8 (.tup (a::l)) (.tup m)=pr (.tup (a::(l++m))):=by show gd ((a::l).isEmpty=false/\⇑(a::l)+⇑m<=sizeLine) (pr<|W.tup<|(a::l)++m)=_;rw[ag (rfl,sz<|by rw[Hf];omega)];rfl
def l7 (n:Nat):Oi 1 n=(Sh n).map W.int:=by
 apply JD;intro i;by_cases hi:i<n
 .obtain⟨w,hw⟩:∃w,(Oi 1 n)[i]?=`w:=(_,Hw<|by rw[cO];exact hi)
  let(rfl,_):=cV _ _ _ _ hw;rw[hw];unfold Sh;rw[HG,Hl,Ko hi];rfl
 rw[IY (by rw[cO];omega),IY<|by rw[Hb,i9];omega]
def RB {os:↑Int}(h:1<=⇑os):slW (.tup<|os.map W.int) (some 1) none=pr (.tup<|os.tail.map W.int):=by
 show gd (¬(HT.sIx ⇑(os.map W.int) 0 (some 1)=0/\HT.sIx ⇑(os.map W.int) ⇑(os.map W.int) none=⇑(os.map W.int))) (pr<|W.tup<|Nv (os.map W.int) (some 1) none)=_;have s1:HT.sIx ⇑(os.map W.int) 0 (some 1)=1:=by show (if (1:Int)<0 then ((1:Int)+(⇑(os.map W.int):Int)).toNat else min (1:Int).toNat ⇑(os.map W.int))=1;rw[aZ ↥_,Hb];show min 1 ⇑os=1;omega
 rw[ag<|by rw[s1];omega];congr 2;unfold Nv;rw[s1,show HT.sIx ⇑(os.map W.int) ⇑(os.map W.int) none=⇑(os.map W.int) from rfl];cases os with
 |nil=>rfl
 |cons a os=>
  rw[Hg,List.drop_one,List.tail_cons,List.tail_cons,Hf,IP,Hz]
end
section
def GV:decide (("if":Str)="go")=false:=⋯
def GW:decide (("go":Str)="table")=false:=⋯
def GU:decide (("if":Str)="table")=false:=⋯
def GQ:decide (("table":Str)="go")=false:=⋯
def GP:decide (("table":Str)="if")=false:=⋯
def GT:decide (("stop":Str)="go")=false:=⋯
def GR:decide (("stop":Str)="if")=false:=⋯
def Fv:decide (("stop":Str)="table")=false:=⋯
noncomputable def E17.tos:E17->↑Int
 |.go t=>[t]
 |.iff _ _ _ x y=>[x,y]
 |.table _ ts=>ts
 |.stop=>[]
noncomputable def E17.tab:E17->Bool|.table _ _=>true|_=>false
def E17.Good.six {m:Int}{e:E17}(g:e.Good m):⇑e.tos<=6:=by
 cases e with|go t=>show ⇑([t]:↑Int)<=6;simp|iff s a b x y=>show ⇑([x,y]:↑Int)<=6;simp|table e ts=>exact g.1|stop=>exact Hy _
structure B23 where
 nm:Str
 s:↑W
 e:E17
noncomputable def B23.w (b:B23):W:=.tup [.str b.nm,.tl b.s,b.e.w]
abbrev Way:=Int×Int×Int
noncomputable def Sm (w:Way):W:=.tup [.int w.1,.int w.2.1,.int w.2.2]
noncomputable def fj (k:Int)(ts:↑Int):↑Way:=ts.zipIdx.map λp=>(k ,(p.2:Int),p.1)
noncomputable def Sn (es:↑E17):↑Way:=es.zipIdx.flatMap λp=>fj p.2 p.1.tos
def rP (k:Int)(ts:↑Int)(t:Int):fj k (ts++[t])=fj k ts++[(k ,(⇑ts:Int),t)]:=by unfold fj;rw[KU,Hh];simp
def nC (k:Int)(ts:↑Int):⇑(fj k ts)=⇑ts:=by unfold fj;simp
def ng (es:↑E17)(e:E17):Sn (es++[e])=Sn es++fj ⇑es e.tos:=by unfold Sn;rw[KU,Jk];simp
theorem gN (es:↑E17)(h:∀e∈es ,⇑e.tos<=6):∀n,n<=⇑es->⇑(Sn<|es.take n)<=6*n|0,_=>by rw[Jy];exact Hc _|n+1,hn=>by have ih:=gN es h n ∅;have e1:es[n]?=some es[n]:=Hw ∅;have h6:=h _<|HH e1;rw[show es.take (n+1)=es.take n++[es[n]] by rw[Iw,e1];rfl,ng,Hk,nC];omega
def pP {w:Way}(h:w∈Sn es):∃e,es[w.1.toNat]?=`e/\0<=w.1/\w.2.2∈e.tos:=by unfold Sn at h;let((e,i),hp,hw):=IZ.mp h;rw[KY]at hp;unfold fj at hw;let((t,n),hq,rfl):=Hq.mp hw;rw[KY]at hq;exact(e,hp,Int.natCast_nonneg _,HH hq)
structure Nw (h h':↑Ob):Prop where
 le:⇑h<=⇑h'
 eq:∀i,i<⇑h->h'[i]?=h[i]?
def Nw.refl (h:↑Ob):Nw h h:=(Hc _,λJ J=>rfl)
theorem Nw.trans (x:Nw a b)(y:Nw b c):Nw a c:=(HA x.le y.le,λi hi=>(y.eq i<|HE hi x.le).trans<|x.eq i hi)
def Nw.get {j:Nat}(x:Nw h h')(e:h[j]?=`b):h'[j]?=`b:=(x.eq j<|dj e).trans e
structure Nf (h h':↑Ob)(b:Ob):Prop where
 len:⇑h'=⇑h+1
 eq:∀i,i<⇑h->h'[i]?=h[i]?
 new:h'[⇑h]?=`b
def Nf.put (N:Nf h h' b)(c:Ob):Nf h (h'.set ⇑h c) c:=
 (by rw[HP];exact N.len,λi hi=>by rw[Hr ∅];exact N.eq i hi,de N.new)
def Nf.mk0 :Nf h (h++[b]) b:=(⇑_,λi hi=>by rw[HN hi],f9)
def Nf.nw (N:Nf h h' b):Nw h h':=(by rw[N.len];omega,N.eq)
def Nf.get {j:Nat}(N:Nf h h' b)(e:h[j]?=`c):h'[j]?=`c:=(N.eq j<|dj e).trans e
def xm (e:E17):gv [e.w]=pr (.tup<|e.tos.map W.int):=by have e0:gv [e.w]=bd (gc [some e.w]) NR:=rfl;rw[e0];unfold gc;cases e<;>(unfold E17.w E17.tos;simp! only[aa,ix0,ix1,ix2,ix4,ix5,GV,GQ,GP,GT,GR,Fv,eq_self,decide_true,Sf,Hg,HM])
def tZ {α:Type}{l:↑α}{i:Nat}{x:α}(h:l[i]?=`x):⇑(l.take i)=i:=by have:=(Hm.mp h).1;rw[H9];omega
noncomputable def NG (bs:↑B23):↑E17:=bs.map B23.e
noncomputable def pgW (bx:W)(bs:↑B23):W:=.tup [bx,.tl<|bs.map B23.w]
def Lw.enum {β:Type}{Q:β->↑Ob->Prop}{k:Sr->M β}(p:Lw h x l)(q:∀G ,(∀h' ,Lw h' x l->G h')->Ok (k (PH 0 l,G)) h Q):Ok (bd (NE [x]) k) h Q:=by show Ok (bd (bd (RM x) λs=>pr (PH 0 s.l,s.G)) k) h Q;rw[aa];refine Lw.src p λG g=>?_;rw[aB];exact q G g
def sP {β:Type}{k:W->M β}{Q:β->↑Ob->Prop}{bs:↑B23}(hp:ixW P (.int 1)=pr x)(hx:Lw h x (bs.map B23.w))(hl:⇑bs<=10)(hb:∀b∈bs ,⇑b.e.tos<=6)(q:∀h' ,Nw h h'->Ok (k<|.tl<|(Sn<|NG bs).map Sm) h' Q):Ok (bd (gu [P]) k) h Q:=by
 have e0:gu [P]=bd (pf [some P,none,none,none,none,none]) NR:=rfl;rw[e0];unfold pf;have h6:∀e∈NG bs,⇑e.tos<=6:=λe he=>by let(b,hb',rfl):=Hq.mp he;exact hb b hb'
 simp!;refine gY ?_;simp! only[aa,hp];refine Lw.enum (hx.keep (Nf.mk0 (h:=h) (b:=.lst [])).nw.eq) λG hG=>?_;simp!;refine cz (I:=λi ρ h'=>∃a b c d ,ρ=[some P,some<|.loc ⇑h,a,b,c,d]/\Nf h h' (.lst<|(Sn<|(NG bs).take i).map Sm)) (_,_,_,_,rfl,Nf.mk0) (λJ J J I=>by let(_,_,_,_,_,N):=I;exact hG _<|hx.keep N.nw.eq) (λi w ρ h1 hw I=>?_) λρ h1 I=>?_
 .let(a,b,c,d,rfl,N):=I;let(x',hx',rfl):=g0 _ _ _ _ hw;rw[Hl]at hx';let(b,hp',rfl):=Hn.mp hx';have he:(NG bs)[i]?=some b.e:=by unfold NG;rw[Hl,hp'];rfl
  have t6:=h6 _<|HH he;have hi:i<⇑bs:=(Hm.mp hp').1;have hi':i<⇑(NG bs):=(Hm.mp he).1;have w6:=gN (NG bs) h6 i ∅;let(nm,sts,e):=b;have t6:⇑e.tos<=6:=t6;have hs:ixW (B23.w (nm,sts,e)) (.int 2)=pr e.w:=ix2 ..;refine(_,rfl,?_);simp! only[aa,hs,xm,wA];generalize B23.w (nm,sts,e)=B at*;refine oV (I:=λn ρ h'=>∃c d ,ρ=[some P,some<|.loc ⇑h,some<|.int<|0+(i:Int),some B,c,d]/\Nf h h' (.lst<|(Sn ((NG bs).take i)++fj i (e.tos.take n)).map Sm)) (_,_,rfl,by rw[Jy];show Nf h h1 (.lst<|(_++[]).map Sm);rw[HL];exact N) (λJ J J J=>trivial) (λn w ρ h2 hw I=>?_) λρ h2 I=>?_
  .let(c,d,rfl,N2):=I;let(y,hy,rfl):=g0 _ _ _ _ hw;rw[Hl]at hy;let(t,ht,rfl):=Hn.mp hy;have hn:n<⇑e.tos:=(Hm.mp ht).1;refine(_,rfl,?_);simp!;refine cL N2.new ?_;simp!
   refine d9 N2.new (by
    rw[Hb,Hk,nC,H9]
    exact HQ (show _<=66 by omega) ↥_) ?_
   simp!;refine ah (_,rfl,_,_,rfl,?_);rw[aw ht,rP,tZ ht,<-HF];generalize Sn ((NG bs).take i)++fj i (e.tos.take n)=A at*;rw[show (A++[((i:Int) ,(n:Int),t)]).map Sm=A.map Sm++[.tup [.int<|0+(i:Int),.int<|0+(n:Int),.int t]] by rw[Hh,Jl,Jl];rfl];exact N2.put _
  let(c,d,rfl,N2):=I;rw[gZ,Hb,Hz]at N2;refine(_,rfl,_,_,_,_,rfl,?_);rw[aw he,ng,tZ he];exact N2
 let(a,b,c,d,rfl,N):=I;rw[gZ,Hb,show ⇑bs=⇑(NG bs) by unfold NG;rw[Hb],Hz]at N;simp!;refine iV N.new ?_;simp!;exact q _ (N.put .gone).nw
end
section
theorem u4 {κ:Type} [DecidableEq κ] (x x':κ)(y:W):∀ (ks:↑κ) (ws:↑W),⇑ks=⇑ws->atK ks (Po ks ws x y) x'=if x=x' then (if (ks.any λk=>decide<|k=x)=true then `y else none) else atK ks ws x'
 |[],ws,_=>by unfold atK;split<;>rfl
 |k::ks,[],h=>by cases h
 |k::ks,w::ws,h=>by
  have ih:=u4 x x' y ks ws<|Iv.inj h;rw[Po,atK,atK,ih,IJ];by_cases e:x=x'
  .subst e;by_cases e2:k=x;simp [e2];simp [e2]
  .by_cases e2:k=x';have:k≠x:=λz=>e<|z.symm.trans e2;simp [e,e2,this];intro z;exact absurd z.symm e;simp [e,e2]
theorem u5 {κ:Type} [DecidableEq κ] (x x':κ)(y:W):∀ (ks:↑κ) (ws:↑W),⇑ks=⇑ws->(ks.any λk=>decide<|k=x)=false->atK (ks++[x]) (ws++[y]) x'=if x=x' then `y else atK ks ws x'
 |[],[],_,_=>by simp [atK]
 |[],_::_,h,_=>by cases h
 |k::ks,[],h,_=>by cases h
 |k::ks,w::ws,h,a=>by
  rw[IJ,KD]at a;have ih:=u5 x x' y ks ws (Iv.inj h) a.2;rw[HK,HK,atK,atK,ih];have e2:k≠x:=of_decide_eq_false a.1;by_cases e:k=x';have:x≠x':=λz=>e2<|e.trans z.symm;simp [e,this];simp [e]
theorem nU {κ:Type} [DecidableEq κ] (x:κ)(y:W):∀ (ks:↑κ) (ws:↑W),⇑ks=⇑ws->⇑(Po ks ws x y)=⇑ws|[],ws,h=>h|k::ks,[],h=>by cases h|k::ks,w::ws,h=>by rw[Po,Hf,Hf,nU x y ks ws<|Iv.inj h]
def kP {κ:Type} [DecidableEq κ] {x:κ}{ks ks':↑κ}{ws ws':↑W}(h:⇑ks=⇑ws)(e:Qu ks ws x y=(ks' ,ws')):⇑ks'=⇑ws'/\⇑ks'<=⇑ks+1/\∀x',atK ks' ws' x'=if x=x' then `y else atK ks ws x':=by
 unfold Qu at e;by_cases a:(ks.any λk=>decide<|k=x)=true;rw[bf a]at e;cases e;refine(by rw[nU x y ks ws h];exact h,IH _,λx'=>?_);rw[u4 x x' y ks ws h,bf a];rw[aZ a]at e;cases e;refine(by rw[Hk,Hk,h];rfl,by rw[Hk];exact Hc _,λx'=>?_);exact u5 x x' y ks ws h (by rw[<-IW];exact a)
section
variable {β:Type}{h:↑Ob}{Q:β->↑Ob->Prop}{j:Nat}
def qw {k:W->M β}(q:Ok (k<|.loc ⇑h) (h++[.dit [] []]) Q):Ok (bd (oZ ρ) k) h Q:=bj (a:=.loc ⇑h) (h':=h++[.dit [] []]) rfl q
def iq {ws:↑W}{k:W->M β}(e:h[j]?=some (.dit ks ws))(q:Ok (k<|.loc j) h Q):Ok (bd (Ol<|.loc j) k) h Q:=by
 refine bj (a:=.loc j) (h':=h) ?_ q;have:NB (.loc j) h=some (ks ,ws):=by unfold NB;simp only[e]
 unfold Ol;rw[this]
def iz {ws:↑W}(e:h[j]?=some (.dit ks ws))(ek:OI y=`q):N4 (.loc j) y d h=.ok ((atK ks ws q).getD d) h:=by
 have:NB (.loc j) h=some (ks ,ws):=by unfold NB;simp only[e]
 unfold N4;simp only[this,ek]
def yb {ws ws':↑W}{k:Unit->M β}(e:h[j]?=some (.dit ks ws))(hz:⇑ks<sizeLine)(e2:Qu ks ws q v=(ks' ,ws'))(r:Ok (k ()) (h.set j<|.dit ks' ws') Q):Ok (bd (oz (.loc j) (.kt q) v) k) h Q:=by refine bj (a:=()) (h':=h.set j<|.dit ks' ws') ?_ r;unfold oz;simp only[e,bf hz,e2]
end
structure Nd (h h':↑Ob)(j:Nat)(b:Ob):Prop where
 nw:Nw h h'
 ge:⇑h<=j
 new:h'[j]?=`b
def Nd.put {j:Nat}(N:Nd h h' j b)(c:Ob):Nd h (h'.set j c) j c:=
 ((by rw[HP];exact N.nw.le,λi hi=>by rw[Hr (by have:=N.ge;omega)];exact N.nw.eq i hi),N.ge,de N.new)
def Nd.more {j:Nat}(N:Nd h h' j b)(K:Nw h' h2):Nd h h2 j b:=(N.nw.trans K,N.ge,K.get N.new)
theorem Nd.mk0 :Nd h (h++[b]) ⇑h b:=(Nf.mk0.nw,Hc _,f9)
abbrev Zw:=Bool×Int×Int×Int
noncomputable def R9 (es:↑E17)(a:Int):Bool:=match es[a.toNat]? with|some e=>e.tab|none=>false
noncomputable def zsL (es:↑E17)(cs:↑Int):↑Zw:=Jg (λ(w:Way) c=>(R9 es w.1 ,w.1,w.2.2,c)) (Sn es) cs
noncomputable def N5 (zs:↑Zw)(a b:Int):Int:=(zs.map λz=>if z.1=false/\z.2.1=a/\z.2.2.1=b then z.2.2.2 else 0).sum
def fE (zs:↑Zw)(z:Zw)(a b:Int):N5 (zs++[z]) a b=N5 zs a b+if z.1=false/\z.2.1=a/\z.2.2.1=b then z.2.2.2 else 0:=by unfold N5;rw[Hh,List.sum_append];simp
noncomputable def E17.kind:E17->Str
 |.go _=>"go"
 |.iff _ _ _ _ _=>"if"
 |.table _ _=>"table"
 |.stop=>"stop"
def uH (e:E17):ixW e.w (.int 0)=pr (.str e.kind):=by cases e<;>exact ix0 ..
def yV (e:E17):decide (e.kind="table")=e.tab:=by
 cases e with|go _=>exact GW|iff _ _ _ _ _=>exact GU|table _ _=>exact bN rfl|stop=>exact Fv
def yX (b:B23):ixW b.w (.int 2)=pr b.e.w:=ix2 ..
def zh {bs:↑B23}{i:Nat}(h:(NG bs)[i]?=`e):∃b,bs[i]?=`b/\b.e=e:=by unfold NG at h;rw[Hl]at h;let(b,h1,h2):=Hn.mp h;exact(b,h1,h2)
def t9 (a b:↑W):RO false false [.tl a,.tl b]=pr (Sq a b,λJ=>True/\True):=rfl
def xi (a b:↑W):RO true true [.tup a,.tup b]=pr (Sq a b,λJ=>True/\True):=rfl
def kt2 (a b:Int):ktW [.int a,.int b]=pr (.kt [.inl a,.inl b]):=by show gd (⇑([.int a,.int b]:↑W)<=sizeLine) (pr<|W.kt [.inl a,.inl b])=_;exact ag (show 2<=sizeLine by decide)
structure GK (ks:↑↑Key)(ws:↑W)(G:Int->Int->Int):Prop where
 len:⇑ks=⇑ws
 get:∀a b,(atK ks ws [.inl a,.inl b]).getD (.int 0)=.int (G a b)
def wK {cs:↑Int}{i:Nat}{w:Way}{c:Int}(h1:(Sn es)[i]?=`w)(h2:cs[i]?=`c):(zsL es cs)[i]?=some (R9 es w.1 ,w.1,w.2.2,c):=by unfold zsL;rw[JC,h1,h2]
def pN {cs:↑Int}{i:Nat}(e:(Sq ((Sn es).map Sm)<|cs.map W.int)[i]?=`x):∃w c,(Sn es)[i]?=`w/\cs[i]?=`c/\x=.tup [Sm w,.int c]:=by let(x,y,hx,hy,rfl):=i5 e;rw[Hl]at hx hy;let(w,hw,rfl):=Hn.mp hx;let(c,hc,rfl):=Hn.mp hy;exact(w,c,hw,hc,rfl)
def tX {α β:Type}(f:α->W)(g:β->W)(l:↑α)(m:↑β)(h:⇑l=⇑m):⇑(Sq (l.map f)<|m.map g)=⇑m:=by unfold Sq;rw[Im,Hb,Hb,h,Kj]
def wJ {cs:↑Int}(h:⇑(Sn es)=⇑cs):⇑(zsL es cs)=⇑cs:=by unfold zsL;rw[Im,h,Kj]
def jA {bs:↑B23}{cs:↑Int}(hp:ixW P (.int 1)=pr x)(hx:Lw h x (bs.map B23.w))(hl:⇑bs<=10)(hb:∀b∈bs ,⇑b.e.tos<=6)(hc:⇑(Sn<|NG bs)=⇑cs):
  Ok (eV [P,.tl<|cs.map W.int]) h λw h'=>∃j ks ws,w=.loc j/\Nd h h' j (.dit ks ws)/\GK ks ws (N5<|zsL (NG bs) cs):=by
 have e0:eV [P,.tl<|cs.map W.int]=bd (kK [some<|P,some<|.tl<|cs.map W.int,none,none,none,none,none]) NR:=rfl;rw[e0];unfold kK;have lc:⇑cs<=60:=by
  have h6:∀e∈NG bs,⇑e.tos<=6:=λe he=>by let(b,hb',rfl):=Hq.mp he;exact hb b hb'
  have l2:⇑(NG bs)=⇑bs:=by unfold NG;rw[Hb]
  have:=gN (NG bs) h6 ⇑(NG bs)<|Hc _;rw[Hz]at this;omega
 simp!;refine qw ?_;simp!;refine sP hp (hx.keep (Nf.mk0 (h:=h) (b:=.dit [] [])).nw.eq) hl hb λh1 N1=>?_;have D1:=(Nd.mk0 (h:=h) (b:=.dit [] [])).more N1;simp! only[aa,t9];refine cz (I:=λi ρ h'=>∃a b c d ks ws ,ρ=[some P,some<|.tl<|cs.map W.int,some<|.loc ⇑h,a,b,c,d]/\Nd h h' ⇑h (.dit ks ws)/\GK ks ws (N5<|(zsL (NG bs) cs).take i)/\⇑ks<=i) (_,_,_,_,[],[],rfl,D1,(rfl,λa b=>rfl),Hc _) (λJ J J J=>(trivial,trivial)) (λi y ρ h2 hy I=>?_) λρ h2 I=>?_
 .let(a,b,c,d,ks,ws,rfl,D,G,lk):=I;let(w,n,hw,hn,rfl):=pN hy;have hi:i<⇑cs:=(Hm.mp hn).1;let(e,he,w0,_):=pP<|HH hw;have hz:=wK hw hn;have ht:R9 (NG bs) w.1=e.tab:=by unfold R9;rw[he]
  rw[ht]at hz;let(b',hb',rfl):=zh he;let(wa,wn,wt):=w;refine([some P,some<|.tl<|cs.map W.int,some<|.loc ⇑h,some<|Sm (wa ,wn,wt),some<|.int n,c,d],rfl,?_);unfold Sm;have w0:0<=wa:=w0;have hb':bs[wa.toNat]?=`b':=hb';simp! only[aa,hp,ix0,ix2];refine (hx.keep D.nw.eq).ix (w:=b'.w) (bp w0<|by rw[Hl,hb'];rfl) ?_;simp! only[aa,yX,ix2,uH,yV];rw[aw hz];cases et:b'.e.tab with
  |true=>
   simp!;refine ah (_,rfl,_,_,_,_,ks,ws,rfl,D,(G.len,λa b=>?_),Jh lk);rw[G.get,fE,aZ ⇑_,Ip]
  |false=>
   simp! only[aa,mKt,kt2,O8];refine iq D.new ?_;simp!;refine bj (iz D.new rfl) ?_;rw[G.get wa wt];simp!;rcases ep:Qu ks ws [.inl wa,.inl wt] (.int<|N5 ((zsL (NG bs) cs).take i) wa wt+n) with⟨ks',ws'⟩;let(l1,l2,g):=kP G.len ep;refine yb D.new (HQ (show _<=60 by omega) ↥_) ep ?_;simp!;refine ah (_,rfl,_,_,_,_,ks',ws',rfl,D.put _,(l1,λa b=>?_),∅);rw[g,fE];by_cases q:wa=a/\wt=b
   rw[bf (by rw[q.1,q.2]),bf (rfl,q),q.1,q.2];rfl;rw[aZ (λz=>q (by injection z with z1 z2;exact Sum.inl.inj z1,by injection z with z1 z2;injection z2 with z3 z4;exact Sum.inl.inj z3)),aZ (λz=>q z.2),Ip];exact G.get a b
 let(a,b,c,d,ks,ws,rfl,D,G,lk):=I;rw[tX _ _ _ _ hc,<-wJ hc,Hz]at G;simp!;exact ah (_,ks,ws,rfl,D,G)
end
section
def uv (ts:↑Int){n:Nat}:∀x∈ts.map W.int,Pd (n+1) x:=λx hx=>by let(t,_,rfl):=Hq.mp hx;exact .int
def u9 {os:↑Int}{i:Nat}(e:(Sq (os.map W.int)<|os.tail.map W.int)[i]?=`x):∃a b,os[i]?=`a/\os.tail[i]?=`b/\x=.tup [.int a,.int b]:=by let(x,y,hx,hy,rfl):=i5 e;rw[Hl]at hx hy;let(w,hw,rfl):=Hn.mp hx;let(c,hc,rfl):=Hn.mp hy;exact(w,c,hw,hc,rfl)
def pO (os:↑Int):⇑(Sq (os.map W.int)<|os.tail.map W.int)=⇑(os.zipWith (λa b=>(a ,b)) os.tail):=by unfold Sq;rw[Im,Im,Hb,Hb]
end
section
noncomputable def aft:↑Int->Int->Option Int|x::y::r,a=>if x=a then `y else aft (y::r) a|_,_=>none
noncomputable def Qp (G:Int->Int->Int):↑Int->Int|x::y::r=>G x y+Qp G (y::r)|_=>0
theorem qg (F G:Int->Int->Int):∀l:↑Int,Qp (λa b=>F a b+G a b) l=Qp F l+Qp G l|[]=>rfl|[_]=>rfl|x::y::r=>by have:=qg F G (y::r);unfold Qp;omega
theorem nH:∀l:↑Int,Qp (λJ J=>0) l=0|[]=>rfl|[_]=>rfl|x::y::r=>by have:=nH (y::r);unfold Qp;omega
def sh {F G:Int->Int->Int}(h:∀a b ,F a b=G a b)(l:↑Int):Qp F l=Qp G l:=by rw[show F=G from funext λa=>funext λb=>h a b]
noncomputable def one (t:Bool)(p q c a b:Int):Int:=if t=false/\p=a/\q=b then c else 0
theorem qe {t:Bool}{p q c:Int}:∀l:↑Int,p ∉l->Qp (one t p q c) l=0|[],_=>rfl|[_],_=>rfl|x::y::r,h=>by have ih:=qe (t:=t) (q:=q) (c:=c) (y::r) λz=>h<|Ht _ z;unfold Qp;rw[ih];unfold one;rw[aZ<|λz=>h<|by rw[z.2.1];exact Hi];rfl
theorem qf {t:Bool}{p q c:Int}:∀l:↑Int,l.Nodup->Qp (one t p q c) l=if t=false/\aft l p=`q then c else 0
 |[],_=>by simp [Qp,aft]
 |[_],_=>by simp [Qp,aft]
 |x::y::r,h=>by
  let(h1,h2):=IC.mp h;unfold Qp aft;by_cases e:x=p;subst e;rw[qe (y::r) h1,Ip,bf rfl];unfold one;simp [eq_comm];rw[qf (y::r) h2,aZ e];unfold one;rw[aZ (λz=>e z.2.1.symm),Jl]
theorem nJ (h:l.Nodup):∀zs:↑Zw,Qp (N5 zs) l=(zs.map λz=>if z.1=false/\aft l z.2.1=some z.2.2.1 then z.2.2.2 else 0).sum|[]=>nH l|z::zs=>by rw[Hg,Il,<-nJ h zs,<-qf (c:=z.2.2.2) l h,<-qg];exact sh (λa b=>by unfold N5 one;rw[Hg,Il]) l
noncomputable def Qa (l:↑Int)(zs:↑Zw):Int:=(zs.map λz=>if z.1=true\/aft l z.2.1≠some z.2.2.1 then z.2.2.2 else 0).sum
theorem nM (l:↑Int):∀zs:↑Zw,Qa l zs+(zs.map λz=>if z.1=false/\aft l z.2.1=some z.2.2.1 then z.2.2.2 else 0).sum=(zs.map λz=>z.2.2.2).sum
 |[]=>rfl
 |z::zs=>by
  have ih:=nM l zs;unfold Qa at ih ⊢;rw[Hg,Hg,Hg,Il,Il,Il];by_cases c:z.1=false/\aft l z.2.1=some z.2.2.1;rw[bf c,aZ<|by rw[c.1,c.2];simp];omega
  .rw[aZ c,bf (by
    cases q:z.1 with
    |true=>exact .inl rfl
    |false=>exact .inr λz=>c (q,z))]
   omega
def uw (h:l.Nodup){cs:↑Int}(hc:⇑(Sn es)=⇑cs):cs.sum-Qp (N5<|zsL es cs) l=Qa l (zsL es cs):=by
 have h1:=nM l<|zsL es cs;rw[<-nJ h]at h1;have:(zsL es cs).map (λz=>z.2.2.2)=cs:=by
  unfold zsL;clear h1;generalize Sn es=ws at hc
  induction ws generalizing cs with
  |nil=>cases cs with|nil=>rfl|cons _ _=>cases hc
  |cons w ws ih=>cases cs with
   |nil=>cases hc
   |cons c cs=>
    rw[List.zipWith_cons_cons,Hg,ih<|Iv.inj hc]
 rw[this]at h1;omega
theorem ql (G:Int->Int->Int):∀l:↑Int,(Jg G l l.tail).sum=Qp G l|[]=>rfl|[_]=>rfl|x::y::r=>by have:=ql G (y::r);unfold Qp;rw[<-this];rfl
end
section
def FU:Mn.strOk "if"=true:=⋯
def FV:Mn.strOk "go"=true:=⋯
def ya:Mn.strOk "table"=true:=⋯
def AH:Mn.strOk "stop"=true:=⋯
def E17.Good.pd {m:Int}{e:E17}(g:e.Good m):Pd 10 e.w:=by
 cases e with|go t=>exact pdT ⇑_ (bq (.str FV)<|bq .int gW)|iff s a b x y=>exact pdT ⇑_ (bq (.str FU)<|bq (.str g.2.2.2.2)<|bq (g.2.2.1.up ↥_)<|bq (g.2.2.2.1.up ↥_)<|bq .int<|bq .int gW)|table e ts=>exact pdT ⇑_ (bq (.str ya)<|bq (g.2.2.up ↥_)<|bq (pdT (by rw[Hb];have:=g.1;omega)<|uv ts (n:=7)) gW)|stop=>exact pdT ⇑_ (bq (.str AH) gW)
structure BG (m:Int)(b:B23):Prop where
 g:b.e.Good m
 pd:Pd 12 b.w
def BG.mk' {m:Int}{nm:Str}(g:e.Good m)(hn:Mn.strOk nm=true)(hs:⇑sts<=8)(hp:∀x∈sts ,Pd 9 x):BG m (nm,sts,e):=
 (g,pdT ⇑_ (bq (.str hn)<|bq (.lst (HA hs ↥_) λx hx=>(hp x hx).up ↥_)<|bq (g.pd.up ↥_) gW))
theorem BG.six {m:Int}(g:BG m b):⇑b.e.tos<=6:=g.g.six
end
section
noncomputable def Nh:Nat->↑↑Int
 |0=>[[0]]
 |n+1=>Nh n++(Nh n).map (· ++[((n+1:Nat):Int)])
theorem fQ:∀n,⇑(Nh n)=2^n|0=>rfl|n+1=>by rw[Nh,Hk,Hb,fQ n,Nat.pow_succ];omega
theorem db:∀ {n:Nat}{s:↑Int},s∈Nh n->∃r,s=0::r/\r.Nodup/\⇑r<=n/\∀x∈r,1<=x/\x<=n
 |0,s,h=>by rw[Nh,HC]at h;exact([],h,JZ,Hc _,λx hx=>absurd hx HB)
 |n+1,s,h=>by
  rw[Nh]at h;rcases Ij.mp h with h|h
  let(r,e,nd,l,q):=db h;exact(r,e,nd,∅,λx hx=>by have:=q x hx;omega)
  .let(t,ht,rfl):=Hq.mp h;let(r,rfl,nd,l,q):=db ht;refine(r++[((n+1:Nat):Int)],rfl,?_,by rw[Hk];show ⇑r+1<=n+1;omega,λx hx=>?_);rw[Ji];refine(nd,⇑_,λa ha b hb=>?_);rw[HC.mp hb];have:=q a ha;omega
   .rcases Ij.mp hx with hx|hx
    have:=q x hx;omega;rw[HC.mp hx];omega
noncomputable def wo (r:↑Int)(p:Int):↑Int:=r.filter λx=>!decide (x=p)
def rC {p:Int}(h:p ∉r):wo r p=r:=by unfold wo;rw[Km];intro a ha;have:a≠p:=λz=>h<|z▸ha;simp [this]
def So {p x:Int}:x∈wo r p↔x∈r/\x≠p:=by unfold wo;rw[Jb];simp
def wP {p:Int}(h:r.Nodup):(wo r p).Nodup:=h.filter _
theorem i6:∀ {r:↑Int}{p:Int},r.Nodup->p∈r->List.Perm (p::wo r p) r
 |[],_,_,h=>absurd h HB
 |a::r,p,nd,h=>by
  let(n1,n2):=IC.mp nd;by_cases e:a=p
  .subst e;have:wo (a::r) a=r:=by have:=rC n1;unfold wo at this ⊢;rw[Jm];simpa using this
   rw[this]
  .have h2:p∈r:=by
    rcases Hd.mp h with h|h
    exact absurd h.symm e;exact h
   have:wo (a::r) p=a::wo r p:=by unfold wo;rw[Jm];simp [e]
   rw[this];exact (List.Perm.swap a p _).trans<|List.Perm.cons a<|i6 n2 h2
def jJ {p:Int}(nd:r.Nodup)(h:p∈r):⇑(wo r p)+1=⇑r:=by have:=(i6 nd h).length_eq;rw[Hf]at this;exact this
def rD (a b:↑Int)(p:Int):wo (a++b) p=wo a p++wo b p:=by unfold wo;rw[Kp]
theorem i4:∀ {n i:Nat}{r:↑Int}{p:Int},(Nh n)[i]?=some (0::r)->p∈r->∃j,j<i/\(Nh n)[j]?=some (0::wo r p)
 |0,i,r,p,h,hp=>by
  rw[Nh]at h;have:=HH h;rw[HC]at this;injection this with _ e
  rw[e]at hp;exact absurd hp HB
 |n+1,i,r,p,h,hp=>by
  rw[Nh]at h ⊢;by_cases z:i<⇑(Nh n);rw[HN z]at h;let(j,hj,e):=i4 h hp;exact(j,hj,by rw[HN ∅];exact e)
  .rw[Iq ∅,Hl]at h;let(s,hs,e):=Hn.mp h;let(r',rfl,nd,_,q):=db<|HH hs;have e:(0:Int)::(r'++[((n+1:Nat):Int)])=0::r:=e;injection e with _ e
   subst e;rcases Ij.mp hp with hp|hp
   .let(j,hj,e):=i4 hs hp;refine(⇑(Nh n)+j,∅,?_)
    rw[Iq ∅,KS,Hl,e,rD,rC (r:=[((n+1:Nat):Int)]) (p:=p) (by
     intro z;rw[HC]at z;have:=q p hp
     omega)]
    rfl
   .rw[HC]at hp;subst hp;have hn:((n+1:Nat):Int)∉r':=λz=>by have:=q _ z;omega
    refine(i-⇑(Nh n),by
     have:0<⇑(Nh n):=by rw[fQ];exact Nat.two_pow_pos n
     omega,?_)
    have hi:=(Hm.mp hs).1;rw[HN hi,hs,rD,rC hn];have:wo [((n+1:Nat):Int)] ((n+1:Nat):Int)=[]:=by unfold wo;simp
    rw[this,HL]
theorem mK:∀n,0::Sh n∈Nh n|0=>HC.mpr rfl|n+1=>by rw[Nh];refine HW _<|Hq.mpr (0::Sh n,mK n,?_);rw[ve,show (1:Int)+(n:Int)=((n+1:Nat):Int) by omega];rfl
noncomputable def bst (f:Option (Int×↑Int))(c:Int×↑Int):Option (Int×↑Int):=match f with|none=>`c|some b=>if b.1<c.1 then `c else `b
noncomputable def tl (G:Int->Int->Int):Nat->Int->↑Int->Int×↑Int
 |0,_,_=>(0 ,[])
 |n+1,last,rest=>((rest.map λp=>(G last p+(tl G n p<|wo rest p).1 ,p::(tl G n p<|wo rest p).2)).foldl bst none).getD (0 ,[])
noncomputable def tT (G:Int->Int->Int)(last:Int)(rest:↑Int):Int×↑Int:=tl G ⇑rest last rest
noncomputable def Nl (G:Int->Int->Int)(last:Int)(rest:↑Int)(p:Int):Int×↑Int:=(G last p+(tT G p<|wo rest p).1 ,p::(tT G p<|wo rest p).2)
def BZ (G:Int->Int->Int){last:Int}{rest:↑Int}(nd:rest.Nodup):tT G last rest=((rest.map<|Nl G last rest).foldl bst none).getD (0 ,[]):=by
 unfold tT;cases e:⇑rest with
 |zero=>
  have:=Jf e;subst this;rfl
 |succ n=>
  rw[tl];congr 2;refine Ih λp hp=>?_;have l:⇑(wo rest p)=n:=by have:=jJ nd hp;omega
  unfold Nl tT;rw[l]
noncomputable def tw (x:Int×↑Int):W:=.tup [.int x.1,.tup<|x.2.map W.int]
noncomputable def fW (x:Option (Int×↑Int)):W:=match x with|none=>.non|some x=>tw x
def Oc (l:↑Int):P6 iOf (l.map W.int)=`l:=by have:=cF (f:=iOf) (g:=W.int) (k:=λi=>i) (λa=>rfl) l;rw[this];simp
section
variable {β:Type}{h:↑Ob}{Q:β->↑Ob->Prop}{j:Nat}
def yh {ws:↑W}{p:Int}{k:W->M β}(e:h[j]?=some (.din false ks ws))(a:atK ks ws (p ,l)=`v)(q:Ok (k v) h Q):Ok (bd (Ox (.loc j)<|.tup [.int p,.tup<|l.map W.int]) k) h Q:=by
 refine bj (a:=v) (h':=h) ?_ q;have e1:NA (.loc j) h=some (false ,ks,ws):=by unfold NA;simp only[e]
 have e2:OG false (.tup [.int p,.tup<|l.map W.int])=some (p ,l):=by show (P6 iOf<|l.map W.int).map (λns=>(p ,ns))=_;rw[Oc];rfl
 unfold Ox;simp only[e1,e2,a]
def DH {ws ws':↑W}{p:Int}{k:Unit->M β}(e:h[j]?=some (.din false ks ws))(hz:⇑ks<sizeLine)(e2:Qu ks ws (p ,l) v=(ks' ,ws'))(r:Ok (k ()) (h.set j<|.din false ks' ws') Q):Ok (bd (jN (.loc j) (.tup [.int p,.tup<|l.map W.int]) v) k) h Q:=by
 refine bj (a:=()) (h':=h.set j<|.din false ks' ws') ?_ r;have e3:OG false (.tup [.int p,.tup<|l.map W.int])=some (p ,l):=by show (P6 iOf<|l.map W.int).map (λns=>(p ,ns))=_;rw[Oc];rfl
 unfold jN;simp only[e,e3,bf hz,e2]
def lN {b:Bool}{k:W->M β}(q:Ok (k<|.loc ⇑h) (h++[.din b [] []]) Q):Ok (bd (jX b ρ) k) h Q:=bj (a:=.loc ⇑h) (h':=h++[.din b [] []]) rfl q
end
def kS (r:↑Int)(p:Int)(hr:⇑r<=1000)(h:↑Ob):Ok (d4 [.tup<|r.map W.int,.int p]) h λw h'=>w=.tup ((wo r p).map W.int)/\h'=h:=by
 have e0:d4 [.tup<|r.map W.int,.int p]=bd (iA [some<|.tup<|r.map W.int,some<|.int p]) NR:=rfl;rw[e0];unfold iA;have gl:∀ {α:Type} (q:M α),gd (⇑(r.map W.int)<=sizeLine) q=q:=λq=>ag (by rw[Hb];exact sz ∅);simp! only[aa,gl];refine lP (I:=λi a h'=>h'=h/\a=(wo (r.take i) p).map W.int) (rfl,rfl) (λJ J J J=>trivial) (λi w a h' hw I=>?_) λa h' I=>?_
 .let(rfl,rfl):=I;rw[Hl]at hw;let(x,hx,rfl):=Hn.mp hw;refine(_,rfl,?_);simp! only[List.replicate,HK,HS,aa];rw[aw hx,rD];by_cases e:x=p
  .refine ah<|.inl (by simp [e],rfl,?_);have:wo [x] p=[]:=by unfold wo;simp [e]
   rw[this,HL]
  .refine ah<|.inr (by simp [e],ah (rfl,?_));have:wo [x] p=[x]:=by unfold wo;simp [e]
   rw[this,Hh];rfl
 let(rfl,rfl):=I;rw[Hb,Hz];simp! only[aa,jK];exact ah (rfl,rfl)
def sS (x:Int×↑Int):Os (tw x) .non=pr (.bl false):=rfl
def uL:Os .non .non=pr (.bl true):=rfl
def sQ (x:Int×↑Int):ixW (tw x) (.int 0)=pr (.int x.1):=ix0 ..
def o5 (x:Int×↑Int):ixW (tw x) (.int 1)=pr (.tup<|x.2.map W.int):=ix1 ..
theorem rK (G:Int->Int->Int):∀ (n:Nat) (last:Int) (rest:↑Int),(tl G n last rest).2.length<=n
 |0,_,_=>Hc _
 |n+1,last,rest=>by
  rw[tl];have:∀ (l:↑(Int×↑Int)) (f:Option (Int×↑Int)),(∀c∈l ,⇑c.2<=n+1)->(∀c ,f=`c->⇑c.2<=n+1)->((l.foldl bst f).getD (0 ,[])).2.length<=n+1:=by
   intro l
   induction l with
   |nil=>
    intro f _ hf;cases f with|none=>exact Hy _|some c=>exact hf c rfl
   |cons c l ih=>
    intro f hl hf;rw[IT];refine ih _ (λd hd=>hl d<|Ht _ hd) λd hd=>?_;unfold bst at hd;cases f with
    |none=>cases hd;exact hl _ Hi
    |some b=>
     dsimp only at hd;split at hd;cases hd;exact hl _ Hi;cases hd;exact hf _ rfl
  refine this _ _ (λc hc=>?_) λc hc=>by cases hc
  let(p,_,rfl):=Hq.mp hc;have:=rK G n p<|wo rest p;show (tl G n p<|wo rest p).2.length+1<=n+1;omega
def zY {jg jt:Nat}{G:Int->Int->Int}{ws:↑W}{last:Int}{rest:↑Int}(eg:h[jg]?=some (.dit gk gw))(GG:GK gk gw G)(et:h[jt]?=some (.din false ks ws))(nd:rest.Nodup)(hr:⇑rest<=50)
  (ha:∀p∈rest ,atK ks ws (p ,wo rest p)=some (tw<|tT G p<|wo rest p)):Ok (eW [.int last,.tup<|rest.map W.int,.loc jg,.loc jt]) h λw h'=>w=tw (tT G last rest)/\h'=h:=by
 have e0:eW [.int last,.tup<|rest.map W.int,.loc jg,.loc jt]=bd (eT [some<|.int last,some<|.tup<|rest.map W.int,some<|.loc jg,some<|.loc jt,none,none,none,none]) NR:=rfl;rw[e0];unfold eT;simp!;refine cz (I:=λi ρ h'=>∃a b c ,ρ=[some<|.int last,some<|.tup<|rest.map W.int,some<|.loc jg,some<|.loc jt,some<|fW<|((rest.take i).map<|Nl G last rest).foldl bst none,a,b,c]/\h'=h) (_,_,_,rfl,rfl) (λJ J J J=>trivial) (λi w ρ h1 hw I=>?_) λρ h1 I=>?_
 .let(a,b,c,rfl,rfl):=I;rw[Hl]at hw;let(p,hp,rfl):=Hn.mp hw;have pm:=HH hp;refine([some<|.int last,some<|.tup<|rest.map W.int,some<|.loc jg,some<|.loc jt,some<|fW<|((rest.take i).map<|Nl G last rest).foldl bst none,some<|.int p,b,c],rfl,?_);have ec:(((rest.take<|i+1).map<|Nl G last rest).foldl bst none)=bst (((rest.take i).map<|Nl G last rest).foldl bst none) (Nl G last rest p):=by rw[aw hp,Hh,JK];rfl
  rw[ec];generalize (((rest.take i).map<|Nl G last rest).foldl bst none)=F;simp!;refine aJ (kS rest p ∅ h1) λw h2 qq_=>?_;let(ew,e2):=qq_;subst ew e2;simp! only[aa,Sf];refine yh et (ha p pm) ?_;have lt:(tT G p<|wo rest p).2.length<=50:=by have:=rK G ⇑(wo rest p) p<|wo rest p;have l:=jJ nd pm;unfold tT;omega
  have hc:Nl G last rest p=(G last p+(tT G p<|wo rest p).1 ,p::(tT G p<|wo rest p).2):=rfl;generalize tT G p (wo rest p)=T at*;simp! only[aa,O8,Sf];refine iq eg ?_;simp! only[aa,Sf];refine bj (iz eg rfl) ?_;rw[GG.get last p];have ea:M8 (.tup [.int p]) (.tup<|T.2.map W.int)=pr (.tup<|(p::T.2).map W.int):=addT _ [] _ (by rw[Hb];show 0+T.2.length<=100;omega);cases F with
  |none=>
   simp! only[aa,sQ,o5,uL,fW,Sf,ea];exact ah (_,rfl,_,_,_,by rw[hc];rfl,rfl)
  |some f=>
   by_cases q:f.1<G last p+T.1;simp! only[aa,sQ,o5,sS,fW,bN q,Sf,ea];exact ah (_,rfl,_,_,_,by rw[hc];unfold bst;simp only[bf q];rfl,rfl);simp! only[aa,sQ,o5,sS,fW,bg q,Sf,ea];exact ah (_,rfl,_,_,_,by rw[hc];unfold bst;simp only[aZ q];rfl,rfl)
 .let(a,b,c,rfl,rfl):=I;rw[Hb,Hz];rw[BZ G nd];cases ((rest.map<|Nl G last rest).foldl bst none) with
  |none=>
   simp! only[aa,uL,fW,Sf];exact ah (rfl,rfl)
  |some f=>
   simp! only[aa,sS,fW,Sf];exact ah (rfl,rfl)
noncomputable def Rm (s:↑Int):W:=.tup<|s.map W.int
def ud {N:Int}{m:Nat}(hN:N=(m:Int))(m1:1<=m)(m2:m<=10)(h:↑Ob):Ok (dy [.int N]) h λw h'=>w=.tl ((Nh<|m-1).map Rm)/\h'=h:=by
 have e0:dy [.int N]=bd (dZ [some<|.int N,none,none]) NR:=rfl;rw[e0];unfold dZ;simp! only[aa,Sf,lA (show (-(2^62):Int)<=1 by decide) (show (1:Int)<2^62 by decide) (show (-(2^62):Int)<=N by omega)<|show N<2^62 by omega];have eN:(N-1).toNat=m-1:=∅;refine cz (I:=λi ρ h'=>∃a ,ρ=[some<|.int N,some<|.tl<|(Nh i).map Rm,a]/\h'=h) (_,rfl,rfl) (λJ J J J=>trivial) (λi w ρ h1 hw I=>?_) λρ h1 I=>?_
 .let(a,rfl,rfl):=I;let(rfl,hi):=cV _ _ _ _ hw;rw[eN]at hi;have bl:⇑(Nh i)<=512:=by rw[fQ];exact JL ↥_ (show i<=9 by omega)
  refine(_,rfl,?_);have gl:∀ {α:Type} (q:M α),gd (⇑((Nh i).map Rm)<=sizeLine) q=q:=λq=>ag (by rw[Hb];exact sz ∅);simp! only[aa,gl];refine dH (I:=λk a h'=>h'=h1/\a=(((Nh i).take k).map (· ++[((i+1:Nat):Int)])).map Rm) (rfl,rfl) eZ (λJ J J J=>trivial) (λk w a h' hw I=>?_) λa h' I=>?_
  .let(rfl,rfl):=I;rw[Hl]at hw;let(s,hs,rfl):=Hn.mp hw;let(r,rfl,_,lr,_):=db<|HH hs;refine(_,rfl,?_);have ea:M8 (Rm (0::r)) (.tup [.int<|1+(i:Int)])=pr (Rm (0::r++[((i+1:Nat):Int)])):=by show M8 (.tup (.int 0::r.map W.int)) (.tup [.int<|1+(i:Int)])=_;rw[addT _ _ _<|by rw[Hb];show ⇑r+1<=100;omega];unfold Rm;rw[Hh,Hg];have:(1:Int)+(i:Int)=((i+1:Nat):Int):=∅;rw[this];rfl
   simp! only[List.replicate,HK,HS,aa,Sf];rw[ea];refine ah (rfl,?_);rw[aw hs,Hh,Hh];rfl
  let(rfl,rfl):=I;rw[Hb,Hz];simp! only[aa,jI _ _ (show ⇑((Nh i).map Rm)+⇑(((Nh i).map (· ++[((i+1:Nat):Int)])).map Rm)<=sizeLine by rw[Hb,Hb,Hb];exact sz ∅)];refine ah (_,rfl,some<|.int<|1+(i:Int),?_,rfl);rw[Nh,Hh]
 let(a,rfl,rfl):=I;rw[cO,eN];simp!;exact ah (rfl,rfl)
def lQ (x:Int)(r:↑Int):cH (.int x) (.tup<|r.map W.int)=pr (.bl<|!decide (x∈r)):=by
 funext h;unfold cH;have e:inB (.int x) (.tup<|r.map W.int) h=some (decide<|x∈r):=by
  show (match vOf (.int x) ,Sl (r.map W.int) with
   |some v,some vs=>some (inV v vs)
   |_,_=>none)=_
  rw[d5 (k:=V.int)<|λa=>rfl];show some (inV (.int x)<|r.map V.int)=_;congr 1;unfold inV;rw[HZ,Iu,decide_eq_true_eq];constructor
  .rintro⟨v,hv,q⟩
   let(y,hy,rfl):=Hq.mp hv;have:y=x:=by simpa [eVs,eVi] using q
   subst this;exact hy
  intro q;exact(.int x,Hq.mpr (x,q,rfl),by simp [eVs,eVi])
 rw[e];rfl
structure TK (G:Int->Int->Int)(m i l:Nat)(ks:↑PKy)(ws:↑W):Prop where
 len:⇑ks=⇑ws
 sz:⇑ks<=i*10+l
 get:∀j r (x:Int),(Nh<|m-1)[j]?=some (0::r)->0<=x->x ∉r->(j<i/\x<m\/j=i/\x<l)->atK ks ws (x ,r)=some (tw<|tT G x r)
def BT {bs:↑B23}{cs:↑Int}{m:Nat}(hp:ixW P (.int 1)=pr X)(hx:Lw h X (bs.map B23.w))(hm:⇑bs=m)(m1:1<=m)(m2:m<=10)(hb:∀b∈bs ,⇑b.e.tos<=6)(hc:⇑(Sn<|NG bs)=⇑cs):
  Ok (mj [P,.tl<|cs.map W.int]) h λw h'=>w=.tup ((0::(tT (N5<|zsL (NG bs) cs) 0<|Sh<|m-1).2).map W.int)/\Nw h h':=by
 have e0:mj [P,.tl<|cs.map W.int]=bd (pq [some P,some<|.tl<|cs.map W.int,none,none,none,none,none,none]) NR:=rfl;rw[e0];unfold pq;obtain⟨N,hN⟩:∃N:Int,N=(m:Int):=(_,rfl)
 simp! only[aa,hp];refine Lw.len_eq hx (N:=N) (by rw[Hb,hm];exact hN) ?_;simp!;refine aJ (jA hp hx ∅ hb hc) λw h1 qq_=>?_;let(jg,gk,gw,ew,D,GG):=qq_;subst ew;generalize N5 (zsL (NG bs) cs)=G at*;simp!;refine lN ?_;simp!;refine aJ (ud hN m1 m2 _) λw h2 qq_=>?_;let(ew,e2):=qq_;subst ew e2;have jgl:jg<⇑h1:=dj D.new;have eNn:N.toNat=m:=∅;have sl1:∀r:↑Int,slW (Rm (0::r)) (some 1) none=pr (.tup<|r.map W.int):=λr=>RB (os:=0::r) ⇑_;simp! only[aa,cW];refine cz (I:=λi ρ h'=>∃a b c ks ws ,ρ=[some P,some<|.tl<|cs.map W.int,some<|.int N,some<|.loc jg,some<|.loc ⇑h1,a,b,c]/\Nf h1 h' (.din false ks ws)/\TK G m i 0 ks ws) (_,_,_,[],[],rfl,Nf.mk0,(rfl,Hy _,λj r x J J J q=>∅)) (λJ J J J=>trivial) (λi w ρ h2 hw I=>?_) λρ h2 I=>?_
 .let(a,b,c,ks,ws,rfl,N2,T):=I;rw[Hl]at hw;let(s,hs,rfl):=Hn.mp hw;let(r,rfl,nd,lr,qr):=db<|HH hs;have hi:i<512:=by have:=(Hm.mp hs).1;rw[fQ]at this;exact HE this (JL ↥_ (show m-1<=9 by omega))
  refine(_,rfl,?_);simp! only[aa,sl1,jf (show (-(2^62):Int)<=N by omega)<|show N<2^62 by omega];refine oV (I:=λl ρ h'=>∃c ks ws ,ρ=[some P,some<|.tl<|cs.map W.int,some<|.int N,some<|.loc jg,some<|.loc ⇑h1,some<|Rm (0::r),some<|.tup<|r.map W.int,c]/\Nf h1 h' (.din false ks ws)/\TK G m i l ks ws) (_,ks,ws,rfl,N2,T) (λJ J J J=>trivial) (λl w ρ h3 hw I=>?_) λρ h3 I=>?_
  .let(c,ks,ws,rfl,N3,T3):=I;let(rfl,hl):=cV _ _ _ _ hw;rw[eNn]at hl;refine(_,rfl,?_);rw[Jl];simp! only[aa,lQ];by_cases q:(l:Int)∈r
   .simp! only[aa,bN q];refine ah (_,rfl,_,ks,ws,rfl,N3,T3.len,Jh T3.sz,λj r' x e x0 xn z=>?_);rcases z with z|⟨rfl,z⟩
    exact T3.get j r' x e x0 xn<|.inl z
    .refine T3.get j r' x e x0 xn<|.inr (rfl,?_);rw[hs]at e;have:r'=r:=by injection e with e;injection e with _ e;exact e.symm
     subst this;have:x≠l:=λy=>xn<|y▸q;omega
   .simp! only[aa,bg q];have ha:∀p∈r,atK ks ws (p ,wo r p)=some (tw<|tT G p<|wo r p):=λp hp=>by let(j,hj,ej):=i4 hs hp;have:=qr p hp;exact T3.get j (wo r p) p ej ∅ (λz=>(So.mp z).2 rfl) (.inl (hj,∅))
    refine aJ (zY (jg:=jg) (jt:=⇑h1) (last:=(l:Int)) (N3.get D.new) GG N3.new nd ∅ ha) λw h4 qq_=>?_;let(ew,e4):=qq_;subst ew e4;simp! only[aa,Sf];rcases ep:Qu ks ws ((l:Int) ,r) (tw<|tT G l r) with⟨ks',ws'⟩;let(l1,l2,g):=kP T3.len ep;have kz:=T3.sz;refine DH N3.new (HQ (show _<=6000 by omega) ↥_) ep ?_;simp!;refine ah (_,rfl,_,ks',ws',rfl,N3.put _,l1,∅,λj r' x e x0 xn z=>?_);rw[g];by_cases y:((l:Int) ,r)=(x ,r')
    .rw[bf y];injection y with y1 y2
     rw[y1,y2]
    .rw[aZ y];rcases z with z|⟨rfl,z⟩
     exact T3.get j r' x e x0 xn<|.inl z
     .refine T3.get j r' x e x0 xn<|.inr (rfl,?_);rw[hs]at e;have:r'=r:=by injection e with e;injection e with _ e;exact e.symm
      subst this;have:x≠l:=λz=>y (by rw[z]);omega
  .let(c,ks,ws,rfl,N3,T3):=I;rw[cO,eNn]at T3;refine(_,rfl,_,_,_,ks,ws,rfl,N3,T3.len,by have:=T3.sz;omega,λj r' x e x0 xn z=>?_);have:j<i+1/\x<m:=by
    rcases z with z|⟨_,z⟩
    exact z;omega
   refine T3.get j r' x e x0 xn ?_;omega
 .let(a,b,c,ks,ws,rfl,N2,T):=I;have etr:trW [.int 1,.int N]=pr (.tup<|(Sh<|m-1).map W.int):=by show gd ((-(2^62)<=(1:Int)/\(1:Int)<2^62/\ -(2^62)<=N/\N<2^62)/\(N-1).toNat<=sizeLine) (pr<|W.tup<|Oi 1 (N-1).toNat)=_;rw[ag ((↥_,↥_,∅,∅),sz ∅),show (N-1).toNat=m-1 by omega,l7]
  simp! only[aa,Sf,etr];let(i,hi):=Kg<|mK<|m-1;have il:=(Hm.mp hi).1;refine yh N2.new (T.get i (Sh<|m-1) 0 hi (Ix _) (λz=>by have:=Si.mp z;omega)<|.inl (by rw[Hb];exact il,∅)) ?_;have lt:(tT G 0<|Sh<|m-1).2.length<=50:=by have:=rK G ⇑(Sh<|m-1) 0<|Sh<|m-1;rw[i9]at this;unfold tT;rw[i9];omega
  have ea:M8 (.tup [.int 0]) (.tup<|(tT G 0<|Sh<|m-1).2.map W.int)=pr (.tup<|(0::(tT G 0<|Sh<|m-1).2).map W.int):=addT _ [] _ (by rw[Hb];show 0+_<=100;omega);simp! only[aa,o5,ea];exact ah (rfl,D.nw.trans N2.nw)
end
section
section
variable {α β:Type}
noncomputable def fm (f:α->Int)(a:Option α)(c:α):Option α:=match a with|none=>`c|some b=>if f b<f c then `c else `b
noncomputable def FM (f:α->Int)(a:Option α)(l:↑α):Option α:=l.foldl (fm f) a
def zT (f:α->Int)(a:Option α)(l m:↑α):FM f a (l++m)=FM f (FM f a l) m:=JK ..
noncomputable def cb (f:α->Int)(a b:Option α):Option α:=match b with|none=>a|some c=>fm f a c
theorem tV (f:α->Int)(a:Option α):∀l:↑α,FM f a l=cb f a (FM f none l)
 |[]=>rfl
 |c::l=>by
  show FM f (fm f a c) l=cb f a (FM f `c l);rw[tV f (fm f a c) l,tV f `c l];cases FM f none l with
  |none=>rfl
  |some d=>
   cases a with
   |none=>
    show fm f `c d=cb f none (fm f `c d);unfold fm;dsimp only;split<;>rfl
   |some b=>
    show fm f (fm f `b c) d=cb f `b (fm f `c d);unfold fm;dsimp only;by_cases h1:f b<f c
    .rw[bf h1];by_cases h2:f c<f d;rw[bf h2];dsimp only;rw[bf h2];show _=fm f `b d;unfold fm;dsimp only;rw[bf ∅];rw[aZ h2];dsimp only;rw[aZ h2];show _=fm f `b c;unfold fm;dsimp only;rw[bf h1]
    .rw[aZ h1];by_cases h2:f c<f d;rw[bf h2];rfl;rw[aZ h2];dsimp only;show _=fm f `b c;unfold fm;dsimp only;rw[aZ h1,aZ ∅]
theorem tU (f:β->Int)(g:α->β)(a:Option α):∀l:↑α,FM f (a.map g) (l.map g)=(FM (λx=>f<|g x) a l).map g
 |[]=>rfl
 |c::l=>by
  show FM f (fm f (a.map g)<|g c) (l.map g)=(FM _ (fm _ a c) l).map g;rw[<-tU f g (fm _ a c) l];congr 1;cases a with
  |none=>rfl
  |some b=>
   show (if f (g b)<f (g c) then some (g c) else some (g b))=(if f (g b)<f (g c) then `c else `b).map g;split<;>rfl
theorem rB {f g:α->Int}(d:Int)(h:∀x ,f x=d+g x)(a:Option α):∀l:↑α,FM f a l=FM g a l
 |[]=>rfl
 |c::l=>by
  show FM f (fm f a c) l=FM g (fm g a c) l;have:fm f a c=fm g a c:=by
   cases a with
   |none=>rfl
   |some b=>
    show (if f b<f c then `c else `b)=if g b<g c then `c else `b
    rw[h b,h c];by_cases q:g b<g c;rw[bf q,bf ∅];rw[aZ q,aZ ∅]
  rw[this];exact rB d h _ l
theorem u8 (f:β->Int)(g:α->↑β)(k:α->β):∀ (l:↑α) (a:Option β),(∀x∈l ,FM f none (g x)=some (k x))->FM f a (l.flatMap g)=FM f a (l.map k)|[],_,_=>rfl|x::l,a,h=>by rw[IA,zT,tV f a<|g x,h x Hi,Hg];exact u8 f g k l _ λy hy=>h y<|Ht _ hy
theorem tR (f:α->Int):∀ (l:↑α) (a:Option α) (x:α),FM f a l=`x->(∀y ,(a=`y\/y∈l)->f y<=f x)/\(a=`x\/x∈l)
 |[],a,x,h=>by have h:a=`x:=h;subst h;exact(λy hy=>by rcases hy with hy|hy;cases hy;exact Ix _;exact absurd hy HB,.inl rfl)
 |c::l,a,x,h=>by
  have h:FM f (fm f a c) l=`x:=h;let(h1,h2):=tR f l _ x h;have k:∃d,fm f a c=`d/\f c<=f d/\(∀b ,a=`b->f b<=f d)/\(d=c\/a=`d):=by
   cases a with
   |none=>exact(c,rfl,Ix _,(λb hb=>by cases hb),.inl rfl)
   |some b=>
    show∃d,(if f b<f c then `c else `b)=`d/\_;by_cases q:f b<f c;exact(c,bf q,Ix _,(λb' hb=>by cases hb;omega),.inl rfl);exact(b,aZ q,∅,(λb' hb=>by cases hb;exact Ix _),.inr rfl)
  let(d,e,kc,ka,kd):=k;have dx:=h1 d<|.inl e;refine(λy hy=>?_,?_)
  .rcases hy with hy|hy
   have:=ka y hy;omega
   .rcases Hd.mp hy with rfl|hy
    omega;exact h1 y<|.inr hy
  .rcases h2 with h2|h2
   .rw[e]at h2;cases h2;rcases kd with rfl|kd
    exact .inr Hi;exact .inl kd
   exact .inr<|Ht _ h2
end
noncomputable def prm:Nat->↑Int->↑↑Int
 |0,_=>[[]]
 |n+1,rest=>rest.flatMap λp=>(prm n<|wo rest p).map (p:: ·)
theorem xF:∀ {n:Nat}{rest t:↑Int},rest.Nodup->⇑rest=n->t∈prm n rest->t.Perm rest|0,rest,t,_,hl,h=>by rw[Jf hl];rw[prm,HC]at h;rw[h]|n+1,rest,t,nd,hl,h=>by rw[prm]at h;let(p,hp,h):=IZ.mp h;let(s,hs,rfl):=Hq.mp h;exact ((xF (wP nd) (by have:=jJ nd hp;omega) hs).cons p).trans<|i6 nd hp
theorem ur:∀ {n:Nat}{rest t:↑Int},rest.Nodup->⇑rest=n->t.Perm rest->t∈prm n rest
 |0,rest,t,_,hl,h=>by rw[Jf hl]at h;rw[h.eq_nil,prm];exact HC.mpr rfl
 |n+1,rest,t,nd,hl,h=>by
  cases t with
  |nil=>have:=h.length_eq;rw[hl]at this;cases this
  |cons p t=>
   have hp:p∈rest:=h.subset Hi;rw[prm];refine IZ.mpr (p,hp,Hq.mpr (t,ur (wP nd) (by have:=jJ nd hp;omega) ?_,rfl));exact (h.trans (i6 nd hp).symm).cons_inv
theorem zS (f:↑Int->Int):∀ (l:↑(Int×↑Int)) (a:Option (Int×↑Int)),(∀c∈l ,f c.2=c.1)->(∀c ,a=`c->f c.2=c.1)->(l.foldl bst a).map Prod.snd=FM f (a.map Prod.snd) (l.map Prod.snd)/\∀c,l.foldl bst a=`c->f c.2=c.1
 |[],a,_,ha=>(rfl,ha)
 |c::l,a,h,ha=>by
  have e:(bst a c).map Prod.snd=fm f (a.map Prod.snd) c.2:=by
   cases a with
   |none=>rfl
   |some b=>
    show (if b.1<c.1 then `c else `b).map Prod.snd=if f b.2<f c.2 then some c.2 else some b.2
    rw[ha b rfl,h c Hi];split<;>rfl
  have k:=zS f l (bst a c) (λd hd=>h d<|Ht _ hd) λd hd=>by
   cases a with
   |none=>cases hd;exact h c Hi
   |some b=>
    have hd:(if b.1<c.1 then `c else `b)=`d:=hd;split at hd;cases hd;exact h c Hi;cases hd;exact ha _ rfl
  refine(?_,k.2);show (l.foldl bst<|bst a c).map Prod.snd=FM f (fm f (a.map Prod.snd) c.2) (l.map Prod.snd);rw[<-e];exact k.1
def vA (G:Int->Int->Int)(a b:Int)(l:↑Int):Qp G (a::b::l)=G a b+Qp G (b::l):=rfl
theorem rn {c:Int×↑Int}:∀ (l:↑(Int×↑Int)) (a:Option (Int×↑Int)),(a≠none\/l≠ [])->∃d,l.foldl bst a=`d
 |[],a,h=>by
  cases a with
  |none=>rcases h with h|h<;>exact absurd rfl h
  |some d=>exact(d,rfl)
 |c'::l,a,h=>by
  rw[IT];refine rn (c:=c) l _<|.inl ?_;cases a with
  |none=>exact λz=>by cases z
  |some b=>
   show (if b.1<c'.1 then `c' else `b)≠none;split<;>simp
theorem kU (G:Int->Int->Int):∀ (n:Nat) (last:Int) (rest:↑Int),rest.Nodup->⇑rest=n->
  FM (λt=>Qp G (last::t)) none (prm n rest)=some (tT G last rest).2/\Qp G (last::(tT G last rest).2)=(tT G last rest).1
 |0,last,rest,nd,hl=>by have:=Jf hl;subst this;exact(rfl,rfl)
 |n+1,last,rest,nd,hl=>by
  have ih:=λp (hp:p∈rest)=>kU G n p (wo rest p) (wP nd) (by have:=jJ nd hp;omega);have hc:∀c∈rest.map (Nl G last rest),Qp G (last::c.2)=c.1:=λc hc=>by let(p,hp,rfl):=Hq.mp hc;show Qp G (last::p::(tT G p<|wo rest p).2)=G last p+(tT G p<|wo rest p).1;rw[vA,(ih p hp).2]
  let(k1,k2):=zS (λt=>Qp G (last::t)) (rest.map<|Nl G last rest) none hc (λc z=>by cases z)
  let(d,hd):=rn (c:=(0 ,[])) (rest.map<|Nl G last rest) none (.inr λz=>by
   have:=congrArg List.length z;rw[Hb,hl]at this
   cases this)
  have et:tT G last rest=d:=by rw[BZ G nd,hd];rfl
  refine(?_,by rw[et];exact k2 d hd);rw[et,prm,u8 (k:=λp=>p::(tT G p<|wo rest p).2)];rw[hd]at k1;have k1:some d.2=FM (λt=>Qp G (last::t)) none ((rest.map<|Nl G last rest).map Prod.snd):=k1;rw[k1,HG];rfl;intro p hp;have:=tU (λt=>Qp G (last::t)) (p:: ·) none<|prm n<|wo rest p;rw[show (none:Option ↑Int).map (p:: ·)=none from rfl]at this;rw[this,rB (f:=λx=>Qp G (last::p::x)) (G last p) (g:=λt=>Qp G (p::t)) (λx=>rfl),(ih p hp).1];rfl
def CA (G:Int->Int->Int){last:Int}{rest t:↑Int}(nd:rest.Nodup)(p:t.Perm rest):Qp G (last::t)<=Qp G (last::(tT G last rest).2):=by let(h1,_):=kU G ⇑rest last rest nd rfl;exact (tR _ _ _ _ h1).1 t<|.inr<|ur nd rfl p
end
section
def ig (ns:↑Int):RW [.tl<|ns.map W.int]=pr (.int ns.sum):=by
 show (match P6 iOf (ns.map W.int) with
  |some ns=>(pr (W.int ns.sum):M W)
  |none=>no)=_
 rw[show P6 iOf (ns.map W.int)=`ns from by
  have:=cF (f:=iOf) (g:=W.int) (k:=λi=>i) (λa=>rfl) ns
  rw[this];simp]
def BM {bs:↑B23}{cs os:↑Int}(hp:ixW P (.int 1)=pr x)(hx:Lw h x (bs.map B23.w))(hl:⇑bs<=10)(hb:∀b∈bs ,⇑b.e.tos<=6)(hc:⇑(Sn<|NG bs)=⇑cs)(o1:1<=⇑os)(o2:⇑os<=100)(nd:os.Nodup):
  Ok (mi [P,.tup<|os.map W.int,.tl<|cs.map W.int]) h λw h'=>w=.int (Qa os<|zsL (NG bs) cs)/\Nw h h':=by
 have e0:mi [P,.tup<|os.map W.int,.tl<|cs.map W.int]=bd (pj [some<|P,some<|.tup<|os.map W.int,some<|.tl<|cs.map W.int,none]) NR:=rfl;rw[e0];unfold pj;simp!;refine aJ (jA hp hx hl hb hc) λw h1 qq_=>?_;let(j,ks,ws,ew,D,G):=qq_;subst ew
 have gl:∀ {α:Type} (q:M α),gd (⇑(Sq (os.map W.int)<|os.tail.map W.int)<=sizeLine) q=q:=λq=>ag (by rw[pO,Im];exact sz ∅)
 simp! only[aa,ig,RB o1,xi,gl];refine dH (I:=λi a h'=>h'=h1/\a=((os.zipWith (N5<|zsL (NG bs) cs) os.tail).take i).map W.int) (rfl,rfl) eZ (λJ J J J=>(trivial,trivial)) (λi w a h' hw I=>?_) λa h' I=>?_;let(rfl,rfl):=I;let(a,b,ha,hb,rfl):=u9 hw;refine([some<|.tup [.int a,.int b],none,some<|P,some<|.tup<|os.map W.int,some<|.tl<|cs.map W.int,some<|.loc j],rfl,?_);simp! only[aa,O8];refine iq D.new ?_;simp!;refine Cc (iz D.new rfl) (rfl,?_);rw[G.get a b,aw (x:=N5 (zsL (NG bs) cs) a b) (by rw[JC,ha,hb]),Hh];rfl;let(rfl,rfl):=I;rw[pO,Im,<-Im (f:=N5<|zsL (NG bs) cs),Hz];simp! only[aa,ig];exact ah (by rw[ql,uw nd hc],D.nw)
end
section
noncomputable def ia (m:Nat):↑Int:=(List.range m).map λ(k:Nat)=>(k:Int)
noncomputable def P7 (m:Nat)(one:↑Int):↑Int:=(ia m).filter λx=>!decide (x∈one)
noncomputable def NO (m:Nat)(one:↑Int):↑↑Int:=(P7 m one).map λx=>one++[x]
noncomputable def itr (m:Nat):Nat->↑↑Int->↑↑Int|0,l=>l|n+1,l=>itr m n<|l.flatMap<|NO m
theorem lZ (m:Nat):∀ (n:Nat) (l:↑↑Int),itr m n l=l.flatMap λo=>itr m n [o]
 |0,l=>by
  show l=l.flatMap λo=>[o]
  induction l with|nil=>rfl|cons a l ih=>rw[IA,<-ih];rfl
 |n+1,l=>by show itr m n (l.flatMap<|NO m)=l.flatMap λo=>itr m n<|[o].flatMap<|NO m;rw[lZ m n<|l.flatMap<|NO m,List.flatMap_assoc];congr 1;funext o;rw[lZ m n<|[o].flatMap<|NO m];simp
theorem jv (m:Nat):∀ (n:Nat) (l:↑↑Int),itr m (n+1) l=(itr m n l).flatMap (NO m)|0,l=>rfl|n+1,l=>by show itr m (n+1) (l.flatMap<|NO m)=(itr m n<|l.flatMap<|NO m).flatMap (NO m);exact jv m n _
def qm (m:Nat)(one:↑Int)(p:Int):P7 m (one++[p])=wo (P7 m one) p:=by
 unfold P7 wo;rw[List.filter_filter];refine List.filter_congr λx J=>?_;rw[HZ];simp;constructor;intro h;exact(h.2,h.1);intro h;exact(h.2,h.1)
def y9 (m:Nat):(ia m).Nodup:=by unfold ia;show J1 (· ≠ ·) _;rw[List.pairwise_map];exact List.nodup_range.imp λh=>∅
theorem uJ (m:Nat):∀ (n:Nat) (one:↑Int),⇑(P7 m one)=n->itr m n [one]=(prm n<|P7 m one).map (one++ ·)
 |0,one,_=>by show [one]=[[]].map (one++ ·);simp
 |n+1,one,h=>by
  show itr m n ([one].flatMap<|NO m)=_;rw[lZ,show [one].flatMap (NO m)=NO m one by simp,prm,List.map_flatMap];unfold NO;rw[List.flatMap_map];have nd:(P7 m one).Nodup:=(y9 m).filter _;have:∀l:↑Int,(∀p∈l ,p∈P7 m one)->(l.flatMap λp=>itr m n [one++[p]])=l.flatMap λp=>((prm n<|wo (P7 m one) p).map (p:: ·)).map (one++ ·):=by
   intro l
   induction l with
   |nil=>intro _;rfl
   |cons p l ih=>
    intro hp;have pm:=hp p Hi;rw[IA,IA,ih λq hq=>hp q<|Ht _ hq,uJ m n (one++[p]) (by rw[qm];have:=jJ nd pm;omega),qm,HG];congr 1;refine Ih λt J=>?_;show one++[p]++t=one++(p::t);simp
  exact this _ λp hp=>hp
def sy {m:Nat}(h:1<=m):P7 m [0]=Sh (m-1):=by
 obtain⟨n,rfl⟩:∃n,m=n+1:=(m-1,∅)
 unfold P7 ia Sh;rw[Kq,Hg,Jm];simp;rw[show (List.map ((λ(k:Nat)=>(k:Int))∘Iv)<|List.range n)=List.map (λ(r:Nat)=>1+(r:Int)) (List.range n) from Ih λx J=>by show ((x+1:Nat):Int)=_;omega];rw[Km];intro a ha;let(r,_,rfl):=Hq.mp ha;simp;omega
theorem iy (m:Nat):∀ (n:Nat) (s:↑Int),s∈itr m n [[0]]->∃r,s=0::r/\⇑r=n
 |0,s,h=>([],HC.mp h,rfl)
 |n+1,s,h=>by rw[jv]at h;let(t,ht,h):=IZ.mp h;let(x,_,rfl):=Hq.mp h;let(r,rfl,l):=iy m n t ht;exact(r++[x],rfl,by rw[Hk,l];rfl)
theorem pw {α β:Type}{c:Nat}{f:α->↑β}:∀l:↑α,(∀x∈l ,⇑(f x)<=c)->⇑(l.flatMap f)<=⇑l*c|[],_=>Hy _|x::l,h=>by have:=pw l λy hy=>h y<|Ht _ hy;have hx:=h x Hi;rw[IA,Hk,Hf,Nat.add_mul,Nat.one_mul];omega
def ml (m:Nat)(one:↑Int):⇑(NO m one)<=m:=by unfold NO P7;rw[Hb];refine HA (List.length_filter_le _ _) ?_;unfold ia;rw[Hb,IN];exact Hc _
theorem uK {m:Nat}(hm:m<=6):∀n,⇑(itr m n [[0]])<=6^n|0=>Hc _|n+1=>by rw[jv,Nat.pow_succ];refine HA (pw (c:=6) _ λx J=>HA (ml m x) hm)<|Nat.mul_le_mul_right _<|uK hm n
end
section
section
variable {β:Type}{h:↑Ob}{Q:β->↑Ob->Prop}{j:Nat}
def lX (p:Int)(l:↑Int):OG true (.tup [.tup<|l.map W.int,.int p])=some (p ,l):=by show (P6 iOf<|l.map W.int).map (λns=>(p ,ns))=_;rw[Oc];rfl
def yg {ws:↑W}{p:Int}{k:W->M β}(e:NA x h=some (true ,ks,ws))(a:atK ks ws (p ,l)=`v)(q:Ok (k v) h Q):Ok (bd (Ox x<|.tup [.tup<|l.map W.int,.int p]) k) h Q:=by refine bj (a:=v) (h':=h) ?_ q;unfold Ox;simp only[e,lX,a]
def yc {ws ws':↑W}{p:Int}{k:Unit->M β}(e:h[j]?=some (.din true ks ws))(hz:⇑ks<sizeLine)(e2:Qu ks ws (p ,l) v=(ks' ,ws'))(r:Ok (k ()) (h.set j<|.din true ks' ws') Q):Ok (bd (jN (.loc j) (.tup [.tup<|l.map W.int,.int p]) v) k) h Q:=by refine bj (a:=()) (h':=h.set j<|.din true ks' ws') ?_ r;unfold jN;simp only[e,lX,bf hz,e2]
def pB {ws:↑W}(e:h[j]?=some (.din true ks ws)):NA (.loc j) h=some (true ,ks,ws):=by unfold NA;simp only[e]
end
end
section
noncomputable def Rt (n:Nat):↑↑Int:=(List.range<|n+2).flatMap λk=>(Nh n).filter λs=>decide<|⇑s=k
noncomputable def Qm (ss:↑↑Int):↑PKy:=ss.flatMap λs=>s.tail.map λl=>(l ,s)
abbrev kf:PKy:=(0 ,[0])
noncomputable def prs (n:Nat):↑PKy:=kf::Qm (Nh n)
noncomputable def lpr (n:Nat):↑PKy:=kf::Qm (Rt n)
noncomputable def OY (s:↑Int):↑Int:=if s=[0] then s else s.tail
noncomputable def six (p:Nat->Bool):Bool:=p 0 && (p 1 && (p 2 && (p 3 && (p 4 && p 5))))
def gP {p:Nat->Bool}(h:six p=true){n:Nat}(hn:n<6):p n=true:=by unfold six at h;simp only[HD]at h;let(h0,h1,h2,h3,h4,h5):=h;have:n=0\/n=1\/n=2\/n=3\/n=4\/n=5:=∅;rcases this with rfl|rfl|rfl|rfl|rfl|rfl<;>assumption
noncomputable def ckK (n:Nat):Bool:=decide (lpr n).Nodup && (prs n).isPerm (lpr n)
def Fm:six ckK=true:=⋯
def gy {n:Nat}(hn:n<6):(lpr n).Nodup/\(prs n).Perm (lpr n):=by have h:=gP Fm hn;unfold ckK at h;simp only[HD,decide_eq_true_eq,List.isPerm_iff]at h;exact h
noncomputable def ckS (n:Nat):Bool:=(List.range ⇑(Rt n)).all λi=>match (Rt n)[i]? with|some s=>decide (s=0::s.tail)&&(decide (⇑s<=6)&&s.tail.all λl=>decide (1<=l)&&(decide ((⇑(wo s l):Int)+1=⇑s)&&(decide (wo s l=0::(wo s l).tail)&&((wo s l).tail.all λp=>decide<|1<=p)&&((OY<|wo s l).all λp=>decide ((p ,wo s l)∈kf::Qm ((Rt n).take i))))))|none=>false
def Fh:six ckS=true:=⋯
structure SK (k:PKy):Prop where
 z:k.2=0::k.2.tail
 le:⇑k.2<=6
 l1:1<=k.1
 len:⇑(wo k.2 k.1)+1=⇑k.2
 wz:wo k.2 k.1=0::(wo k.2 k.1).tail
 w1:∀p∈(wo k.2 k.1).tail,1<=p
def EW {n:Nat}(hn:n<6){i:Nat}(h:(Rt n)[i]?=`s):(s=0::s.tail/\⇑s<=6)/\∀l∈s.tail,SK (l ,s)/\∀p∈OY (wo s l),(p ,wo s l)∈kf::Qm ((Rt n).take i):=by have q:=gP Fh hn;unfold ckS at q;rw[HJ]at q;have q:=q i<|Ii.mpr (Hm.mp h).1;rw[h]at q;simp only[HD,decide_eq_true_eq,HJ]at q;let(z,le,q):=q;refine((z,le),λl hl=>?_);let(l1,w,(wz,w1),c):=q l hl;exact((z,le,l1,by show ⇑(wo s l)+1=⇑s;omega,wz,w1),c)
def Qn :k∈Qm ss↔k.2∈ss/\k.1∈k.2.tail:=by
 unfold Qm;rw[IZ];constructor
 .rintro⟨s,hs,h⟩
  let(l,hl,rfl):=Hq.mp h;exact(hs,hl)
 .rintro⟨h1,h2⟩
  exact(k.2,h1,Hq.mpr (k.1,h2,rfl))
def jY {n:Nat}(hn:n<6)(h:k∈lpr n)(hk:k≠kf):SK k/\∀p∈OY (wo k.2 k.1),(p ,wo k.2 k.1)∈lpr n:=by
 rcases Hd.mp h with h|h
 exact absurd h hk
 .let(h1,h2):=Qn.mp h;let(i,hi):=Kg h1;let(s1,s2):=(EW hn hi).2 k.1 h2;refine(s1,λp hp=>?_);rcases Hd.mp (s2 p hp) with q|q
  exact Hd.mpr<|.inl q;let(q1,q2):=Qn.mp q;exact Hd.mpr<|.inr<|Qn.mpr (Kn q1,q2)
noncomputable def OD (ks:↑PKy):Option (Array Nat):=Q9 ⇑ks λi j=>O2 ((ks.map λk=>(k.2 ,k.1)).getD i ([] ,0))<|(ks.map λk=>(k.2 ,k.1)).getD j ([] ,0)
def Ao (ks:↑PKy)(F:PKy->Int):Qz (ks.map λk=>((k.2 ,k.1) ,F k))=OD ks:=by
 unfold Qz OD;rw[Hb];have:∀i:Nat,((ks.map λk=>(((k.2 ,k.1) ,F k):(↑Int×Int)×Int)).getD i (([] ,0) ,0)).1=(ks.map λk=>(k.2 ,k.1)).getD i ([] ,0):=λi=>by rw[HR,HR,Hl,Hl];cases ks[i]?<;>rfl
 congr 1;funext i j;rw[this,this]
noncomputable def ckE (n:Nat):Bool:=((lpr n).all λk=>decide (⇑k.2=n+1)==decide (k.2=(List.range<|n+1).map JM))&&(lpr n).any λk=>decide<|⇑k.2=n+1
def Fs:six ckE=true:=⋯
def EY {n:Nat}(hn:n<6):(∀k∈lpr n ,decide (⇑k.2=n+1)=decide (k.2=(List.range<|n+1).map JM))/\∃k∈lpr n,⇑k.2=n+1:=by have h:=gP Fs hn;unfold ckE at h;simp only[HD,HJ,Iu,beq_iff_eq,decide_eq_true_eq]at h;exact h
noncomputable def ckZ (n:Nat):Bool:=decide (⇑(lpr n)<=81)&&decide (⇑(Rt n)<=32)
def Fg:six ckZ=true:=⋯
def my {n:Nat}(hn:n<6):⇑(lpr n)<=81/\⇑(Rt n)<=32:=by have h:=gP Fg hn;unfold ckZ at h;simp only[HD,decide_eq_true_eq]at h;exact h
noncomputable def OZ (G:Int->Int->Int)(F:PKy->Int)(k:PKy):Int:=Pp ((OY<|wo k.2 k.1).map λp=>F (p ,wo k.2 k.1)+G p k.1)
noncomputable def nu (G:Int->Int->Int)(S:PKy->Int):Nat->PKy->Int|0,k=>S k|n+1,k=>OZ G (nu G S n) k+S k
noncomputable def Fn (G:Int->Int->Int)(S:PKy->Int)(k:PKy):Int:=nu G S (⇑k.2-1) k
def Cn (G:Int->Int->Int)(S:PKy->Int)(c:SK k):Fn G S k=OZ G (Fn G S) k+S k:=by
 have h1:=c.len;have h2:⇑(wo k.2 k.1)≠0:=by rw[c.wz];simp
 obtain⟨n,hn⟩:∃n,⇑(wo k.2 k.1)=n+1:=(_,(Nat.succ_pred_eq_of_ne_zero h2).symm)
 unfold Fn;rw[show ⇑k.2-1=n+1 by omega,nu];congr 1;unfold OZ;congr 1;refine Ih λp J=>?_;show nu G S n (p ,wo k.2 k.1)+_=nu G S (⇑(wo k.2 k.1)-1) (p ,wo k.2 k.1)+_;rw[hn];rfl
set_option tactic.hygienic true in
def o3 (c:SK k):OY (wo k.2 k.1)≠ []:=by
 unfold OY;split;rw[c.wz];simp;rename_i h;intro z;exact h (by rw[c.wz,z])
def sN {G:Int->Int->Int}{F F':PKy->Int}(h:∀p∈OY (wo k.2 k.1) ,F (p ,wo k.2 k.1)=F' (p ,wo k.2 k.1)):OZ G F k=OZ G F' k:=by unfold OZ;congr 1;exact Ih λp hp=>by rw[h p hp]
end
section
def qR (a b:↑Int):Mn.eqvAll (a.map Mn.int) (b.map Mn.int)=decide (a=b):=by
 induction a generalizing b with
 |nil=>
  cases b with|nil=>rw[HM,Mn.eqvAll];rfl|cons y b=>rw[HM,Hg,Mn.eqvAll]<;>simp
 |cons x a ih=>
  cases b with
  |nil=>rw[HM,Hg,Mn.eqvAll]<;>simp
  |cons y b=>
   rw[Hg,Hg,Mn.eqvAll,ih,Mn.eqv];rw[HZ];simp
def mD (a:↑Int):(Mn.tuple<|a.map Mn.int).canLay0=true:=by rw[Mn.canLay0];exact zB a λz hz=>by rw[Mn.canLay0]
def Ck (a b:↑Int)(h:↑Ob):eqB (.tup<|a.map W.int) (.tup<|b.map W.int) h=some (decide<|a=b):=by
 have o1:∀a:↑Int,Ny h 50 (.tup<|a.map W.int)=some (.tuple<|a.map Mn.int):=λa=>by show (P6 (Ny h 49)<|a.map W.int).map Mn.tuple=_;rw[cF (f:=Ny h 49) (g:=W.int) (k:=Mn.int) (λa=>rfl) a];rfl
 show (match Ny h 50 (.tup<|a.map W.int) ,Ny h 50 (.tup<|b.map W.int) with
  |some d,some e=>if d.canLay0=true/\e.canLay0=true then some (Mn.eqv d e) else none
  |_,_=>none)=_
 rw[o1,o1];dsimp only;rw[bf (mD a,mD b),Mn.eqv,qR]
def eqT (a b:↑Int):eqW (.tup<|a.map W.int) (.tup<|b.map W.int)=pr (.bl<|decide<|a=b):=sZ<|Ck a b
def neWT (a b:↑Int):neW (.tup<|a.map W.int) (.tup<|b.map W.int)=pr (.bl<|!decide (a=b)):=DP<|Ck a b
def eqK (k q:PKy):eqW (.tup [.tup<|k.2.map W.int,.int k.1]) (.tup [.tup<|q.2.map W.int,.int q.1])=pr (.bl<|decide<|k=q):=sZ λh=>by
 have o1:∀k:PKy,Ny h 50 (.tup [.tup<|k.2.map W.int,.int k.1])=some (.tuple [.tuple<|k.2.map Mn.int,.int k.1]):=λk=>by
  show (P6 (Ny h 49) [.tup<|k.2.map W.int,.int k.1]).map Mn.tuple=_;have o2:Ny h 49 (.tup<|k.2.map W.int)=some (.tuple<|k.2.map Mn.int):=by show (P6 (Ny h 48)<|k.2.map W.int).map Mn.tuple=_;rw[cF (f:=Ny h 48) (g:=W.int) (k:=Mn.int) (λa=>rfl) k.2];rfl
  unfold P6;rw[o2];rfl
 have c1:∀k:PKy,(Mn.tuple [.tuple<|k.2.map Mn.int,.int k.1]).canLay0=true:=λk=>by rw[Mn.canLay0,Mn.canLayAll0,mD,Mn.canLayAll0,Mn.canLay0,Mn.canLayAll0];rfl
 show (match Ny h 50 (.tup [.tup<|k.2.map W.int,.int k.1]) ,Ny h 50 (.tup [.tup<|q.2.map W.int,.int q.1]) with
  |some d,some e=>if d.canLay0=true/\e.canLay0=true then some (Mn.eqv d e) else none
  |_,_=>none)=_
 rw[o1,o1];dsimp only;rw[bf (c1 k,c1 q),Mn.eqv,Mn.eqvAll,Mn.eqv,qR,Mn.eqvAll,Mn.eqv,Mn.eqvAll];congr 1;rw[HZ];simp only[HD,decide_eq_true_eq,Prod.ext_iff,beq_iff_eq,and_true];exact(λz=>(z.2,z.1),λz=>(z.2,z.1))
def uR (h:l≠ []):NN Pp [.tl<|l.map W.int]=pr (.int<|Pp l):=by
 show bd (O1<|.tl<|l.map W.int) (λl=>match P6 iOf l with
  |some ns=>gd (ns≠ []) (pr<|W.int<|Pp ns)
  |none=>no)=_
 rw[cU,aB,Oc];exact ag h
noncomputable def bLn:MG->M Fl:=(Q4<|O5 (NN Pp)<|O7 (mTl<|O6 [] (Pj (Pm 5) RN) (tgN 0) Pn (m2 M8 (m2 Ox (Pm 4)<|Pl<|O7 (Pm 6)<|O7 (Pm 0) Pe)<|O8 (Pm 5) (Pl<|O7 (Pm 0)<|O7 (Pm 3) Pe) ⇑0) 2) Pe)
def iU:cx=(Q7 (sIf (mB<|m2 eqW (Pl<|O7 (Pm 0)<|O7 (Pm 1) Pe)<|mC<|OJ true (0 ,[0])) (Q4 ⇑0) Q1)<|Q7 (Q8 4<|O5 (arW 2 d4)<|O7 (Pm 0)<|O7 (Pm 1) Pe)<|Q7 (Q8 5<|mIf (mB<|m2 eqW (Pm 4)<|Pl<|O7 ⇑0 Pe) (Pm 4)<|m3 slW (Pm 4) (Pg ⇑1) ao) bLn):=rfl
section
variable {h:↑Ob}{jg:Nat}{gk:↑↑Key}{gw:↑W}{G:Int->Int->Int}{X:W}{ks:↑PKy}{ws:↑W}{F:PKy->Int}{k:PKy}
def yN (c:SK k):⇑(OY<|wo k.2 k.1)<=6:=by
 have h1:=c.len;have h2:=c.le;unfold OY;split;omega;rw[List.length_tail];omega
def zM (eL:L=OY (wo k.2 k.1))(eg:h[jg]?=some (.dit gk gw))(GG:GK gk gw G)(ed:NA X h=some (true ,ks,ws))(c:SK k)
  (ha:∀p∈OY (wo k.2 k.1) ,atK ks ws (p ,wo k.2 k.1)=some (.int<|F (p ,wo k.2 k.1))):Ok (bLn [x,some<|.int k.1,some X,some<|.loc jg,some<|.tup<|(wo k.2 k.1).map W.int,some<|.tup<|L.map W.int]) h λx h'=>x=.rt (.int<|OZ G F k)/\h'=h:=by
 unfold bLn
 have gl:∀ {α:Type} (q:M α),gd (⇑(L.map W.int)<=sizeLine) q=q:=λq=>ag (by
  rw[Hb,eL];have:=yN c
  exact sz ∅)
 simp! only[aa,gl];refine dH (I:=λi a h'=>h'=h/\a=((L.take i).map λp=>F (p ,wo k.2 k.1)+G p k.1).map W.int) (rfl,rfl) eZ (λJ J J J=>trivial) (λi w a h' hw I=>?_) λa h' I=>?_;let(rfl,rfl):=I;rw[Hl]at hw;let(p,hp,rfl):=Hn.mp hw;have pm:=HH hp;rw[eL]at pm;refine(_,rfl,?_);simp! only[List.replicate,HK,HS,aa,Sf];refine yg ed (ha p pm) ?_;simp! only[aa,O8,Sf];refine iq eg ?_;simp! only[aa,Sf];refine bj (iz eg rfl) ?_;rw[GG.get p k.1];simp!;refine ah (rfl,?_);rw[aw hp,Hh,Hh];rfl;let(rfl,rfl):=I;rw[Hb,Hz];simp! only[aa,uR<|show L.map (λp=>F (p ,wo k.2 k.1)+G p k.1)≠ [] by rw[eL];exact λz=>o3 c<|IX.mp z];refine ah (?_,rfl);rw[eL];rfl
def yR (eg:h[jg]?=some (.dit gk gw))(GG:GK gk gw G)(ed:NA X h=some (true ,ks,ws))(c:SK k)
  (ha:∀p∈OY (wo k.2 k.1) ,atK ks ws (p ,wo k.2 k.1)=some (.int<|F (p ,wo k.2 k.1))):Ok (br [.tup<|k.2.map W.int,.int k.1,X,.loc jg]) h λw h'=>w=.int (OZ G F k)/\h'=h:=by
 have e0:br [.tup<|k.2.map W.int,.int k.1,X,.loc jg]=bd (cx [some<|.tup<|k.2.map W.int,some<|.int k.1,some X,some<|.loc jg,none,none]) NR:=rfl;rw[e0,iU];have hk:k≠kf:=λz=>by have:=c.l1;rw[z]at this;exact absurd this ↥_
 have ef:eqW (.tup [.tup<|k.2.map W.int,.int k.1]) (OJ true (0 ,[0]))=pr (.bl false):=by show eqW (.tup [.tup<|k.2.map W.int,.int k.1]) (.tup [.tup<|kf.2.map W.int,.int kf.1])=_;rw[eqK,bg hk]
 simp! only[aa,Sf,ef];refine aJ (kS k.2 k.1 (by have:=c.le;omega) h) λw h1 qq_=>?_;let(ew,e1):=qq_;subst ew e1;have e2:eqW (.tup<|(wo k.2 k.1).map W.int) (.tup [.int 0])=pr (.bl<|decide<|wo k.2 k.1=[0]):=eqT _ [0];have sl1:slW (.tup<|(wo k.2 k.1).map W.int) (some 1) none=pr (.tup<|(wo k.2 k.1).tail.map W.int):=RB (os:=wo k.2 k.1) (by rw[c.wz];simp);by_cases z:wo k.2 k.1=[0];simp! only[aa,Sf,e2,bN z];refine aJ (zM (by unfold OY;rw[bf z]) eg GG ed c ha) λx h2 qq_=>?_;let(ex,e2):=qq_;subst ex e2;simp!;exact ah (rfl,rfl);simp! only[aa,Sf,e2,bg z,sl1];refine aJ (zM (by unfold OY;rw[aZ z]) eg GG ed c ha) λx h2 qq_=>?_;let(ex,e2):=qq_;subst ex e2;simp!;exact ah (rfl,rfl)
end
end
section
def vC (a:↑↑Int)(s:↑Int):Qm (a++[s])=Qm a++s.tail.map λl=>(l ,s):=by unfold Qm;rw[Jk,IA,List.flatMap_nil,HL]
def qj {N:Int}{m:Nat}(hN:N=(m:Int))(m1:1<=m)(m2:m<=6)(h:↑Ob):Ok (iF [.int N]) h λw h'=>w=.tl ((prs<|m-1).map<|OJ true)/\Nw h h':=by
 have e0:iF [.int N]=bd (kJ [some<|.int N,none,none,none]) NR:=rfl;rw[e0];unfold kJ;simp!;refine gY ?_;simp!;refine aJ (ud hN m1 ∅ _) λw h2 qq_=>?_;let(ew,e2):=qq_;subst ew e2;simp!;refine cz (I:=λi ρ h'=>∃a b L ,ρ=[some<|.int N,some<|.loc ⇑h,a,b]/\Nf h h' (.lst<|L.map<|OJ true)/\L=kf::Qm ((Nh<|m-1).take i)/\L.length<=1+10*i) (_,_,[kf],rfl,Nf.mk0,rfl,⇑_) (λJ J J J=>trivial) (λi w ρ h2 hw I=>?_) λρ h2 I=>?_
 .let(a,b,L,rfl,N2,eL,lL):=I;rw[Hl]at hw;let(s,hs,rfl):=Hn.mp hw;let(r,rfl,_,lr,_):=db<|HH hs;have hi:i<32:=by have:=(Hm.mp hs).1;rw[fQ]at this;exact HE this (JL ↥_ (show m-1<=5 by omega))
  refine(_,rfl,?_);have sl1:slW (Rm (0::r)) (some 1) none=pr (.tup<|r.map W.int):=RB (os:=0::r) ⇑_;simp! only[aa,sl1];refine oV (I:=λl ρ h'=>∃b M ,ρ=[some<|.int N,some<|.loc ⇑h,some<|Rm (0::r),b]/\Nf h h' (.lst<|M.map<|OJ true)/\M=L++(r.take l).map (λx=>(x ,0::r))/\M.length<=L.length+l) (_,L,rfl,N2,⇑_,Hc _) (λJ J J J=>trivial) (λl w ρ h3 hw I=>?_) λρ h3 I=>?_
  .let(b,M,rfl,N3,eM,lM):=I;rw[Hl]at hw;let(p,hp,rfl):=Hn.mp hw;have hl:=(Hm.mp hp).1;refine(_,rfl,?_);simp! only[aa,Sf];refine cL N3.new ?_;simp! only[aa,Sf];refine d9 N3.new (by rw[Hb];exact HQ (show _<=400 by omega) ↥_) ?_;simp!;refine ah (_,rfl,_,M++[(p ,0::r)],rfl,?_,?_,by rw[Hk];show M.length+1<=_;omega);have:=N3.put<|.lst<|M.map (OJ true)++[.tup [Rm (0::r),.int p]];rw[Hh];exact this;rw[aw hp,eM,Hh,HF];rfl
  let(b,M,rfl,N3,eM,lM):=I;rw[Hb]at eM lM;rw[Hz]at eM;refine(_,rfl,_,_,M,rfl,N3,?_,∅);rw[aw hs,vC,eM,eL];rfl
 let(a,b,L,rfl,N2,eL,lL):=I;rw[Hb,Hz]at eL;simp!;refine iV N2.new ?_;simp!;refine ah (by rw[eL];rfl,?_);have:=N2.put .gone;exact this.nw
end
section
theorem u3 {f:PKy->W}:∀ {ks:↑PKy}{k:PKy},k∈ks->atK ks (ks.map f) k=some (f k)
 |[],_,h=>absurd h HB
 |q::ks,k,h=>by
  rw[Hg,atK];by_cases e:q=k;rw[bf e,e]
  .rw[aZ e];rcases Hd.mp h with h|h
   exact absurd h.symm e;exact u3 h
def Ar {ks:↑PKy}{ws:↑W}{k:PKy}{v:W}(h:k ∉ks):Qu ks ws k v=(ks++[k] ,ws++[v]):=by unfold Qu;rw[aZ];intro z;let(x,hx,e):=Iu.mp z;rw[of_decide_eq_true e]at hx;exact h hx
noncomputable def rwW (r:PKy×Int):W:=.tup [.tup<|r.1.2.map W.int,.int r.1.1,.int r.2]
noncomputable def kyW (k:PKy):W:=.tup [.tup<|k.2.map W.int,.int k.1]
noncomputable def lk (rs:↑(PKy×Int))(k:PKy):Option Int:=rs.foldl (λo r=>if r.1=k then some r.2 else o) none
def Bh (rs:↑(PKy×Int))(r:PKy×Int)(k:PKy):lk (rs++[r]) k=if r.1=k then some r.2 else lk rs k:=by unfold lk;rw[JK];rfl
noncomputable def vl (rs:↑(PKy×Int))(k:PKy):Int:=(lk rs k).getD 0
noncomputable def OX (G:Int->Int->Int)(F:PKy->Int)(k:PKy):Int:=if k=kf then 0 else OZ G F k
def E8 (l:↑Bool):M9 [.tl<|l.map W.bl]=pr (.bl<|l.all id):=by
 show bd (O1<|.tl<|l.map W.bl) (λl=>match P6 bOf l with
  |some ns=>pr (W.bl<|ns.all id)
  |none=>no)=_
 rw[cU,aB,cF (f:=bOf) (g:=W.bl) (k:=λb=>b) (λa=>rfl),Kr]
def yS {h:↑Ob}:br [.tup<|kf.2.map W.int,.int kf.1,X,Y]=pr (.int 0):=by
 have e0:br [.tup<|kf.2.map W.int,.int kf.1,X,Y]=bd (cx [some<|.tup<|kf.2.map W.int,some<|.int kf.1,some X,some Y,none,none]) NR:=rfl;rw[e0];unfold cx;have ef:eqW (.tup [.tup<|kf.2.map W.int,.int kf.1]) (OJ true (0 ,[0]))=pr (.bl true):=by show eqW (.tup [.tup<|kf.2.map W.int,.int kf.1]) (.tup [.tup<|kf.2.map W.int,.int kf.1])=_;rw[eqK,bN rfl]
 generalize W.tup (kf.2.map W.int)=A at*;generalize kf.1=B at*;simp! only[aa,Sf,ef]
def yO {jg:Nat}{G:Int->Int->Int}{ws:↑W}{F:PKy->Int}(eg:h[jg]?=some (.dit gk gw))(GG:GK gk gw G)(ed:NA X h=some (true ,ks,ws))(c:k≠kf->SK k/\∀p∈OY (wo k.2 k.1) ,atK ks ws (p ,wo k.2 k.1)=some (.int<|F (p ,wo k.2 k.1))):
  Ok (br [.tup<|k.2.map W.int,.int k.1,X,.loc jg]) h λw h'=>w=.int (OX G F k)/\h'=h:=by
 unfold OX;by_cases e:k=kf;rw[bf e,e,yS (h:=h)];exact ah (rfl,rfl);rw[aZ e];exact yR eg GG ed (c e).1 (c e).2
def yP (F:PKy->Int)(k:PKy):∀ (l:↑PKy),lk (l.map λk=>(k ,F k)) k=if k∈l then some (F k) else none:=by
 have:∀ (l:↑PKy) (o:Option Int),(l.map λk=>(k ,F k)).foldl (λo r=>if r.1=k then some r.2 else o) o=if k∈l then some (F k) else o:=by
  intro l
  induction l with
  |nil=>intro o;rw[aZ HB];rfl
  |cons q l ih=>
   intro o;rw[Hg,IT,ih];by_cases e:q=k;subst e;rw[bf Hi];split<;>simp
   .have:(k∈q::l)=(k∈l):=by rw[Hd];have:k≠q:=λz=>e z.symm;simp [this]
    simp only[this,e,if_false]
 intro l;exact this l none
def wR {F:PKy->Int}{l:↑PKy}{k:PKy}(h:k∈l):vl (l.map λk=>(k ,F k)) k=F k:=by unfold vl;rw[yP,bf h];rfl
def xj (F:PKy->Int)(e1:OD κ=`π)(e2:π.size=⇑κ)(e3:∀i∈π.toList ,i<⇑κ)(nd:κ.Nodup)(l1:1<=⇑κ)(lz:⇑κ<=1000):RC [.tl<|(κ.map λk=>(k ,F k)).map rwW]=pr (.tl<|((π.toList.map λi=>κ.getD i kf).map λk=>(k ,F k)).map rwW):=by
 have o:P6 QD ((κ.map λk=>(k ,F k)).map rwW)=some (κ.map λk=>((k.2 ,k.1) ,F k)):=by
  rw[HG]
  exact cF (f:=QD) (g:=λk=>rwW (k ,F k)) (k:=λk:PKy=>((k.2 ,k.1) ,F k)) (λk=>by
   show (P6 iOf<|k.2.map W.int).map (λks=>((ks ,k.1) ,F k))=_
   rw[Oc];rfl) _
 show bd (O1<|.tl<|(κ.map λk=>(k ,F k)).map rwW) (λl=>match P6 QD l with
  |some rs=>gd (1<=⇑rs/\⇑rs<=1000/\(rs.map (·.1)).Nodup) (match Qz rs with
   |some π=>gd (Qi π ⇑rs) (pr<|W.tl<|π.toList.map λi=>l.getD i .non)
   |none=>no)
  |none=>no)=_
 rw[cU,aB,o];dsimp only;rw[Ao,e1];dsimp only;have nd2:((κ.map λk=>(((k.2 ,k.1) ,F k):(↑Int×Int)×Int)).map (·.1)).Nodup:=by rw[HG];exact J1.map _ (λa b (h:a≠b) (e:(a.2 ,a.1)=(b.2 ,b.1))=>h<|by injection e with e1 e2;exact Prod.ext e2 e1) nd
 rw[Hb,ag (l1,lz,nd2),ag (e2,e3)];congr 2;simp only[HG];refine Ih λi hi=>?_;show (κ.map<|rwW∘λk=>(k ,F k)).getD i .non=rwW (κ.getD i kf ,F<|κ.getD i kf);rw[HR,HR,Hl,Hw<|e3 i hi];rfl
noncomputable def ckQ (n:Nat):Bool:=match OD (prs n) with
 |some π=>decide (π.size=⇑(prs n))&&(π.toList.all (λi=>decide<|i<⇑(prs n))&&((π.toList.map λi=>(prs n).getD i kf).isPerm (lpr n)&&(match OD (π.toList.map λi=>(prs n).getD i kf) with
  |some ρ=>decide (ρ.toList=List.range ⇑(lpr n))
  |none=>false)))
 |none=>false
def Fi:six ckQ=true:=⋯
def Aa {n:Nat}(n6:n<6)(F:PKy->Int):∃κ:↑PKy,κ.Perm (lpr n)/\RC [.tl<|((prs n).map λk=>(k ,F k)).map rwW]=pr (.tl<|(κ.map λk=>(k ,F k)).map rwW)/\∃ρ,OD κ=`ρ/\ρ.toList=List.range ⇑κ:=by
 have h:=gP Fi n6;unfold ckQ at h;have pl:=(gy n6).2;have lz:=(my n6).1;have l1:1<=⇑(lpr n):=by unfold lpr;simp
 have pe:=pl.length_eq;cases e:OD (prs n) with
 |none=>rw[e]at h;cases h
 |some π=>
  rw[e]at h;simp only[HD,decide_eq_true_eq,HJ,List.isPerm_iff]at h;let(h1,h2,h3,h4):=h;refine(_,h3,xj F e h1 h2 (pl.nodup_iff.mpr (gy n6).1) ∅ ∅,?_);generalize (π.toList.map λi=>(prs n).getD i kf)=κ at*;cases e2:OD κ with
  |none=>rw[e2]at h4;cases h4
  |some ρ=>
   rw[e2]at h4;exact(ρ,rfl,by rw[h3.length_eq];exact of_decide_eq_true h4)
noncomputable def ckP (n:Nat):Bool:=(List.range ⇑(prs n)).all λi=>match (prs n)[i]? with
 |some k=>decide (k=kf)||(OY<|wo k.2 k.1).all λp=>decide<|(p ,wo k.2 k.1)∈(prs n).take i
 |none=>false
def Fj:six ckP=true:=⋯
def EX {n:Nat}(n6:n<6){i:Nat}(h:(prs n)[i]?=`k)(hk:k≠kf):∀p∈OY (wo k.2 k.1),(p ,wo k.2 k.1)∈(prs n).take i:=by have q:=HJ.mp (gP Fj n6) i<|Ii.mpr (Hm.mp h).1;rw[h]at q;simp only[Bool.or_eq_true,decide_eq_true_eq,HJ]at q;exact q.resolve_left hk
abbrev F0 (G:Int->Int->Int):PKy->Int:=Fn G λJ=>0
def tW {n:Nat}(n6:n<6)(G:Int->Int->Int)(km:k∈lpr n):OX G (F0 G) k=F0 G k:=by
 unfold OX;by_cases e:k=kf;rw[bf e,e];rfl;rw[aZ e];have:=Cn G (λJ=>0) (jY n6 km e).1;rw[Ip]at this;exact this.symm
def vD {h:↑Ob}{P x:W}{bs:↑B23}{cs:↑Int}{m:Nat}(hp:ixW P (.int 1)=pr x)(hx:Lw h x (bs.map B23.w))(hm:⇑bs=m)(m1:1<=m)(m2:m<=6)(hb:∀b∈bs ,⇑b.e.tos<=6)(hc:⇑(Sn<|NG bs)=⇑cs){κ:↑PKy}
  (hs:RC [.tl<|((prs<|m-1).map λk=>(k ,F0 (N5<|zsL (NG bs) cs) k)).map rwW]=pr (.tl<|(κ.map λk=>(k ,F0 (N5<|zsL (NG bs) cs) k)).map rwW)):
  Ok (jB [P,.tl<|cs.map W.int]) h λw h'=>w=.tl ((κ.map λk=>(k ,F0 (N5<|zsL (NG bs) cs) k)).map rwW)/\Nw h h':=by
 have e0:jB [P,.tl<|cs.map W.int]=bd (kI [some P,some<|.tl<|cs.map W.int,none,none,none,none]) NR:=rfl;rw[e0];unfold kI;obtain⟨n,hn⟩:∃n,n=m-1:=(_,rfl)
 have n6:n<6:=∅;rw[<-hn]at hs;obtain⟨N,hN⟩:∃N:Int,N=(m:Int):=(_,rfl)
 have lz:=(my n6).1;have pl:=(gy n6).2;have nd:(prs n).Nodup:=pl.nodup_iff.mpr (gy n6).1;simp!;refine aJ (jA hp hx ∅ hb hc) λw h1 qq_=>?_;let(jg,gk,gw,ew,D,GG):=qq_;subst ew;generalize N5 (zsL (NG bs) cs)=G at*;generalize W.tl (cs.map W.int)=CW at*;simp!;refine lN ?_;simp! only[aa,hp];refine Lw.len_eq ((hx.keep D.nw.eq).keep (Nf.mk0 (h:=h1) (b:=.din true [] [])).nw.eq) (N:=N) (by rw[Hb,hm];exact hN) ?_;simp!;refine aJ (qj hN m1 m2 _) λw h2 qq_=>?_;let(ew,N2):=qq_;rw[<-hn,show OJ true=kyW from rfl]at ew;subst ew;have D2:=(Nd.mk0 (h:=h1) (b:=.din true [] [])).more N2;simp! only[aa,cW];refine cz (I:=λi ρ h'=>∃a b ,ρ=[some P,`CW,some<|.loc jg,some<|.loc ⇑h1,a,b]/\Nd h1 h' ⇑h1 (.din true ((prs n).take i)<|((prs n).take i).map λk=>.int<|F0 G k)) (_,_,rfl,D2) (λJ J J J=>trivial) (λi w ρ h3 hw I=>?_) λρ h3 I=>?_
 .let(a,b,rfl,N3):=I;rw[Hl]at hw;let(k,hk,rfl):=Hn.mp hw;have km:=pl.mem_iff.mp<|HH hk;have hi:=(Hm.mp hk).1;refine([some P,`CW,some<|.loc jg,some<|.loc ⇑h1,some<|.tup<|k.2.map W.int,some<|.int k.1],rfl,?_);have cc:k≠kf->SK k/\∀p∈OY (wo k.2 k.1),atK ((prs n).take i) (((prs n).take i).map λk=>.int<|F0 G k) (p ,wo k.2 k.1)=some (.int<|F0 G (p ,wo k.2 k.1)):=λne=>
   ((jY n6 km ne).1,λp hp=>u3 (f:=λk=>.int<|F0 G k)<|EX n6 hk ne p hp)
  simp! only[aa,fX];refine aJ (yO (F:=F0 G) (k:=k) (N3.nw.get D.new) GG (pB N3.new) cc) λw h4 qq_=>?_;let(ew,e4):=qq_;subst ew e4;rw[tW n6 G km];have nm:k ∉(prs n).take i:=λz=>by
   have e1:prs n=(prs n).take i++k::(prs n).drop (i+1):=by let(_,e):=Hm.mp hk;rw[<-e,<-IU hi,KM]
   have nd2:=nd;rw[e1]at nd2;exact (Ji.mp nd2).2.2 k z k Hi rfl
  simp! only[aa,Sf];refine yc (p:=k.1) (l:=k.2) N3.new (by rw[H9];exact HQ (show _<=81 by have:=pl.length_eq;omega) ↥_) (Ar nm) ?_;simp!;refine ah (_,rfl,_,_,rfl,?_);rw[aw hk,Hh];exact N3.put _
 .let(a,b,rfl,N3):=I;rw[Hb,Hz]at N3;simp!;refine bj (a:=.dn true (prs n)<|(prs n).map λk=>.int<|F0 G k) (h':=h3.set ⇑h1 .gone) (by unfold Od;simp only[N3.new]) ?_;have sI:RL (.dn true (prs n)<|(prs n).map λk=>.int<|F0 G k)=pr ((prs n).map λk=>.tup [kyW k,.int<|F0 G k],λJ=>True):=by show pr ((Jg (λk w=>W.tup [OJ true k,w]) (prs n) ((prs n).map λk=>.int<|F0 G k),λJ=>True):Sr)=_;congr 2;rw[List.zipWith_map_right,List.zipWith_self];rfl
  have gl:∀ {α:Type} (q:M α),gd (⇑((prs n).map λk=>W.tup [kyW k,.int<|F0 G k])<=sizeLine) q=q:=λq=>ag (by rw[Hb,pl.length_eq];exact sz ∅);simp! only[aa,sI,gl];refine dH (I:=λi l h'=>h'=h3.set ⇑h1 .gone/\l=(((prs n).take i).map λk=>(k ,F0 G k)).map rwW) (rfl,rfl) eZ (λJ J J J=>trivial) (λi w l h' hw I=>?_) λl h' I=>?_;let(rfl,rfl):=I;rw[Hl]at hw;let(k,hk,rfl):=Hn.mp hw;refine([some<|kyW k,some<|.int<|F0 G k,none,some P,some CW,some<|.loc jg,some<|.loc ⇑h1,a,b],rfl,?_);have ea:M8 (kyW k) (.tup [.int<|F0 G k])=pr (rwW (k ,F0 G k)):=addT _ _ _ (by show 1+1<=100;decide);simp! only[List.replicate,HK,HS,aa,Sf,ea];refine ah (rfl,?_);rw[aw hk,Hh,Hh];rfl;let(rfl,rfl):=I;rw[Hb,Hz];simp! only[aa,hs];exact ah (rfl,D.nw.trans (N3.put .gone).nw)
end
section
noncomputable def oJ (n:Nat)(G:Int->Int->Int)(rs:↑(PKy×Int)):Bool:=decide (⇑rs=⇑(prs n))&&((prs n).all (λk=>(lk rs k).isSome)&&(prs n).all λk=>decide<|OX G (vl rs) k<=vl rs k)
def E6 (l:↑Bool):Na [.tl<|l.map W.bl]=pr (.bl<|l.any id):=by
 show bd (O1<|.tl<|l.map W.bl) (λl=>match P6 bOf l with
  |some ns=>pr (W.bl<|ns.any id)
  |none=>no)=_
 rw[cU,aB,cF (f:=bOf) (g:=W.bl) (k:=λb=>b) (λa=>rfl),Kr]
noncomputable def bRv:MG->M Fl:=(Q7 (Q8 8<|O5 (arW 2 eV)<|O7 (Pm 0)<|O7 (Pm 1) Pe)<|Q4<|O5 M9<|O7 (mTl<|O6 [] (Pj (Pm 3) RM) (tgT [0,1]) Pn (m2 geW (m2 Ox (Pm 7)<|Pl<|O7 (Pm 0)<|O7 (Pm 1) Pe)<|O5 (arW 4 br)<|O7 (Pm 0)<|O7 (Pm 1)<|O7 (Pm 7)<|O7 (Pm 11) Pe) 3) Pe)
noncomputable def bRt:MG->M Fl:=(Q7 (sIf (mOr (mB<|m2 neW (O5 OT<|O7 (Pm 2) Pe)<|O5 OT<|O7 (Pm 3) Pe)<|mB<|O5 Na<|O7 (mTl<|O6 [] (Pj (Pm 3) RM) (tgN 0) Pn (m2 (Oe true) (Pm 0)<|Pm 6) 2) Pe) (Q4<|mC<|.bl false) Q1) bRv)
def lH:gq=(Q7 (Q8 3<|O5 (arW 1 iF)<|O7 (O5 OT<|O7 (m2 ixW (Pm 0) ⇑1) Pe) Pe)<|Q7 (Q8 4<|jX true)<|Q7 (QU (Pj (Pm 2) RM) (tgT [5,6,7])<|fX (Pm 4) (Pl<|O7 (Pm 5)<|O7 (Pm 6) Pe)<|Pm 7) bRt):=rfl
def E3 {bs:↑B23}{cs:↑Int}{n jn:Nat}{ws:↑W}(hp:ixW P (.int 1)=pr x)(hx:Lw h x (bs.map B23.w))(hl:⇑bs<=10)(n6:n<6)(hb:∀b∈bs ,⇑b.e.tos<=6)(hc:⇑(Sn<|NG bs)=⇑cs)
  (en:h[jn]?=some (.din true ks ws))(ek:∀k ,atK ks ws k=(lk rs k).map W.int)(hs:∀k∈prs n ,(lk rs k).isSome=true):
  Ok (bRv [some P,some<|.tl<|cs.map W.int,some t,some<|.tl<|(prs n).map kyW,some<|.loc jn,a,b,c,none]) h λw h'=>w=.rt (.bl<|(prs n).all λk=>decide<|OX (N5<|zsL (NG bs) cs) (vl rs) k<=vl rs k)/\Nw h h':=by
 unfold bRv;have hat:∀k,(lk rs k).isSome=true->atK ks ws k=some (.int<|vl rs k):=λk hk=>by rw[ek];unfold vl;let(v,e):=Kw.mp hk;rw[e];rfl
 simp!;refine aJ (jA hp hx hl hb hc) λw h1 qq_=>?_;let(jg,gk,gw,ew,D,GG):=qq_;subst ew;have lz:=(my n6).1;have pl:=(gy n6).2;have gl:∀ {α:Type} (q:M α),gd (⇑((prs n).map kyW)<=sizeLine) q=q:=λq=>ag (by rw[Hb,pl.length_eq];exact sz ∅);generalize N5 (zsL (NG bs) cs)=G at*;simp! only[aa,cW,gl];refine dH (I:=λi l h'=>h'=h1/\l=(((prs n).take i).map λk=>decide<|OX G (vl rs) k<=vl rs k).map W.bl) (rfl,rfl) eZ (λJ J J J=>trivial) (λi w l h' hw I=>?_) λl h' I=>?_
 .let(rfl,rfl):=I;rw[Hl]at hw;let(k,hk,rfl):=Hn.mp hw;have km:=HH hk;refine([some<|.tup<|k.2.map W.int,some<|.int k.1,none,some P,some<|.tl<|cs.map W.int,some t,some<|.tl<|(prs n).map kyW,some<|.loc jn,a,b,c,some<|.loc jg],rfl,?_);have e1:=pB<|D.nw.get en;simp! only[List.replicate,HK,HS,aa,Sf];refine yg e1 (hat k<|hs k km) ?_;simp!;have cc:k≠kf->SK k/\∀p∈OY (wo k.2 k.1),atK ks ws (p ,wo k.2 k.1)=some (.int<|vl rs (p ,wo k.2 k.1)):=λne=>by let(q1,q2):=jY n6 (pl.mem_iff.mp km) ne;exact(q1,λp hp=>hat _<|hs _<|pl.mem_iff.mpr<|q2 p hp)
  refine aJ (yO (F:=vl rs) D.new GG e1 cc) λw h2 qq_=>?_;let(ew,e2):=qq_;subst ew e2;simp!;refine ah (rfl,?_);rw[aw hk,Hh,Hh];rfl
 let(rfl,rfl):=I;rw[Hb,Hz];simp! only[aa,E8];refine ah (?_,D.nw);rw[JJ];rfl
def xy {bs:↑B23}{cs:↑Int}{m:Nat}(hp:ixW P (.int 1)=pr x)(hx:Lw h x (bs.map B23.w))(hm:⇑bs=m)(m1:1<=m)(m2:m<=6)(hb:∀b∈bs ,⇑b.e.tos<=6)(hc:⇑(Sn<|NG bs)=⇑cs)(lr:⇑rs<=1000):
  Ok (eE [P,.tl<|cs.map W.int,.tl<|rs.map rwW]) h λw h'=>w=.bl (oJ (m-1) (N5<|zsL (NG bs) cs) rs)/\Nw h h':=by
 have e0:eE [P,.tl<|cs.map W.int,.tl<|rs.map rwW]=bd (gq [some P,some<|.tl<|cs.map W.int,some<|.tl<|rs.map rwW,none,none,none,none,none,none]) NR:=rfl;rw[e0,lH];obtain⟨n,hn⟩:∃n,n=m-1:=(_,rfl)
 have n6:n<6:=∅;rw[<-hn];obtain⟨N,hN⟩:∃N:Int,N=(m:Int):=(_,rfl)
 have lz:=(my n6).1;have pl:=(gy n6).2;have gl:∀ {α:Type} (q:M α),gd (⇑((prs n).map kyW)<=sizeLine) q=q:=λq=>ag (by rw[Hb,pl.length_eq];exact sz ∅);have v2:=λ(h:↑Ob) (jn:Nat) (a b c:Option W) (ks:↑PKy) (ws:↑W) hx en ek hs=>E3 (h:=h) (P:=P) (x:=x) (t:=.tl<|rs.map rwW) (bs:=bs) (cs:=cs) (n:=n) (jn:=jn) (a:=a) (b:=b) (c:=c) (ks:=ks) (ws:=ws) (rs:=rs) hp hx ∅ n6 hb hc en ek hs;generalize W.tl (cs.map W.int)=CW at*;simp! only[aa,hp];refine Lw.len_eq hx (N:=N) (by rw[Hb,hm];exact hN) ?_;simp!;refine aJ (qj hN m1 m2 h) λw h1 qq_=>?_;let(ew,N1):=qq_;rw[<-hn,show OJ true=kyW from rfl]at ew;subst ew;simp!;refine lN ?_;simp! only[aa,cW];refine cz (I:=λi ρ h'=>∃a b c ks ws ,ρ=[some P,`CW,some<|.tl<|rs.map rwW,some<|.tl<|(prs n).map kyW,some<|.loc ⇑h1,a,b,c,none]/\Nf h1 h' (.din true ks ws)/\⇑ks=⇑ws/\⇑ks<=i/\∀k,atK ks ws k=(lk (rs.take i) k).map W.int) (_,_,_,[],[],rfl,Nf.mk0,rfl,Hc _,λJ=>rfl) (λJ J J J=>trivial) (λi w' ρ h2 hw I=>?_) λρ h2 I=>?_
 .let(a,b,c,ks,ws,rfl,N2,l1,l2,ek):=I;rw[Hl]at hw;let(r,hr,rfl):=Hn.mp hw;have hi:=(Hm.mp hr).1;let((p,s),v):=r;refine([some P,`CW,some<|.tl<|rs.map rwW,some<|.tl<|(prs n).map kyW,some<|.loc ⇑h1,some<|.tup<|s.map W.int,some<|.int p,some<|.int v,none],rfl,?_);simp! only[aa,fX,Sf];rcases ep:Qu ks ws (p ,s) (.int v) with⟨ks',ws'⟩;let(g1,g2,g3):=kP l1 ep;refine yc N2.new (HQ (show _<=1000 by omega) ↥_) ep ?_;simp!;refine ah (_,rfl,_,_,_,ks',ws',rfl,N2.put _,g1,∅,λk=>?_);rw[aw hr,Bh,g3];by_cases e:(p ,s)=k
  rw[bf e,bf e];rfl;rw[aZ e,aZ e];exact ek k
 .let(a,b,c,ks,ws,rfl,N2,l1,l2,ek):=I;rw[Hb,Hz]at ek;unfold bRt;unfold oJ;by_cases q:(⇑(rs.map rwW):Int)=(⇑((prs n).map kyW):Int)
  .have q':⇑rs=⇑(prs n):=by rw[Hb,Hb]at q;omega
   rw[bN q',Jj];simp! only[aa,bN q,cW,gl];refine dH (I:=λi l h'=>h'=h2/\l=(((prs n).take i).map λk=>!(lk rs k).isSome).map W.bl) (rfl,rfl) eZ (λJ J J J=>trivial) (λi w' l h' hw I=>?_) λl h' I=>?_
   .let(rfl,rfl):=I;rw[Hl]at hw;let(k,hk,rfl):=Hn.mp hw;refine(_,rfl,?_);unfold kyW;simp! only[List.replicate,HK,HS,aa,Sf];refine Cc (a:=.bl<|(atK ks ws k).isSome !=true) (h':=h') ?_ (rfl,?_);unfold Oe;simp only[pB N2.new,lX];rw[aw hk,Hh,Hh,Hg,Hg,ek,IL];cases (lk rs k).isSome<;>rfl
   .let(rfl,rfl):=I;rw[Hb,Hz];simp! only[aa,E6];by_cases s:(prs n).all (λk=>(lk rs k).isSome)=true
    .have s1:((prs n).map λk=>!(lk rs k).isSome).any id=false:=by rw[JB,Kv];intro k hk;have:=HJ.mp s k hk;show¬(!(lk rs k).isSome)=true;rw[this];simp
     rw[s1,s,Jj];simp!;refine aJ (v2 _ _ _ _ _ _ _ ((hx.keep N1.eq).keep N2.nw.eq) N2.new ek λk hk=>HJ.mp s k hk) λx h3 qq_=>?_;let(ex,N3):=qq_;subst ex;simp!;exact ah (rfl,(N1.trans N2.nw).trans N3)
    .have s1:((prs n).map λk=>!(lk rs k).isSome).any id=true:=by
      rw[JB,Iu];have s2:(prs n).all (λk=>(lk rs k).isSome)=false:=by rw[<-IW];exact s
      let(k,hk,e):=List.all_eq_false.mp s2;exact(k,hk,by show (!(lk rs k).isSome)=true;rw[IW]at e;rw[e];rfl)
     have s2:(prs n).all (λk=>(lk rs k).isSome)=false:=by rw[<-IW];exact s
     rw[s1,s2,JP];simp!;exact ah (rfl,N1.trans N2.nw)
  .have q':¬(⇑rs=⇑(prs n)):=by rw[Hb,Hb]at q;omega
   rw[bg q',JP];simp! only[aa,bg q];exact ah (rfl,N1.trans N2.nw)
end
section
def sd {n:Nat}(n6:n<6){G:Int->Int->Int}{F:PKy->Int}{l:↑PKy}(hl:l.Perm (lpr n)):oJ n G (l.map λk=>(k ,F k))=(prs n).all λk=>decide (OX G F k<=F k):=by
 have pl:=(gy n6).2;have mem:∀ {k},k∈lpr n->k∈l:=λh=>hl.mem_iff.mpr h;unfold oJ;have e1:⇑(l.map λk=>(k ,F k))=⇑(prs n):=by rw[Hb,hl.length_eq,pl.length_eq]
 have e2:(prs n).all (λk=>(lk (l.map λk=>(k ,F k)) k).isSome)=true:=HJ.mpr λk hk=>by rw[yP,bf<|mem<|pl.mem_iff.mp hk];rfl
 rw[bN e1,e2,Jj,Jj,HZ,HJ,HJ];have e3:∀k∈prs n,decide (OX G (vl<|l.map λk=>(k ,F k)) k<=vl (l.map λk=>(k ,F k)) k)=decide (OX G F k<=F k):=λk hk=>by
  have km:=pl.mem_iff.mp hk;rw[wR<|mem km];congr 1;unfold OX;by_cases e:k=kf;rw[bf e,bf e];rw[aZ e,aZ e,sN λp hp=>wR<|mem<|(jY n6 km e).2 p hp]
 exact(λh k hk=>by rw[<-e3 k hk];exact h k hk,λh k hk=>by rw[e3 k hk];exact h k hk)
end
section
abbrev ev (m:Nat):↑Int:=(List.range m).map JM
theorem l6:∀ (n:Nat) (lo:Int),Oi lo n=(List.range n).map λi=>W.int (lo+(i:Nat))
 |0,_=>rfl
 |n+1,lo=>by
  rw[Oi,l6 n,Kq,Hg,HG];congr 1;show W.int lo=W.int (lo+0);rw[Ip];refine Ih λi J=>?_;show W.int (lo+1+(i:Nat))=W.int (lo+((i+1:Nat):Int));congr 1;omega
def Bv (m:Nat):Oi 0 m=(ev m).map W.int:=by rw[l6,HG];refine Ih λi J=>?_;show W.int (0+(i:Nat))=W.int (JM i);rw[Jl];rfl
def zJ {h:↑Ob}{P x:W}{bs:↑B23}{cs:↑Int}{m:Nat}{rs:↑(PKy×Int)}(hp:ixW P (.int 1)=pr x)(hx:Lw h x (bs.map B23.w))(hm:⇑bs=m)(m2:m<=6)(lr:⇑rs<=1000)(ne:(rs.filter λr=>decide<|r.1.2=ev m)≠ []):
  Ok (eF [P,.tl<|cs.map W.int,.tl<|rs.map rwW]) h λw h'=>w=.int (cs.sum-Pp ((rs.filter λr=>decide<|r.1.2=ev m).map (·.2)))/\h'=h:=by
 have e0:eF [P,.tl<|cs.map W.int,.tl<|rs.map rwW]=bd (gr [some P,some<|.tl<|cs.map W.int,some<|.tl<|rs.map rwW,none]) NR:=rfl;rw[e0];unfold gr;obtain⟨N,hN⟩:∃N:Int,N=(m:Int):=(_,rfl)
 have tr:Sd [.int N]=pr (.tup<|(ev m).map W.int):=by show gd ((-(2^62)<=N/\N<2^62)/\N.toNat<=sizeLine) (pr<|W.tup<|Oi 0 N.toNat)=_;rw[ag ((∅,∅),sz ∅),show N.toNat=m by omega,Bv]
 have gl:∀ {α:Type} (q:M α),gd (⇑(rs.map rwW)<=sizeLine) q=q:=λq=>ag (by rw[Hb];exact sz ∅);simp! only[aa,hp];refine Lw.len_eq hx (N:=N) (by rw[Hb,hm];exact hN) ?_;generalize ev m=E at*;have sm:=ig cs;generalize W.tl (cs.map W.int)=CW at*;simp! only[aa,tr,sm,cW,gl];refine lP (I:=λi l h'=>h'=h/\l=(((rs.take i).filter λr=>decide<|r.1.2=E).map (·.2)).map W.int) (rfl,rfl) (λJ J J J=>trivial) (λi w' l h' hw I=>?_) λl h' I=>?_
 .let(rfl,rfl):=I;rw[Hl]at hw;let(r,hr,rfl):=Hn.mp hw;let((p,s),v):=r;refine([some<|.tup<|s.map W.int,some<|.int p,some<|.int v,none,some P,some CW,some<|.tl<|rs.map rwW,some<|.tup<|E.map W.int],rfl,?_);simp! only[List.replicate,HK,HS,aa,eqT];rw[aw hr,Kp];by_cases e:s=E;refine ah<|.inr (bN e,ah (rfl,?_));rw[KF (by exact bN e),Hh,Hh];rfl;refine ah<|.inl (bg e,rfl,?_);rw[Ka (by simp only[decide_eq_true_eq];exact e),Ks,HL]
 let(rfl,rfl):=I;rw[Hb,Hz];simp! only[aa,uR (show (rs.filter λr=>decide<|r.1.2=E).map (·.2)≠ [] from λz=>ne<|IX.mp z)];exact ah (rfl,rfl)
end
section
noncomputable def ins (x:Int):↑Int->↑Int
 |[]=>[x]
 |y::l=>if x<y then x::y::l else y::ins x l
noncomputable def okw (n:Nat):↑Int->Int->↑Int->Bool|S,p,[]=>decide (S=ev (n+1))|S,p,x::r=>decide ((x ,ins x S)∈lpr n)&&(!decide ((x ,ins x S)=kf)&&(decide (wo (ins x S) x=S)&&(decide (p∈OY S)&&okw n (ins x S) x r)))
noncomputable def ckO (n:Nat):Bool:=(itr (n+1) n [[0]]).all λos=>decide (os.Nodup)&&okw n [0] 0 os.tail
def Fk:six ckO=true:=⋯
def zx {n:Nat}(hn:n<6){os:↑Int}(h:os∈itr (n+1) n [[0]]):os.Nodup/\okw n [0] 0 os.tail=true:=by have q:=HJ.mp (gP Fk hn) os h;simp only[HD,decide_eq_true_eq]at q;exact q
theorem xZ {n:Nat}(n6:n<6){G:Int->Int->Int}{F:PKy->Int}(hr:∀k∈lpr n ,OX G F k<=F k):∀ (r S:↑Int) (p:Int),(p ,S)∈lpr n->okw n S p r=true->∃k∈lpr n,k.2=ev (n+1)/\F (p ,S)+Qp G (p::r)<=F k
 |[],S,p,h,q=>by unfold okw at q;exact((p ,S),h,of_decide_eq_true q,by show F (p ,S)+0<=_;omega)
 |x::r,S,p,h,q=>by
  unfold okw at q;simp only[HD,KB,decide_eq_true_eq,decide_eq_false_iff_not]at q;let(q1,q2,q3,q4,q5):=q;let(k,k1,k2,k3):=xZ n6 hr r (ins x S) x q1 q5;refine(k,k1,k2,?_);have h1:=hr _ q1;unfold OX at h1;rw[aZ q2]at h1;have c:=(jY n6 q1 q2).1;have h2:F (p ,S)+G p x<=OZ G F (x ,ins x S):=by
   unfold OZ;refine (g8 λz=>o3 c<|IX.mp z).2 _<|Hq.mpr (p,?_,?_);show p∈OY (wo (ins x S) x);rw[q3];exact q4;show F (p ,wo (ins x S) x)+G p x=_;rw[q3]
  have h3:Qp G (p::x::r)=G p x+Qp G (x::r):=rfl;rw[h3];omega
def xT {n:Nat}(n6:n<6){G:Int->Int->Int}{F:PKy->Int}(hr:∀k∈lpr n ,OX G F k<=F k){os:↑Int}(h:os∈itr (n+1) n [[0]]):∃k∈lpr n,k.2=ev (n+1)/\Qp G os<=F k:=by let(r,rfl,_):=iy _ _ _ h;have m0:kf∈lpr n:=Hi;let(k,k1,k2,k3):=xZ n6 hr r [0] 0 m0 (zx n6 h).2;refine(k,k1,k2,?_);have h0:=hr kf m0;unfold OX at h0;rw[bf rfl]at h0;have:F (0 ,[0])=F kf:=rfl;omega
end
section
open Wd
def cp6:My 10 6:=(↥_,↥_,↥_)
noncomputable def Nq (ys:↑Int)(n:Nat):↑Int:=(List.range n).map λ(k:Nat)=>ys.getD (k%12) 0 / (1+((0:Int)+(k:Int)) / 12)%(([4,40,10^(6:Int).toNat]:↑Int).getD (ys.getD ((k+5)%12) 0%3).toNat 1)
def qY (ys:↑Int)(n:Nat):⇑(Nq ys n)=n:=by unfold Nq;simp
def Ey:∀i,i<3->0<(([4,40,10^(6:Int).toNat]:↑Int).getD i 1):=↥_
def Fc {ys:↑Int}{k:Nat}{i:Int}(hi:i=(k:Int))(h:k<⇑ys):ixW (.tl<|ys.map W.int) (.int i)=pr (.int<|ys.getD k 0):=by subst hi;exact cv<|bp ∅ (by rw[Hl,show ((k:Int)).toNat=k by omega,HR,Hw h];rfl)
def tf (sc:↑Int){A:Int}(hA:0<=A):∃ys:↑Int,⇑ys=12/\∀ (h:↑Ob) (l:↑W),⇑l<=1000->Ok (cj [.cl<|sc.map W.int,.int A,.tl l]) h λw h'=>w=.tl ((Nq ys ⇑l).map W.int)/\Fo ⇑h h h':=by
 let(c,ec):=pE sc A hA;refine(PJ c 12,jk c 12,λh l hl=>?_);have yl:=jk c 12;have no:=λh:↑Ob=>oW (h:=h) (c:=c) (N:=12) (n:=12) rfl ↥_;generalize PJ c 12=ys at*;have e0:cj [.cl<|sc.map W.int,.int A,.tl l]=bd (dJ [some<|.cl<|sc.map W.int,some<|.int A,some<|.tl l,none,none,none]) NR:=rfl;rw[e0];unfold dJ;obtain⟨N,hN⟩:∃N:Int,N=(⇑l:Int):=(_,rfl)
 have eL:OT [.tl l]=pr (.int N):=by rw[lenW_tl,hN]
 have eN:N.toNat=⇑l:=∅;obtain⟨LW,hLW⟩:∃LW,LW=W.tl l:=(_,rfl)
 rw[<-hLW]at eL ⊢;obtain⟨YW,hYW⟩:∃YW,YW=W.tl (ys.map W.int):=(_,rfl)
 have ix:∀ (k:Nat) (i:Int),i=(k:Int)->k<12->ixW YW (.int i)=pr (.int<|ys.getD k 0):=λk i hi hk=>by rw[hYW];exact Fc hi ∅
 simp! only[aa,ec];refine aJ (no h) λw h1 qq_=>?_;let(ew,F1):=qq_;rw[<-hYW]at ew;rw[ew];simp!;refine gY ?_;simp! only[aa,eL,jf (show (-(2^62):Int)<=N by omega)<|show N<2^62 by omega];refine cz (I:=λi ρ h'=>∃a ,ρ=[some<|.cl<|sc.map W.int,some<|.int A,some LW,some YW,some<|.loc ⇑h1,a]/\⇑h'=⇑h1+1/\(∀j ,j<⇑h1->h'[j]?=h1[j]?)/\h'[⇑h1]?=some (.lst<|(Nq ys i).map W.int)) (_,rfl,⇑_,λj hj=>HN hj,f9) (λJ J J J=>trivial) (λi w ρ h2 hw I=>?_) λρ h2 I=>?_
 .let(a,rfl,l1,q1,q2):=I;let(rfl,hi):=cV _ _ _ _ hw;rw[eN]at hi;have a0:=HV (ys.getD ((i+5)%12) 0) (show (3:Int)≠0 by decide);have a1:=HU (ys.getD ((i+5)%12) 0) (show (0:Int)<3 by decide);have i1:=ix (i%12) ((0+(i:Int))%12) ∅ ∅;have i2:=ix ((i+5)%12) ((0+(i:Int)+5)%12) ∅ ∅;have er:Nq ys (i+1)=Nq ys i++[ys.getD (i%12) 0 / (1+((0:Int)+(i:Int)) / 12)%(([4,40,10^(6:Int).toNat]:↑Int).getD (ys.getD ((i+5)%12) 0%3).toNat 1)]:=by unfold Nq;rw[IV,Hh];rfl
  have mp:=Ey (ys.getD ((i+5)%12) 0%3).toNat ∅;have i3:ixW (.tl [.int 4,.int 40,.int<|10^(6:Int).toNat]) (.int<|ys.getD ((i+5)%12) 0%3)=pr (.int<|([4,40,10^(6:Int).toNat]:↑Int).getD (ys.getD ((i+5)%12) 0%3).toNat 1):=cv<|g7 W.int [4,40,10^(6:Int).toNat] 1 a0 a1;generalize (([4,40,10^(6:Int).toNat]:↑Int).getD (ys.getD ((i+5)%12) 0%3).toNat 1)=mm at*;generalize ys.getD (i%12) 0=u at*;generalize ys.getD ((i+5)%12) 0=v at*;refine(_,rfl,?_);simp!;refine cL q2 ?_;simp! only[aa,am (show (0:Int)<12 by decide),i1,i2,cy (show (0:Int)<12 by decide) ↥_,lC cp6,am (show (0:Int)<3 by decide),i3,cy (show 0<1+((0:Int)+(i:Int)) / 12 by omega)<|Int.lt_of_le_of_lt (show 1+((0:Int)+(i:Int)) / 12<=1001 by omega) ↥_,am mp];refine d9 q2 (by rw[Hb,qY];exact HQ (show _<=1000 by omega) ↥_) ?_;simp!;refine ah (_,rfl,_,rfl,by rw[HP];exact l1,λj hj=>by rw[Hr ∅];exact q1 j hj,?_);rw[de q2,er,Hh];rfl
 let(a,rfl,l1,q1,q2):=I;rw[cO,eN]at q2;simp!;refine iV q2 ?_;simp!;have:=F1.le;exact ah (rfl,λi hi=>by rw[Hr ∅,q1 i ∅];exact F1.eq i hi,by rw[HP,l1];omega)
def Go (e:E17):inW (.str e.kind) (.tl [.str "go",.str "if"])=pr (.bl<|decide<|e.kind∈(["go","if"]:↑Str)):=uM (ss:=["go","if"])
def OE:("go":Str)∈(["go","if"]:↑Str)/\("if":Str)∈(["go","if"]:↑Str)/\("table":Str)∉(["go","if"]:↑Str)/\("stop":Str)∉(["go","if"]:↑Str):=⋯
def Bn (e:E17)(h:e.tos≠ []):decide (e.kind∈(["go","if"]:↑Str))=!e.tab:=by
 cases e with|go _=>exact bN OE.1|iff _ _ _ _ _=>exact bN OE.2.1|table _ _=>exact bg OE.2.2.1|stop=>exact absurd rfl h
structure GL (ks:↑↑Key)(ws:↑W)(G:Int->Int->Int):Prop where
 len:⇑ks=⇑ws
 get:∀a b,a≠b->(atK ks ws [.inl a,.inl b]).getD (.int 0)=.int (G a b)
def v7 {bs:↑B23}{cs:↑Int}(hp:ixW P (.int 1)=pr x)(hx:Lw h x (bs.map B23.w))(hl:⇑bs<=10)(hb:∀b∈bs ,⇑b.e.tos<=6)(hc:⇑(Sn<|NG bs)=⇑cs):
  Ok (dP [P,.tl<|cs.map W.int]) h λw h'=>∃j ks ws,w=.loc j/\Nd h h' j (.dit ks ws)/\GL ks ws (N5<|zsL (NG bs) cs):=by
 have e0:dP [P,.tl<|cs.map W.int]=bd (eS [some<|P,some<|.tl<|cs.map W.int,none,none,none]) NR:=rfl;rw[e0];unfold eS;have lc:⇑cs<=60:=by
  have h6:∀e∈NG bs,⇑e.tos<=6:=λe he=>by let(b,hb',rfl):=Hq.mp he;exact hb b hb'
  have l2:⇑(NG bs)=⇑bs:=by unfold NG;rw[Hb]
  have:=gN (NG bs) h6 ⇑(NG bs)<|Hc _;rw[Hz]at this;omega
 simp!;refine qw ?_;simp!;refine sP hp (hx.keep (Nf.mk0 (h:=h) (b:=.dit [] [])).nw.eq) hl hb λh1 N1=>?_;have D1:=(Nd.mk0 (h:=h) (b:=.dit [] [])).more N1;simp! only[aa,t9];refine cz (I:=λi ρ h'=>∃a b ks ws ,ρ=[some P,some<|.tl<|cs.map W.int,some<|.loc ⇑h,a,b]/\Nd h h' ⇑h (.dit ks ws)/\GL ks ws (N5<|(zsL (NG bs) cs).take i)/\⇑ks<=i) (_,_,[],[],rfl,D1,(rfl,λa b J=>rfl),Hc _) (λJ J J J=>(trivial,trivial)) (λi y ρ h2 hy I=>?_) λρ h2 I=>?_
 .let(a,b,ks,ws,rfl,D,G,lk):=I;let(w,n,hw,hn,rfl):=pN hy;have hi:i<⇑cs:=(Hm.mp hn).1;let(e,he,w0,wm):=pP<|HH hw;have hz:=wK hw hn;have ht:R9 (NG bs) w.1=e.tab:=by unfold R9;rw[he]
  rw[ht]at hz;have kg:=Bn e (λz=>by rw[z]at wm;exact absurd wm HB);let(b',hb',rfl):=zh he;let(wa,wn,wt):=w;refine([some P,some<|.tl<|cs.map W.int,some<|.loc ⇑h,some<|Sm (wa ,wn,wt),some<|.int n],rfl,?_);unfold Sm;have w0:0<=wa:=w0;have hb':bs[wa.toNat]?=`b':=hb';simp! only[aa,hp,ix0,ix2];refine (hx.keep D.nw.eq).ix (w:=b'.w) (bp w0<|by rw[Hl,hb'];rfl) ?_;simp! only[aa,yX,ix2,uH,Go,kg];rw[aw hz];cases et:b'.e.tab with
  |true=>
   simp!;refine ah (_,rfl,_,_,ks,ws,rfl,D,(G.len,λa b n=>?_),Jh lk);rw[G.get a b n,fE,aZ ⇑_,Ip]
  |false=>
   by_cases ee:wa=wt;simp! only[aa,ix0,ix2,bN ee];refine ah (_,rfl,_,_,ks,ws,rfl,D,(G.len,λa b n=>?_),Jh lk);rw[G.get a b n,fE,aZ (λz=>n<|z.2.1.symm.trans<|ee.trans z.2.2),Ip]
   .simp! only[aa,ix0,ix2,bg ee,mKt,kt2,O8];refine iq D.new ?_;simp! only[aa,ix0,ix2,kt2];refine bj (iz D.new rfl) ?_;rw[G.get wa wt ee];simp! only[aa,ix0,ix2,kt2];rcases ep:Qu ks ws [.inl wa,.inl wt] (.int<|N5 ((zsL (NG bs) cs).take i) wa wt+n) with⟨ks',ws'⟩;let(l1,l2,g):=kP G.len ep;refine yb D.new (HQ (show _<=60 by omega) ↥_) ep ?_;simp!;refine ah (_,rfl,_,_,ks',ws',rfl,D.put _,(l1,λa b nab=>?_),∅);rw[g,fE];by_cases q:wa=a/\wt=b
    rw[bf (by rw[q.1,q.2]),bf (rfl,q),q.1,q.2];rfl;rw[aZ (λz=>q (by injection z with z1 z2;exact Sum.inl.inj z1,by injection z with z1 z2;injection z2 with z3 z4;exact Sum.inl.inj z3)),aZ (λz=>q z.2),Ip];exact G.get a b nab
 let(a,b,ks,ws,rfl,D,G,lk):=I;rw[tX _ _ _ _ hc,<-wJ hc,Hz]at G;simp!;exact ah (_,ks,ws,rfl,D,G)
theorem jT (G:Int->Int->Int):∀ (l:↑Int) (a b:Int),Qp G (l++[a,b])=Qp G (l++[a])+G a b|[],a,b=>by show G a b+0=0+G a b;omega|[x],a,b=>by show G x a+(G a b+0)=(G x a+0)+G a b;omega|x::y::l,a,b=>by have:=jT G (y::l) a b;show G x y+Qp G (y::l++[a,b])=(G x y+Qp G (y::l++[a]))+G a b;omega
def wY {o:↑Int}{i:Nat}{a b:Int}(ha:o[i]?=`a)(hb:o[i+1]?=`b):∃l,o.take (i+1)=l++[a]/\o.take (i+1+1)=l++[a,b]:=by refine(o.take i,by rw[Iw,ha];rfl,?_);rw[Iw,hb,Iw,ha,HF];rfl
def yT {j:Nat}{ws:↑W}{G:Int->Int->Int}{cs o:↑Int}(e:h[j]?=some (.dit ks ws))(g:GL ks ws G)(nd:o.Nodup)(l1:1<=⇑o)(l2:⇑o<=100):
  Ok (eD [.tl<|cs.map W.int,.loc j,.tup<|o.map W.int]) h λw h'=>w=.int (cs.sum-Qp G o)/\h'=h:=by
 have e0:eD [.tl<|cs.map W.int,.loc j,.tup<|o.map W.int]=bd (gm [some<|.tl<|cs.map W.int,some<|.loc j,some<|.tup<|o.map W.int,none,none]) NR:=rfl;rw[e0];unfold gm;obtain⟨N,hN⟩:∃N:Int,N=(⇑o:Int):=(_,rfl)
 have eL:OT [.tup<|o.map W.int]=pr (.int N):=by rw[lenW_tup,Hb,hN]
 have eN:(N-1).toNat=⇑o-1:=∅;have ix:∀ (k:Nat) (i x:Int),i=(k:Int)->o[k]?=`x->ixW (.tup<|o.map W.int) (.int i)=pr (.int x):=λk i x hi hx=>by subst hi;exact f8<|bp ∅ (by rw[Hl,show ((k:Int)).toNat=k by omega,hx];rfl)
 have sm:=ig cs;generalize W.tup (o.map W.int)=OW at*;simp! only[aa,eL,lA (show (-(2^62):Int)<=1 by decide) (show (1:Int)<2^62 by decide) (show (-(2^62):Int)<=N by omega)<|show N<2^62 by omega];refine cz (I:=λi ρ h'=>h'=h/\∃s a ,ρ=[some<|.tl<|cs.map W.int,some<|.loc j,some OW,some<|.int s,a]/\s=Qp G (o.take<|i+1)) (rfl,_,_,rfl,?_) (λJ J J J=>trivial) (λi w ρ h1 hw I=>?_) λρ h1 I=>?_
 .cases o with|nil=>rfl|cons a l=>rfl
 .let(rfl,s,a,rfl,es):=I;let(rfl,hi):=cV _ _ _ _ hw;rw[eN]at hi;obtain⟨x,hx⟩:∃x,o[i]?=`x:=(_,Hw ∅)
  obtain⟨y,hy⟩:∃y,o[i+1]?=`y:=(_,Hw ∅)
  have i1:=ix i (1+(i:Int)-1) x ∅ hx;have i2:=ix (i+1) (1+(i:Int)) y ∅ hy;have ne:x≠y:=λz=>by have a1:=Hm.mp hx;have a2:=Hm.mp hy;let(q1,r1):=a1;let(q2,r2):=a2;have:=(List.getElem_inj (i:=i) (j:=i+1) (h₀:=q1) (h₁:=q2) nd).mp (by rw[r1,r2];exact z);omega
  let(l,t1,t2):=wY hx hy;refine(_,rfl,?_);simp! only[aa,O8];refine iq e ?_;simp! only[aa,i1,i2];refine bj (iz (q:=[.inl x,.inl y]) e rfl) ?_;rw[g.get x y ne];simp!;refine ah (_,rfl,rfl,_,_,rfl,?_);rw[es,t2,t1,jT]
 let(rfl,s,a,rfl,es):=I;rw[cO,eN,show ⇑o-1+1=⇑o by omega,Hz]at es;simp! only[aa,sm];rw[es];exact ah (rfl,rfl)
end
section
def jz {m:Nat}(h:1<=m):ia m=0::Sh (m-1):=by
 obtain⟨n,rfl⟩:∃n,m=n+1:=(m-1,∅)
 unfold ia Sh;rw[Kq,Hg,HG];congr 1;apply Ih;intro k _;show ((k+1:Nat):Int)=1+(k:Int);omega
def sA {m:Nat}(h:1<=m):(Sh<|m-1).filter (λx=>!decide (x∈(0::r:↑Int)))=P7 m (0::r):=by unfold P7;rw[jz h,Ka ⇑_]
def vJ {N:Int}{m:Nat}(hN:N=(m:Int))(m1:1<=m)(m2:m<=6):Ok (dm [.int N]) h λw h'=>w=.tl ((itr m (m-1) [[0]]).map Rm)/\h'=h:=by
 have e0:dm [.int N]=bd (dY [some<|.int N,none,none,none,none]) NR:=rfl;rw[e0];unfold dY;have eN:(N-1).toNat=m-1:=∅;have r2:=lA (show (-(2^62):Int)<=1 by decide) (show (1:Int)<2^62 by decide) (show (-(2^62):Int)<=N by omega) (show N<2^62 by omega);simp! only[aa,Sf,r2];refine cz (I:=λi ρ h'=>∃a b c ,ρ=[some<|.int N,some<|.tl<|(itr m i [[0]]).map Rm,a,b,c]/\h'=h) (_,_,_,rfl,rfl) (λJ J J J=>trivial) (λi w ρ h1 hw I=>?_) λρ h1 I=>?_
 .let(a,b,c,rfl,eh):=I;subst eh;let(rfl,hi):=cV _ _ _ _ hw;rw[eN]at hi;refine(_,rfl,?_);have bl:⇑(itr m i [[0]])<=1296:=HA (uK m2 i)<|JL ↥_ (show i<=4 by omega);simp! only[aa,cW];refine cz (I:=λk ρ h'=>∃c ,ρ=[some<|.int N,some<|.tl<|(itr m i [[0]]).map Rm,some<|.int<|1+(i:Int),some<|.tl<|(((itr m i [[0]]).take k).flatMap<|NO m).map Rm,c]/\h'=h1) (_,rfl,rfl) (λJ J J J=>trivial) (λk w ρ h2 hw I=>?_) λρ h2 I=>?_
  .let(c,rfl,eh):=I;subst eh;rw[Hl]at hw;let(s,hs,rfl):=Hn.mp hw;let(r,rfl,lr):=iy m i s<|HH hs;have hk:=(Hm.mp hs).1;refine([some<|.int N,some<|.tl<|(itr m i [[0]]).map Rm,some<|.int<|1+(i:Int),some<|.tl<|(((itr m i [[0]]).take k).flatMap<|NO m).map Rm,some<|Rm (0::r)],rfl,?_);have gl:∀ {α:Type} (q:M α),gd (⇑((Sh<|m-1).map W.int)<=sizeLine) q=q:=λq=>ag (by rw[Hb,i9];exact sz ∅);simp! only[aa,r2,eN,l7,gl];refine lP (I:=λn a h'=>h'=h2/\a=(((((Sh<|m-1).take n).filter λx=>!decide (x∈(0::r:↑Int))).map λx=>(0::r)++[x])).map Rm) (rfl,rfl) (λJ J J J=>trivial) (λn w a h' hw I=>?_) λa h' I=>?_
   .let(eh,rfl):=I;subst eh;rw[Hl]at hw;let(y,hy,rfl):=Hn.mp hw;refine(_,rfl,?_);have ea:M8 (Rm (0::r)) (.tup [.int y])=pr (Rm (0::r++[y])):=by show M8 (.tup (.int 0::r.map W.int)) (.tup [.int y])=_;rw[addT _ _ _<|by rw[Hb];show ⇑r+1<=100;omega];unfold Rm;rw[Hh,Hg];rfl
    have en:cH (.int y) (Rm (0::r))=pr (.bl<|!decide (y∈(0::r:↑Int))):=lQ y (0::r);simp! only[List.replicate,HK,HS,aa,en];rw[aw hy,Kp];by_cases z:y∈(0::r:↑Int);refine ah<|.inl (by simp only[bN z,Ic],rfl,?_);rw[show ([y].filter λx=>!decide (x∈(0::r:↑Int)))=[] by rw[Jm,Ks,bN z];rfl,HL];refine ah<|.inr (by simp only[bg z,Bool.not_false],?_);simp! only[aa,Sf];rw[ea];refine ah (rfl,?_);rw[show ([y].filter λx=>!decide (x∈(0::r:↑Int)))=[y] by rw[Jm,Ks,bg z];rfl,Hh,Hh];rfl
   .let(eh,rfl):=I;subst eh;rw[Hb,Hz];have ee:(((Sh<|m-1).filter λx=>!decide (x∈(0::r:↑Int))).map λx=>(0::r)++[x])=NO m (0::r):=by rw[sA m1];rfl
    rw[ee];have l1:=pw (c:=6) ((itr m i [[0]]).take k) λx J=>HA (ml m x) m2;rw[H9]at l1;have l2:=ml m (0::r);simp! only[aa,jI _ _<|show ⇑((((itr m i [[0]]).take k).flatMap<|NO m).map Rm)+⇑((NO m (0::r)).map Rm)<=sizeLine by rw[Hb,Hb];exact sz ∅];refine ah (_,rfl,some<|Rm (0::r),?_,rfl);rw[aw hs,Jk,Hh,show [(0::r:↑Int)].flatMap (NO m)=NO m (0::r) by simp]
  let(c,rfl,eh):=I;subst eh;rw[Hb,Hz,<-jv];simp!;exact ah (_,rfl,_,_,_,rfl,rfl)
 let(a,b,c,rfl,eh):=I;subst eh;rw[cO,eN];simp!;exact ah (rfl,rfl)
end
section
open Wd
noncomputable def b23 (ns:↑Str)(b:Bt):B23:=(b.nm,b.ss.map Rr.form,b.e.en ns)
def Ad {z:Str}(h:aU z=true):Mn.strOk z=true:=by unfold aU at h;simp only[HD,HJ]at h;unfold Mn.strOk;rw[Array.all_eq_true_iff_forall_mem];intro c hc;have:=Oq.mp (h.2.1 c<|by simpa using hc);exact bN ∅
def GM {most:Nat}{N:Int}(hN:N=(⇑bl:Int))(G:TxG most bx bl):∀b∈bl.map (b23<|bl.map Bt.nm),BG N b:=λb hb=>by let(c,hc,rfl):=Hq.mp hb;have g:=(G.b c hc).g;have d:=(G.b c hc).d;refine BG.mk' (BF (by rw[Hb];exact hN) g.e.1 g.e.2.1 g.e.2.2.1 d.2 g.e.2.2.2) (Ad g.nm) (by rw[Hb];exact g.l) λx hx=>?_;let(r,hr,rfl):=Hq.mp hx;let(r1,r2,r3):=g.s r hr;let(_,_,_,_,p):=CQ r1 r2 r3<|d.1 r hr;exact p
end
section
open Wd
noncomputable def ckF (n:Nat):Bool:=((lpr n).all λk=>decide k.2.Nodup && decide (k.1∈k.2))&&decide (1+([0,1,4,12,32,80]:↑Int).getD n 0=⇑(lpr n))
def Fp:six ckF=true:=⋯
def tm {n:Nat}(n6:n<6):(∀k∈lpr n ,k.2.Nodup/\k.1∈k.2)/\1+([0,1,4,12,32,80]:↑Int).getD n 0=⇑(lpr n):=by have q:=gP Fp n6;unfold ckF at q;simp only[HD,decide_eq_true_eq,HJ]at q;exact q
def BX {n:Nat}(n6:n<6)(G:Int->Int->Int):∀ (d:Nat) (k:PKy),k∈lpr n->⇑k.2=d->∃r l,0::r=l++[k.1]/\(0::r).Perm k.2/\Qp G (0::r)=F0 G k:=by
 intro d
 induction d with
 |zero=>
  intro k hk hd;have:=((tm n6).1 k hk).2;rw[List.length_eq_zero_iff.mp hd]at this;cases this
 |succ d ih=>
  intro k hk hd;by_cases e:k=kf;subst e;exact([],[],rfl,.refl _,rfl)
  .let(c,up):=jY n6 hk e;have ek:F0 G k=OZ G (F0 G) k:=by have:=Cn G (λJ=>0) c;rw[Ip]at this;exact this
   let(t1,_):=g8 (l:=(OY<|wo k.2 k.1).map λp=>F0 G (p ,wo k.2 k.1)+G p k.1) λz=>o3 c<|IX.mp z;let(p,hp,e1):=Hq.mp t1;let(r,l,e2,pe,e3):=ih _ (up p hp) (by have:=c.len;dsimp only;omega);let(nd,km):=(tm n6).1 k hk;refine(r++[k.1],l++[p],?_,?_,?_);rw[<-HK,e2];rw[<-HK];exact ((pe.append_right [k.1]).trans List.perm_append_comm).trans<|i6 nd km;rw[<-HK,e2,HF];show Qp G (l++[p,k.1])=_;rw[jT,<-e2,e3,ek];exact e1
def BB (n:Nat):ev (n+1)=0::Sh n:=by have:=jz (show 1<=n+1 by omega);exact this
def mh {n:Nat}(G:Int->Int->Int):FM (Qp G) none (itr (n+1) n [[0]])=some (0::(tT G 0<|Sh n).2):=by
 have e0:=sy (show 1<=n+1 by omega);rw[IP]at e0;have nd:(Sh n).Nodup:=by have:=y9<|n+1;rw[jz ∅,IP]at this;exact (IC.mp this).2
 have ln:⇑(Sh n)=n:=by have:=congrArg List.length (jz<|show 1<=n+1 by omega);rw[IP,Hf]at this;unfold ia at this;rw[Hb,IN]at this;omega
 rw[uJ (n+1) n [0] (by rw[e0];exact ln),e0];show FM (Qp G) (Option.map (λt=>0::t) none) ((prm n<|Sh n).map λt=>0::t)=_;rw[tU,(kU G n 0 (Sh n) nd ln).1];rfl
def Cy {n:Nat}(n6:n<6)(G:Int->Int->Int){κ:↑PKy}(hκ:κ.Perm (lpr n)):((κ.map λk=>(k ,F0 G k)).filter λr=>decide<|r.1.2=ev (n+1))≠ []/\Pp (((κ.map λk=>(k ,F0 G k)).filter λr=>decide<|r.1.2=ev (n+1)).map (·.2))=Qp G (0::(tT G 0<|Sh n).2):=by
 have inn:∀k∈lpr n,k.2=ev (n+1)->(k ,F0 G k)∈(κ.map λk=>(k ,F0 G k)).filter λr=>decide (r.1.2=ev (n+1)):=λk hk e=>Jb.mpr (Hq.mpr (k,hκ.mem_iff.mpr hk,rfl),bN e);have ne:((κ.map λk=>(k ,F0 G k)).filter λr=>decide<|r.1.2=ev (n+1))≠ []:=by let(e1,k,hk,e2):=EY n6;have e3:=e1 k hk;rw[bN e2]at e3;exact List.ne_nil_of_mem<|inn k hk<|of_decide_eq_true e3.symm
 let(t1,t2):=g8 λz=>ne<|IX.mp z;refine(ne,Int.le_antisymm ?_ ?_)
 .let(r,hr,e):=Hq.mp t1;let(h1,h2):=Jb.mp hr;let(k,hk,rfl):=Hq.mp h1;have ek:k.2=ev (n+1):=of_decide_eq_true h2;let(r,l,_,pe,e3):=BX n6 G _ k (hκ.mem_iff.mp hk) rfl;rw[ek,BB]at pe;rw[<-e];show F0 G k<=_;rw[<-e3]
  exact CA G (by
   have:=y9<|n+1;rw[jz ∅,IP]at this
   exact (IC.mp this).2) pe.cons_inv
 .have fb:=mh (n:=n) G;let(_,o):=tR _ _ _ _ fb;have om:=o.resolve_left λz=>by cases z
  let(k,hk,e,q):=xT n6 (F:=F0 G) (G:=G) (λk hk=>Int.le_of_eq<|tW n6 G hk) om;exact Int.le_trans q<|t2 _<|Hq.mpr (_,inn k hk e,rfl)
def Bm (κ:↑PKy):P8 κ=OD κ:=by
 unfold P8 OD;congr 1;funext i j;have e:∀i,(κ.map λk=>(k.2 ,k.1)).getD i ([] ,0)=((κ.getD i (0 ,[])).2 ,(κ.getD i (0 ,[])).1):=λi=>by rw[HR,HR,Hl];cases κ[i]?<;>rfl
 rw[e,e]
def Bo (l:↑PKy):P6 (OG true) (l.map kyW)=`l:=by rw[cF (f:=OG true) (g:=kyW) (k:=λk=>k) (λk=>lX k.1 k.2),Kr]
def xk (e:OD κ=`ρ)(er:ρ.toList=List.range ⇑κ)(l1:1<=⇑κ)(lz:⇑κ<=1000):jP [.tl<|κ.map kyW]=pr (.tl<|κ.map kyW):=by
 have sz':ρ.size=⇑κ:=by rw[<-HY,er,IN]
 show bd (O1<|.tl<|κ.map kyW) (λl=>match P6 (OG true) l with
  |some ks=>gd (1<=⇑ks/\⇑ks<=1000) (match P8 ks with
   |some π=>gd (Qi π ⇑ks) (pr<|W.tl<|π.toList.map λi=>l.getD i .non)
   |none=>no)
  |none=>no)=_
 rw[cU,aB,Bo];dsimp only;rw[ag (l1,lz),Bm,e];dsimp only;rw[ag (sz',λi hi=>by rw[er]at hi;exact Ii.mp hi),er];congr 2;apply JD;intro i;rw[Hl];by_cases hi:i<⇑κ;rw[Ko hi];show some ((κ.map kyW).getD i .non)=_;rw[HR,Hw<|by rw[Hb];exact hi];rfl;rw[IY (by rw[IN];omega),IY<|by rw[Hb];omega];rfl
def zr (nd:κ.Nodup):j5 [.tl<|κ.map λk=>.tup [kyW k,.bl true]]=pr (.dn true κ<|κ.map λJ=>.bl true):=by
 have o:P6 Qv (κ.map λk=>W.tup [kyW k,.bl true])=some (κ.map λk=>(k ,W.bl true)):=cF (f:=Qv) (g:=λk=>W.tup [kyW k,.bl true]) (k:=λk=>(k ,W.bl true)) (λk=>by
  show (OG true<|kyW k).map (· ,W.bl true)=_
  rw[show OG true (kyW k)=`k from lX k.1 k.2];rfl) _
 show bd (O1<|.tl<|κ.map λk=>W.tup [kyW k,.bl true]) (λl=>match P6 Qv l with
  |some es=>gd (es.map (·.1)).Nodup (pr (W.dn true (es.map (·.1)) (es.map (·.2))))
  |none=>no)=_
 rw[cU,aB,o];dsimp only;rw[HG,HG,show (Prod.fst∘λk:PKy=>(k ,W.bl true))=id from rfl,List.map_id,ag nd];rfl
noncomputable def lsW (S:Int)(G:Int->Int->Int)(x:Option ↑Int):W:=match x with|none=>.non|some o=>.int<|S-Qp G o
noncomputable def fsW (x:Option ↑Int):W:=match x with|none=>.non|some o=>.tup<|o.map W.int
noncomputable def bO:MG->M Fl:=(Q7 (Q8 7<|O5 (arW 3 eD)<|O7 (Pm 2)<|O7 (Pm 3)<|O7 (Pm 6) Pe)<|Q7 (sIf (mB<|m2 neW (O5 (arW 3 mi)<|O7 (Pm 1)<|O7 (Pm 6)<|O7 (mTl<|OU<|O7 (Pm 2) Pe) Pe)<|Pm 7) (Q4<|mC<|.bl false) Q1)<|sIf (mOr (mB<|m2 Os (Pm 4)<|mC .non)<|mB<|m2 ltW (Pm 7)<|Pm 4) (Q7 (Q8 4<|Pm 7)<|Q8 5<|Pm 6) Q1)
def vI:uP=(Q7 (Q8 1<|O5 (arW 1 j4)<|O7 (O5 (arW 2 eC)<|O7 (Pm 0)<|O7 ⇑6 Pe) Pe)<|Q7 (Q8 2<|O5 (arW 3 cj)<|O7 (Pm 0)<|O7 ⇑8 (O7 (O5 (arW 1 gu)<|O7 (Pm 1) Pe) Pe))<|Q7 (Q8 3<|O5 (arW 2 dP)<|O7 (Pm 1)<|O7 (Pm 2) Pe)<|Q7 (Q8 4<|mC .non)<|Q7 (Q8 5<|mC .non)<|Q7 (QU (Pj (O5 (arW 1 dm)<|O7 (O5 OT<|O7 (m2 ixW (Pm 1) ⇑1) Pe) Pe) RM) (tgN 6) bO)<|Q7 (sIf (mB<|m2 neW (O5 (arW 2 mj)<|O7 (Pm 1)<|O7 (mTl<|OU<|O7 (Pm 2) Pe) Pe)<|Pm 5) (Q4<|mC<|.bl false) Q1)<|Q7 (Q8 8<|O5 (arW 2 jB)<|O7 (Pm 1)<|O7 (mTl<|OU<|O7 (Pm 2) Pe) Pe)<|Q7 (Q8 9<|O5 jP<|O7 (mTl<|O6 [] (Pj (Pm 8) RM) (tgT [0,1,2]) Pn (Pl<|O7 (Pm 0)<|O7 (Pm 1) Pe) 4) Pe)<|Q7 (Q8 7<|m2 M8 ⇑1 (m2 ixW (mTl<|OR<|O7 ⇑0 (O7 ⇑1 (O7 ⇑4 (O7 ⇑12 (O7 ⇑32 (O7 ⇑80 Pe))))))<|m2 RV (O5 OT<|O7 (m2 ixW (Pm 1) ⇑1) Pe) ⇑1))<|Q7 (sIf (mOr (mB<|m2 neW (O5 OT<|O7 (Pm 9) Pe)<|Pm 7)<|mB<|m2 neW (O5 OS<|O7 (O5 j5<|O7 (mTl<|O6 [] (Pj (Pm 9) RM) (tgN 0) Pn (Pl<|O7 (Pm 0)<|O7 (mC<|.bl true) Pe) 2) Pe) Pe)<|Pm 7) (Q4<|mC<|.bl false) Q1)<|Q7 (sIf (mB<|m2 PD (O5 (arW 3 eE)<|O7 (Pm 1)<|O7 (mTl<|OU<|O7 (Pm 2) Pe)<|O7 (Pm 8) Pe)<|mC<|.bl true) (Q4<|mC<|.bl false) Q1)<|Q4<|O4 (m2 eqW (O5 (arW 3 eF)<|O7 (Pm 1)<|O7 (Pm 2)<|O7 (Pm 8) Pe)<|Pm 4)<|m2 eqW (Pm 2)<|O5 (arW 3 cj)<|O7 (Pm 0)<|O7 ⇑8 (O7 (O5 (arW 1 gu)<|O7 (Pm 1) Pe) Pe)):=rfl
def v5 {bs:↑B23}{cs o:↑Int}{jg:Nat}(hp:ixW P (.int 1)=pr x)(hx:Lw h x (bs.map B23.w))(hl:⇑bs<=10)(hb:∀b∈bs ,⇑b.e.tos<=6)(hc:⇑(Sn<|NG bs)=⇑cs)
  (eg:h[jg]?=some (.dit gk gw))(GG:GL gk gw (N5<|zsL (NG bs) cs))(nd:o.Nodup)(l1:1<=⇑o)(l2:⇑o<=100):
  Ok (bO [some S,`P,some<|.tl<|cs.map W.int,some<|.loc jg,some<|lsW cs.sum (N5<|zsL (NG bs) cs) a,some<|fsW a,some<|.tup<|o.map W.int,f,t,u]) h λy h'=>(∃f ,y=.nx [some S,`P,some<|.tl<|cs.map W.int,some<|.loc jg,some<|lsW cs.sum (N5<|zsL (NG bs) cs)<|fm (Qp<|N5<|zsL (NG bs) cs) a o,some<|fsW<|fm (Qp<|N5<|zsL (NG bs) cs) a o,some<|.tup<|o.map W.int,f,t,u])/\Nw h h':=by
 unfold bO;have lc:=yT (cs:=cs) eg GG nd l1 l2;have cc:=λh (hx:Lw h x (bs.map B23.w))=>BM (h:=h) hp hx hl hb hc l1 l2 nd;rw[<-uw nd hc]at cc;generalize N5 (zsL (NG bs) cs)=G at*;obtain⟨OW,hO⟩:∃OW,OW=W.tup (o.map W.int):=(_,rfl)
 rw[<-hO]at lc cc;have go:∀ (h':↑Ob),Nw h h'->fm (Qp G) a o=`o->Ok (pr<|Fl.nx [some S,some P,some<|.tl<|cs.map W.int,some<|.loc jg,some<|.int<|cs.sum-Qp G o,some OW,some OW,some<|.int<|cs.sum-Qp G o,t,u]) h' λy h'=>(∃f ,y=.nx [some S,`P,some<|.tl<|cs.map W.int,some<|.loc jg,some<|lsW cs.sum G<|fm (Qp G) a o,some<|fsW<|fm (Qp G) a o,some OW,f,t,u])/\Nw h h':=λh' N e=>ah ((_,by rw[e];show _=Fl.nx [_,_,_,_,some<|.int<|cs.sum-Qp G o,some<|.tup<|o.map W.int,_,_,_,_];rw[<-hO]),N);rw[<-hO];simp!;refine aJ lc λw h1 qq_=>?_;let(ew,e1):=qq_;subst ew e1;simp! only[aa,cU];refine aJ (cc _ hx) λw h2 qq_=>?_;let(ew,N2):=qq_;subst ew;simp! only[aa,decide_true,Ic];cases a with
 |none=>
  have z:Os (lsW cs.sum G none) .non=pr (.bl true):=rfl;simp! only[aa,z];exact go _ N2 rfl
 |some b=>
  have z:Os (lsW cs.sum G<|some b) .non=pr (.bl false):=rfl;have zl:ltW (.int<|cs.sum-Qp G o) (lsW cs.sum G<|some b)=pr (.bl<|decide<|cs.sum-Qp G o<cs.sum-Qp G b):=ltW_int _ _;simp! only[aa,z,zl];by_cases lt:Qp G b<Qp G o;have lt':cs.sum-Qp G o<cs.sum-Qp G b:=∅;simp! only[aa,bN lt'];exact go _ N2<|bf lt;have lt':¬cs.sum-Qp G o<cs.sum-Qp G b:=∅;simp! only[aa,bg lt'];have e:fm (Qp G) `b o=`b:=aZ lt;rw[e];exact ah ((_,rfl),N2)
def EG {n:Nat}(n6:n<6){N:Int}(hN:N=((n+1:Nat):Int)):ixW (.tl [.int 0,.int 1,.int 4,.int 12,.int 32,.int 80]) (.int<|N-1)=pr (.int<|([0,1,4,12,32,80]:↑Int).getD n 0):=by
 have e:N-1=(n:Int):=∅;rw[e];have:∀n,n<6->([.int 0,.int 1,.int 4,.int 12,.int 32,.int 80]:↑W)[n]?=some (.int<|([0,1,4,12,32,80]:↑Int).getD n 0):=λn h=>by
  match n,h with|0,_=>rfl|1,_=>rfl|2,_=>rfl|3,_=>rfl|4,_=>rfl|5,_=>rfl
 exact cv<|bp ∅ (this n n6)
def Bl (ns:↑Int)(hh:↑Ob):Ok (qQ [.cl<|ns.map W.int]) hh λw J=>w=.bl true:=by
 have e0:qQ [.cl<|ns.map W.int]=bd (uP [some<|.cl<|ns.map W.int,none,none,none,none,none,none,none,none,none]) NR:=rfl;rw[e0,vI];let(bx,bl,Gx,ht):=zW ns (most:=6) (MM:=6) rfl ↥_ ↥_;let(ys,yl,yo):=tf ns (A:=8) ↥_;obtain⟨N,hN⟩:∃N:Int,N=(⇑bl:Int):=(_,rfl)
 have gb:=GM hN Gx;have lb:⇑(bl.map<|b23<|bl.map Bt.nm)=⇑bl:=Hb ..;have eP:W.tup [.tl<|(bxV bx).map bqW,.tl<|bl.map<|Bt.w<|bl.map Bt.nm]=pgW (.tl<|(bxV bx).map bqW) (bl.map<|b23<|bl.map Bt.nm):=by unfold pgW;rw[HG];rfl
 have m1:=Gx.g.l1;have m2:=Gx.l;have rp:=λh:↑Ob=>xz (h:=h) Gx.g;rw[eP]at rp;obtain⟨SW,hS⟩:∃SW,SW=W.cl (ns.map W.int):=(_,rfl)
 rw[<-hS]at ht yo;rw[<-hS];simp!;refine aJ (ht hh) λw h1 qq_=>?_;let(ew,_):=qq_;subst ew;simp!;refine aJ (rp _) λw h2 qq_=>?_;let(ew,_):=qq_;subst ew;generalize W.tl ((bxV bx).map bqW)=XW at*;generalize bl.map (b23<|bl.map Bt.nm)=bs at*;obtain⟨n,hn⟩:∃n,⇑bl=n+1:=(⇑bl-1,∅)
 rw[hn]at lb hN m2;have n6:n<6:=∅;have h6:∀b∈bs,⇑b.e.tos<=6:=λb hb=>(gb b hb).six;have hp:ixW (pgW XW bs) (.int 1)=pr (.tl<|bs.map B23.w):=ix1 ..;have eB:OT [.tl<|bs.map B23.w]=pr (.int N):=by rw[lenW_tl,Hb,lb,hN]
 have lw:⇑(Sn<|NG bs)<=60:=by
  have h6':∀e∈NG bs,⇑e.tos<=6:=λe he=>by let(b,hb',rfl):=Hq.mp he;exact h6 b hb'
  have l2:⇑(NG bs)=⇑bs:=by unfold NG;rw[Hb]
  have:=gN (NG bs) h6' ⇑(NG bs)<|Hc _;rw[Hz]at this;omega
 have kw:=λ(h:↑Ob) (k:W->M W) (Q:W->↑Ob->Prop) (q:∀h' ,Nw h h'->Ok (k<|.tl<|(Sn<|NG bs).map Sm) h' Q)=>sP (h:=h) (k:=k) (Q:=Q) hp (.inl rfl) ∅ h6 q;simp!;refine kw _ _ _ λh3 N3=>?_;have yo':=λh=>yo h ((Sn<|NG bs).map Sm) (by rw[Hb];omega);rw[Hb]at yo';have cl:=qY ys ⇑(Sn<|NG bs);generalize Nq ys ⇑(Sn<|NG bs)=cs at*;have lg:=λh=>v7 (h:=h) hp (.inl rfl) ∅ h6 cl.symm;let(κ,pκ,hs,ρ,es,er):=Aa n6<|F0<|N5<|zsL (NG bs) cs;have pp:=λh=>vD (h:=h) (m:=n+1) hp (.inl rfl) lb ∅ ∅ h6 cl.symm hs;have oo:=λh:↑Ob=>vJ (h:=h) hN ∅ ∅;rw[show n+1-1=n from rfl]at oo;have lO:=λ(h:↑Ob) (o:↑Int) (jg:Nat) (gk:↑↑Key) (gw:↑W) (a:Option ↑Int) (f t u:Option W) eg GG nd l1 l2=>v5 (h:=h) (S:=SW) (jg:=jg) (gk:=gk) (gw:=gw) (o:=o) (a:=a) (f:=f) (t:=t) (u:=u) hp (.inl rfl) ∅ h6 cl.symm eg GG nd l1 l2;have bo:=λh=>BT (h:=h) (m:=n+1) hp (.inl rfl) lb ∅ ∅ h6 cl.symm;rw[IP]at bo;have rr:=λh (rs:↑(PKy×Int)) lr=>xy (h:=h) (rs:=rs) (m:=n+1) hp (.inl rfl) lb ∅ ∅ h6 cl.symm lr;rw[IP]at rr;have bb:=λh (rs:↑(PKy×Int)) lr ne=>zJ (h:=h) (rs:=rs) (cs:=cs) (m:=n+1) hp (.inl rfl) lb ∅ lr ne;have nO:∀o∈itr (n+1) n [[0]],o.Nodup/\1<=⇑o/\⇑o<=100:=λo ho=>by
  let(r,e,l):=iy _ _ _ ho;refine((zx n6 ho).1,?_,?_);rw[e,Hf];omega;rw[e,Hf];omega
 have fb:=mh (n:=n)<|N5<|zsL (NG bs) cs;let(ne,te):=Cy n6 (N5<|zsL (NG bs) cs) pκ;have rt:=sd n6 (G:=N5<|zsL (NG bs) cs) (F:=F0<|N5<|zsL (NG bs) cs) pκ;rw[HJ.mpr λk hk=>bN<|Int.le_of_eq<|tW n6 _<|(gy n6).2.mem_iff.mp hk]at rt;have lκ:1<=⇑κ/\⇑κ<=1000:=by
  have e1:=pκ.length_eq;have e2:=(my n6).1;have e3:1<=⇑(lpr n):=by unfold lpr;simp
  omega
 have nκ:=pκ.nodup_iff.mpr (gy n6).1;have sp:=xk es er lκ.1 lκ.2;have dp:=zr nκ;have e6:=EG n6 hN;have d6:=(tm n6).2;rw[<-pκ.length_eq]at d6;generalize ([0,1,4,12,32,80]:↑Int).getD n 0=D6 at*;have lr0:⇑(κ.map λk=>(k ,F0 (N5<|zsL (NG bs) cs) k))<=1000:=by rw[Hb];exact lκ.2
 have rr2:=λh=>rr h _ lr0;have bb2:=λh=>bb h _ lr0 ne;rw[te]at bb2;rw[rt]at rr2;have eb:neW (.tup<|(0::(tT (N5<|zsL (NG bs) cs) 0<|Sh n).2).map W.int) (.tup<|(0::(tT (N5<|zsL (NG bs) cs) 0<|Sh n).2).map W.int)=pr (.bl false):=by rw[neWT,bN rfl];rfl
 generalize 0::(tT (N5<|zsL (NG bs) cs) 0<|Sh n).2=B at*;have ec:eqW (.tl<|cs.map W.int) (.tl<|cs.map W.int)=pr (.bl true):=zj<|uv cs (n:=48);generalize F0 (N5<|zsL (NG bs) cs)=F at*;generalize N5 (zsL (NG bs) cs)=G at*;generalize pgW XW bs=PG at*;generalize W.tl (bs.map B23.w)=BW at*;generalize W.tl ((Sn<|NG bs).map Sm)=WW at*;generalize itr (n+1) n [[0]]=O at*;simp!;refine aJ (yo' _) λw h4 qq_=>?_;let(ew,_):=qq_;rw[ew];simp!;refine aJ (lg _) λw h5 qq_=>?_;let(jg,gk,gw,ew,D5,GG):=qq_;rw[ew];simp! only[aa,hp,eB];refine aJ (oo _) λw h6' qq_=>?_;let(ew,e6'):=qq_;rw[ew,e6'];simp! only[aa,cW];refine cz (I:=λi ρ h'=>∃f d ,ρ=[some SW,`PG,some<|.tl<|cs.map W.int,some<|.loc jg,some<|lsW cs.sum G<|FM (Qp G) none<|O.take i,some<|fsW<|FM (Qp G) none<|O.take i,f,d,none,none]/\Nw h5 h') (_,_,rfl,Nw.refl _) (λJ J J J=>trivial) (λi w ρ h7 hw I=>?_) λρ h7 I=>?_;let(f,d,rfl,N7):=I;rw[Hl]at hw;let(o,ho,rfl):=Hn.mp hw;let(n1,n2,n3):=nO o<|HH ho;refine([some SW,`PG,some<|.tl<|cs.map W.int,some<|.loc jg,some<|lsW cs.sum G<|FM (Qp G) none<|O.take i,some<|fsW<|FM (Qp G) none<|O.take i,some<|.tup<|o.map W.int,d,none,none],rfl,?_);refine (lO h7 o jg gk gw _ d none none (N7.get D5.new) GG n1 n2 n3).imp λy h8 qz=>?_;let((f,ey),N8):=qz;subst ey;exact(_,rfl,some<|.tup<|o.map W.int,f,by rw[aw ho,zT];rfl,N7.trans N8)
 .let(f,d,rfl,N7):=I;rw[Hb,Hz,fb];have ef:fsW `B=.tup (B.map W.int):=rfl;have el:lsW cs.sum G `B=.int (cs.sum-Qp G B):=rfl;rw[ef,el];simp! only[aa,cU];refine aJ (bo _) λw h8 qq_=>?_;let(ew,N8):=qq_;rw[ew];simp! only[aa,eb,cU];refine aJ (pp _) λw h9 qq_=>?_;let(ew,N9):=qq_;rw[ew];have gl:∀ {α:Type} (q:M α),gd (⇑((κ.map λk=>(k ,F k)).map rwW)<=sizeLine) q=q:=λq=>ag (by rw[Hb,Hb];exact sz ∅);simp! only[aa,cW,gl];refine dH (I:=λi l h'=>h'=h9/\l=(κ.take i).map kyW) (rfl,rfl) eZ (λJ J J J=>trivial) (λi w l h' hw I=>?_) λl h' I=>?_;let(rfl,rfl):=I;rw[Hl,Hl]at hw;let(r,hr,rfl):=Hn.mp hw;let(k,hk,rfl):=Hn.mp hr;refine(_,rfl,?_);simp! only[List.replicate,HK,HS,aa,Sf];refine ah (rfl,?_);rw[aw hk,Hh];rfl
  let(rfl,rfl):=I;rw[Hb,Hb,Hz];have eQ:OT [.tl<|κ.map kyW]=pr (.int<|1+D6):=by rw[lenW_tl,Hb,d6]
  have sr:RM (.tl<|κ.map kyW)=pr (κ.map kyW,λJ=>True):=rfl;obtain⟨KW,hK⟩:∃KW,KW=W.tl (κ.map kyW):=(_,rfl)
  rw[<-hK]at sp eQ sr;rw[<-hK];simp! only[aa,sp,hp,eB,e6,eQ,decide_true,Ic];have gk2:∀ {α:Type} (q:M α),gd (⇑(κ.map kyW)<=sizeLine) q=q:=λq=>ag (by rw[Hb];exact sz ∅);subst hK;simp! only[aa,gk2];refine dH (I:=λi l h2'=>h2'=h'/\l=(κ.take i).map λk=>.tup [kyW k,.bl true]) (rfl,rfl) eZ (λJ J J J=>trivial) (λi w l h2' hw I=>?_) λl h2' I=>?_;let(rfl,rfl):=I;rw[Hl]at hw;let(k,hk,rfl):=Hn.mp hw;refine(_,rfl,?_);simp! only[List.replicate,HK,HS,aa,Sf];refine ah (rfl,?_);rw[aw hk,Hh];rfl
  let(rfl,rfl):=I;rw[Hb,Hz];have ln:∀h,OS [.dn true κ<|κ.map λJ=>.bl true] h=.ok (.int<|1+D6) h:=λh=>by show Rs.ok (W.int ⇑κ) h=_;rw[d6]
  simp! only[aa,dp];refine bj (ln _) ?_;simp! only[aa,decide_true,Ic,cU];refine aJ (rr2 _) λw h10 qq_=>?_;let(ew,N10):=qq_;rw[ew];have nb:PD (.bl true) (.bl true)=pr (.bl false):=rfl;simp! only[aa,nb];refine aJ (bb2 _) λw h11 qq_=>?_;let(ew,e11):=qq_;rw[ew];simp! only[aa,decide_true];refine kw _ _ _ λh12 N12=>?_;simp!;refine aJ (yo' _) λw h13 qq_=>?_;let(ew,_):=qq_;rw[ew];simp! only[aa,ec];exact ah rfl
def OP (ns:↑Int)(hh:↑Ob):∃h',qQ [.cl<|ns.map W.int] hh=.ok (.bl true) h':=by let(w,h',e,rfl):=Bl ns hh;exact(h',e)
end
end Q
namespace L2
open PySem PySem.Spec PyProof.Rows
def ln1 {α:Type}:∀ {us:↑α},⇑us=1->∃a,us=[a]
 |[a],_=>(a,rfl)
def ln2 {α:Type}:∀ {us:↑α},⇑us=2->∃a b,us=[a,b]
 |[a,b],_=>(a,b,rfl)
def ln3 {α:Type}:∀ {us:↑α},⇑us=3->∃a b c,us=[a,b,c]
 |[a,b,c],_=>(a,b,c,rfl)
def ln4 {α:Type}:∀ {us:↑α},⇑us=4->∃a b c d,us=[a,b,c,d]
 |[a,b,c,d],_=>(a,b,c,d,rfl)
section
variable (K:Zf)(mg:Str->Option K5)(x:Str)(C:Lb)
def Dq (st:LI):Prop:=∃f fd,Fun K x x st f fd/\mg x=some (.ref f)
def Dqm (q:Str)(st:LI):Prop:=∃f fd,Fun K x q st f fd/\MK K C x f
def Gt (zs:↑Str):Prop:=∃a,mg x=some (.ref a)/\∀H,SqT K H a<|zs.map V.str
def Gi (i:Int):Prop:=∃t,mg x=some (.int i t)
def Gs (i:Str):Prop:=∃t,mg x=some (.str i t)
end
section
variable {K:Zf}{mg:Str->Option K5}{x q:Str}{st:LI}{C f:Lb}{k:Nat}{oc:K5}{od an:Option Lb}{osl:Array (Option K5)}{kV doc pm cdv ct:K5}{h:La}
def dq (X:K.In h)(G:h.Ns Lx mg)(a:K3 K Lx x=some (some<|.ref f))(l:K.lookup f=some (oc,od,.func<|fnOf x x (cZ st) (bM st) (ae st) .none kV doc pm an cdv ct,osl))(c:codeIn K cdv x=true)(k:K2 K (.ref f)=true):Dq K mg x st:=(_,_,ze l c k,K4 X G a)
def dqm (a:K0 K (.ref C) x=some (some<|.ref f))(i:PySem.W.isFn K (.ref f)=true)(l:K.lookup f=some (oc,od,.func<|fnOf x q (cZ st) (bM st) (ae st) .none kV doc pm an cdv ct,osl))(c:codeIn K cdv q=true)(k:K2 K (.ref f)=true):Dqm K x C q st:=(_,_,ze l c k,a,i,k)
def gi {i:Int}(X:K.In h)(G:h.Ns Lx mg)(a:K3 K Lx x=some (some<|.int i t)):Gi mg x i:=(_,K4 X G a)
def gs {i:Str}(X:K.In h)(G:h.Ns Lx mg)(a:K3 K Lx x=some (some<|.str i t)):Gs mg x i:=(_,K4 X G a)
def gn (X:K.In h)(G:h.Ns Lx mg)(a:K3 K Lx x=`none):mg x=none:=PySem.W.mg_none_of X G a
noncomputable def stx:↑K5->↑Str
 |.str z _::r=>z::stx r
 |_=>[]
theorem xc:∀ {us:↑K5},⇑(stx us)=⇑us->Vals ((stx us).map V.str) us|[],_=>.nil|.str z t::r,e=>.cons (_,rfl)<|xc<|Iv.inj e
def gt {zs:↑Str}{n:Nat}(X:K.In h)(G:h.Ns Lx mg)(a:K3 K Lx x=some (some<|.ref f))(l:K.lookup f=some (.type "tuple",od,.seq its n,osl))(e:zs=stx its.toList/\⇑(stx its.toList)=⇑its.toList/\⇑its.toList<=64):Gt K mg x zs:=by let(rfl,e,e2):=e;exact(f,K4 X G a,λH=>.inr (_,_,_,l,rfl,rfl,HA (by simpa using e2) (by unfold sizeLine;decide),xc e))
end
section
variable {P:K8}{w:K9}{K:Zf}{mg:Str->Option K5}{base:La}{x q:Str}{st:LI}{C f:Lb}{fd:L5}{k:Nat}{fn:↑W->M W}{g:MG->M Fl}
def okf (N:↑Str)(m:Nat)(F:Fun K x x st f fd)(Mf:mg x=some (.ref f))
  (hb:∀ (cdv:K5) (A:Lf) (outer:↑Env) (s:Ld) (H:Hp) (E:XK) ,Room k (A.deeper<|Ma x (ae st) ↥s f cdv)->(A.deeper<|Ma x (ae st) ↥s f cdv).units+1<Lg->(A.deeper<|Ma x (ae st) ↥s f cdv).units+64<Lg->N.Nodup->JSs (Nx CX0 P w K mg base N x (ae st) f cdv A outer s H E).nox E0 (bM st) g)
  (S:MH N (N.take m) (ae st))(hm:⇑(N.take m)=m)(hf:fn=QF N.length g)
  (hi:∀ (kV doc pm:K5) (an:Option Lb) (cdv ct:K5) (us:↑K5) ,⇑us=⇑(N.take m)->bindArgs (fnOf x x (cZ st) (bM st) (ae st) .none kV doc pm an cdv ct) (us,[])=pure ((N.take m).zip us)):
  CG P w K mg base (k+1) x f fd (N.take m) m fn:=
 (Cl (g:=g) F S rfl hm hf λcdv A outer s H E hr=>hb cdv A outer s H E hr (Ci hr) hr.units S.nd,F.binds hi,F.kp,Mf)
def okz (N:↑Str)(m:Nat)(F:Fun K x x st f fd)(Mf:mg x=some (.ref f))(h:∀ws h ,fn ws h=.bad)
 (hi:∀ (kV doc pm:K5) (an:Option Lb) (cdv ct:K5) (us:↑K5) ,⇑us=⇑(N.take m)->bindArgs (fnOf x x (cZ st) (bM st) (ae st) .none kV doc pm an cdv ct) (us,[])=pure ((N.take m).zip us)):
 CG P w K mg base k x f fd (N.take m) m fn:=(EQ h,F.binds hi,F.kp,Mf)
def okm (N:↑Str)(m:Nat)(F:Fun K x q st f fd)(Mf:MK K C x f)
  (hb:∀ (cdv:K5) (A:Lf) (outer:↑Env) (s:Ld) (H:Hp) (E:XK) ,Room k (A.deeper<|Ma q (ae st) ↥s f cdv)->(A.deeper<|Ma q (ae st) ↥s f cdv).units+1<Lg->(A.deeper<|Ma q (ae st) ↥s f cdv).units+64<Lg->N.Nodup->JSs (Nx CX0 P w K mg base N q (ae st) f cdv A outer s H E).nox E0 (bM st) g)
  (S:MH N (N.take m) (ae st))(hm:⇑(N.take m)=m)(hf:fn=QF N.length g)
  (hi:∀ (kV doc pm:K5) (an:Option Lb) (cdv ct:K5) (us:↑K5) ,⇑us=⇑(N.take m)->bindArgs (fnOf x q (cZ st) (bM st) (ae st) .none kV doc pm an cdv ct) (us,[])=pure ((N.take m).zip us)):
  CGm P w K mg base (k+1) C x f fd (N.take m) m fn:=
 (Cl (g:=g) F S rfl hm hf λcdv A outer s H E hr=>hb cdv A outer s H E hr (Ci hr) hr.units S.nd,F.binds hi,Mf)
end
section
variable {X:Cx}{E:XK}{p pos apos:LF}{zs:↑Str}{x:Str}
noncomputable def nst:Expr->Bool|.Starred ..=>false|_=>true
def Af (h:nst e=true):LH (e::es) env=(false ,LD e env)::LH es env:=by cases e<;>first|rfl|cases h
noncomputable def nsl:Expr->Bool|.Slice ..=>false|_=>true
def Fy (h:nsl b=true):kQ b:=by cases b<;>first|exact λJ J=>rfl|cases h
def G1 {fa fb:MG->M W}(h:nsl b=true)(hu:X.A.units+1<Lg)(ha:JE X E a fa)(hb:JE X E b fb):JE X E (.Subscript a b pos) (m2 ixW fa fb):=Gb hu ha hb<|Fy h
def Gc {fa fb:MG->M W}(h:nsl b=true)(hu:X.A.units+64<Lg)(ha:JE X E a fa)(hb:JE X E b fb):JE X E (.Subscript a b pos) (m2 Ox fa fb):=Em hu ha hb<|Fy h
def G5 {u:MG->M W}{l:MG->M ↑W}(h:nst e=true)(ha:JE X E e u)(hr:JA X E es l):JA X E (e::es) (O7 u l):=Bg ha hr<|Af h
def FX (h:es.all nst=true):(LG pos<|LH es env).any (·.1)=false:=by
 induction es with|nil=>exact DN|cons e r ih=>rw[Je,HD]at h;exact AN (Af h.1)<|ih h.2
def Cm (X:Cx)(E:XK)(op:CmpOp)(f:W->W->M W):Prop:=∃r,OpM X E r f/\OpR X (LK op) r
def GZ {f:W->W->M W}{fa fb:MG->M W}(h:Cm X E op f)(ha:JE X E a fa)(hb:JE X E b fb)(hm:LL op b=false):JT X E (.Compare a [op] [b] pos) (mB<|m2 f fa fb):=h.elim λJ h=>DU h.2 h.1 ha hb hm
def G4 {f:W->W->M W}{fa fb:MG->M W}(h:Cm X E op f)(ha:JE X E a fa)(hb:JE X E b fb)(hm:LL op b=false):JE X E (.Compare a [op] [b] pos) (m2 f fa fb):=h.elim λJ h=>Ep h.2 h.1 ha hb hm
def FZ {f g:W->W->M W}{fa fb fc:MG->M W}(h:Cm X E op f)(h':Cm X E op' g)(ha:JE X E a fa)(hb:JE X E b fb)(hc:JE X E c fc)(hm:lastMarks [op,op'] [b,c]=false):JT X E (.Compare a [op,op'] [b,c] pos) (mB<|aM f g fa fb fc):=h.elim λJ h=>h'.elim λJ h'=>yw h.2 h.1 h'.2 h'.1 ha hb hc hm
def Cr (X:Cx)(x:Str)(m:Nat)(f:↑W->M W):Prop:=∃k a d ps,CG X.prog X.w X.K X.mg X.base k x a d ps m f/\Room k X.A
def G3 {l:MG->M ↑W}{m:Nat}{f:↑W->M W}(h:Cr X x m f)(ha:JA X E0 (e::es) l)(hg:Gl X x)
  (hdb:(x==("__debug__":Str))=false)(he:(e::es).all nst=true):
  JE X E0 (.Call (.Name x p) (e::es) [] pos) (O5 (arW m f) l):=by
 let(_,_,_,_,h,hr):=h;rw[Je,HD]at he;exact Gj h hr ha hg hdb (Af he.1)<|FX he.2
def Cs (X:Cx)(c x:Str)(m:Nat)(f:↑W->M W):Prop:=∃C k a d ps,K3 X.K Lx c=some (some<|.ref C)/\Cls X.K C/\CGm X.prog X.w X.K X.mg X.base k C x a d ps m f/\Room k X.A
def G0 {c:Str}{fo:MG->M W}{l:MG->M ↑W}{m:Nat}{f:↑W->M W}(h:Cs X c x m f)(ho:JE X E0 o fo)(ha:JA X E0 (e::es) l)
  (hst:LH (e::es) X.env=(false ,LD e X.env)::LH es X.env)(hpl:(LG pos<|LH es X.env).any (·.1)=false)
  (ht:LD (.Call (.Attribute o x apos) (e::es) [] pos) X.env=(do
   let ov<-LD o X.env
   LM apos.atName
   let (f ,first)<-LN [ov] (L0 ov x pl)
   callWith pos f first (LG pos<|LH (e::es) X.env) (L3 pos<|L4 [] X.env))):
  JE X E0 (.Call (.Attribute o x apos) (e::es) [] pos) (Pa c x m f fo l):=by
 let(_,_,_,_,_,n,k,F,hr):=h;exact Ek n k F hr ho ha hst hpl ht
def F9 {c:Str}{fo:MG->M W}{m:Nat}{f:↑W->M W}(h:Cs X c x m f)(ho:JE X E0 o fo)
  (ht:LD (.Call (.Attribute o x apos) [] [] pos) X.env=(do
   let ov<-LD o X.env
   LM apos.atName
   let (f ,first)<-LN [ov] (L0 ov x pl)
   callWith pos f first (LG pos<|LH [] X.env) (L3 pos<|L4 [] X.env))):
  JE X E0 (.Call (.Attribute o x apos) [] [] pos) (Pa c x m f fo Pe):=by
 let(_,_,_,_,_,n,k,F,hr):=h;exact A9 n k F hr ho ht
def Fq (X:Cx)(c x:Str):Prop:=∃C,K3 X.K Lx c=some (some<|.ref C)/\Cls X.K C/\NoAttr X.K C x
def Gh {c:Str}{fo:MG->M W}(h:Fq X c x)(ho:JE X E o fo)(hb:L1 o x X.env (LD o X.env)=LD o X.env):JE X E (.Attribute o x pos) (m1 (NT c x) fo):=by let(_,n,k,a):=h;exact Eo n k a ho hb
def F5 {c:Str}{fo fv:MG->M W}(h:Fq X c x)(ho:JE X E o fo)(hv:JE X E value fv)(hs:swapsWith value (some<|.Attribute o x pos') pos.line X.env=pure false):JS X E (.Assign [.Attribute o x pos'] value pos) (QT c x fo fv):=by let(_,n,k,a):=h;exact DY n k a ho hv hs
def Tq (X:Cx)(tg:Expr)(t:W->MG->Option MG):Prop:=∃m gT,M1 X.K m gT t/\PG X tg gT
def F6 {src:MG->M Sr}{t:W->MG->Option MG}{g:MG->M Fl}(h:Tq X tg t)(hp:LQ (Li X.prog X.w) X.A X.env X.xe)(hc:X.calm=true)(hi:JI X E tg iter src)(hb:JSs X E body g)
  (hs:∀x ,LY iter X.env x=pure x):JS X E (.For tg iter body [] pos) (QU src t g):=by
 let(_,_,ht,hg):=h;exact DX hp hc hi hg ht hb hs
def GH (hu:X.A.units+64<Lg):Cm X E .Eq eqW:=(_,Dy hu,FK)
def GA (hu:X.A.units+64<Lg):Cm X E .NotEq neW:=(_,Dr hu,FD)
def GB:Cm X E .Lt ltW:=(_,Ds,FE)
def GC:Cm X E .LtE leW:=(_,Dt,FG)
def GE:Cm X E .Gt gtW:=(_,Dw,FI)
def GF:Cm X E .GtE geW:=(_,Dx,FJ)
def GD (hu:X.A.units+1<Lg):Cm X E .In inW:=(_,Dv,FH hu)
def Gz (hu:X.A.units+1<Lg):Cm X E .NotIn cH:=(_,vK,xU hu)
def EU:Cm X E .Is Os:=(_,AC,DE)
def BO:Cm X E .IsNot PD:=(_,xV,AF)
def Gg {i:Int}(hm:Gi X.mg x i)(hg:Gl X x:=by rfl)(hd:(x==("__debug__":Str))=false:=by decide):JE X E (.Name x pos) (mC<|.int i):=hm.elim λJ hm=>kH (w:=.int i) (v:=.int i) hg hm (_,rfl) (λo=>QI.mpr rfl) hd
def Ge {i:Str}(hm:Gs X.mg x i)(hg:Gl X x:=by rfl)(hd:(x==("__debug__":Str))=false:=by decide):JE X E (.Name x pos) (mC<|.str i):=hm.elim λJ hm=>kH (w:=.str i) (v:=.str i) hg hm (_,rfl) (λo=>QK.mpr rfl) hd
def Gd (h:Gt X.K X.mg x zs)(hg:Gl X x:=by rfl)(hd:(x==("__debug__":Str))=false:=by decide):JE X E (.Name x pos) (mC<|.tup<|zs.map W.str):=by let(a,hm,hq):=h;exact yG hm hq hg hd
end
section
variable (P:K8)(w:K9)(K:Zf)(mg:Str->Option K5)(base:La)(k:Nat)(C:Lb)(x:Str)(m:Nat)(fn:↑W->M W)
def Cq:Prop:=∃a d ps,CG P w K mg base k x a d ps m fn
def Cqm:Prop:=∃a d ps,CGm P w K mg base k C x a d ps m fn
end
section
variable {P:K8}{w:K9}{K:Zf}{mg:Str->Option K5}{base:La}{x q:Str}{st:LI}{C:Lb}{k:Nat}{fn:↑W->M W}{g:MG->M Fl}
def okq (N:↑Str)(m:Nat)(D:Dq K mg x st)(hb:∀ (f:Lb) (cdv:K5) (A:Lf) (outer:↑Env) (s:Ld) (H:Hp) (E:XK) ,Room k (A.deeper<|Ma x (ae st) ↥s f cdv)->(A.deeper<|Ma x (ae st) ↥s f cdv).units+1<Lg->(A.deeper<|Ma x (ae st) ↥s f cdv).units+64<Lg->N.Nodup->JSs (Nx CX0 P w K mg base N x (ae st) f cdv A outer s H E).nox E0 (bM st) g)
  (S:MH N (N.take m) (ae st):=by array_mem_dec)(hm:⇑(N.take m)=m:=by rfl)(hf:fn=QF N.length g:=by rfl)(hi:∀ (kV doc pm:K5) (an:Option Lb) (cdv ct:K5) (us:↑K5) ,⇑us=⇑(N.take m)->bindArgs (fnOf x x (cZ st) (bM st) (ae st) .none kV doc pm an cdv ct) (us,[])=pure ((N.take m).zip us):=by subst_eqs):Cq P w K mg base (k+1) x m fn:=by
 let(f,_,F,M):=D;exact(_,_,_,okf N m F M (hb f) S hm hf hi)
def PL (N:↑Str)(m:Nat)(D:Dqm K x C q st)(hb:∀ (f:Lb) (cdv:K5) (A:Lf) (outer:↑Env) (s:Ld) (H:Hp) (E:XK) ,Room k (A.deeper<|Ma q (ae st) ↥s f cdv)->(A.deeper<|Ma q (ae st) ↥s f cdv).units+1<Lg->(A.deeper<|Ma q (ae st) ↥s f cdv).units+64<Lg->N.Nodup->JSs (Nx CX0 P w K mg base N q (ae st) f cdv A outer s H E).nox E0 (bM st) g)
  (S:MH N (N.take m) (ae st):=by array_mem_dec)(hm:⇑(N.take m)=m:=by rfl)(hf:fn=QF N.length g:=by rfl)(hi:∀ (kV doc pm:K5) (an:Option Lb) (cdv ct:K5) (us:↑K5) ,⇑us=⇑(N.take m)->bindArgs (fnOf x q (cZ st) (bM st) (ae st) .none kV doc pm an cdv ct) (us,[])=pure ((N.take m).zip us):=by subst_eqs):Cqm P w K mg base (k+1) C x m fn:=by
 let(f,_,F,M):=D;exact(_,_,_,okm N m F M (hb f) S hm hf hi)
def okqz (N:↑Str)(m:Nat)(D:Dq K mg x st)(h:∀ws h ,fn ws h=.bad)(hi:∀ (kV doc pm:K5) (an:Option Lb) (cdv ct:K5) (us:↑K5) ,⇑us=⇑(N.take m)->bindArgs (fnOf x x (cZ st) (bM st) (ae st) .none kV doc pm an cdv ct) (us,[])=pure ((N.take m).zip us)):Cq P w K mg base k x m fn:=by let(_,_,F,M):=D;exact(_,_,_,okz N m F M h hi)
end
section
variable {X:Cx}{x c:Str}{C:Lb}{k m:Nat}{f:↑W->M W}{p pos:LF}
def cr (h:Cq X.prog X.w X.K X.mg X.base k x m f)(r:Room k X.A):Cr X x m f:=h.elim λa (d,ps,h)=>(k,a,d,ps,h,r)
def cs (h:Cqm X.prog X.w X.K X.mg X.base k C x m f)(n:K3 X.K Lx c=some (some<|.ref C))(l:Cls X.K C)(r:Room k X.A):Cs X c x m f:=h.elim λa (d,ps,h)=>(C,k,a,d,ps,n,l,h,r)
def F8 (h:Cqm X.prog X.w X.K X.mg X.base k C "__init__" m f)(hn:K3 X.K Lx c=some (some<|.ref C))(hk:makesIn X.K C=true)(kc:K2 X.K (.ref C)=true)(hm:X.mg c=some (.ref C))(hr:Room (k+1) X.A)(hg:Gl X c:=by rfl)(hdb:(c==("__debug__":Str))=false:=by decide):JE X E0 (.Call (.Name c p) [] [] pos) (O9 c m f Pe):=by let(_,_,_,h):=h;exact yE (hk,h.me.at_,h.me.fn,kc) hn h.ok h.bi hr hm hg hdb
end
section
variable {X:Cx}{E:XK}{e a b:Expr}{es:↑Expr}{s:LI}{ss:↑LI}{o:Option Expr}{op:Operator}{kw:↑L8}{c:Const}{x:Str}{pos:LF}{f:MG->M W}{u:MG->M Bool}{l:MG->M ↑W}{g:MG->M Fl}{r:MG->M Sr}{q:MG->M (Option Int)}
def gNm (h:JE X E (.Name x pos) f):JE X E (.Name x pos) f:=h
def gCo {j:Nat}(h:JE X E (.Constant c j pos) f):JE X E (.Constant c j pos) f:=h
def gCl (h:JE X E (.Call e es kw pos) f):JE X E (.Call e es kw pos) f:=h
def gBi (h:JE X E (.BinOp a op b pos) f):JE X E (.BinOp a op b pos) f:=h
def gSu (h:JE X E (.Subscript a b pos) f):JE X E (.Subscript a b pos) f:=h
def gJE (h:JE X E e f):JE X E e f:=h
def gJT (h:JT X E e u):JT X E e u:=h
def gJW (h:JW X E e u):JW X E e u:=h
def gJA (h:JA X E es l):JA X E es l:=h
def gJF (h:JF X E e l):JF X E e l:=h
def gJS (h:JS X E s g):JS X E s g:=h
def gJZ (h:JSs X E ss g):JSs X E ss g:=h
def gJI (h:JI X E a b r):JI X E a b r:=h
def gJO (h:JO X E o q):JO X E o q:=h
end
end L2
namespace L2
open PySem PySem.Spec
def Gp (K:Zf)(mg:Str->Option K5)(x:Str)(i:Int)(ks:↑Int):Prop:=∃c d,mg x=some (.ref c)/\(∀H ,SqT K H c [.ref d,.int i])/\∀H,SqT K H d<|ks.map V.int
def gp {K:Zf}{mg:Str->Option K5}{x:Str}{i j:Int}{n n2:Nat}(X:K.In h)(G:h.Ns Lx mg)(a:K3 K Lx x=some (some<|.ref f))(l:K.lookup f=some (.type "tuple",od,.seq #[.ref d,.int i t] n,sl))(l2:K.lookup d=some (.type "tuple",od2,.seq #[.int j t2] n2,sl2)):Gp K mg x i [j]:=
 (f,d,K4 X G a,λH=>.inr (_,_,_,l,rfl,rfl,by show 2<=sizeLine;decide,.cons rfl<|.cons (_,rfl) .nil),λH=>.inr (_,_,_,l2,rfl,rfl,by show 1<=sizeLine;decide,.cons (_,rfl) .nil))
section
variable {X:Cx}{E:XK}{pos:LF}{x:Str}
def Gf {i:Int}(h:Gp X.K X.mg x i ks)(hg:Gl X x:=by rfl)(hd:(x==("__debug__":Str))=false:=by decide):JE X E (.Name x pos) (mC<|OJ true (i ,ks)):=by let(c,d,hm,hq,hq2):=h;exact yH hm hq hq2 hg hd
def ES (hu:X.A.units+64<Lg):Cm X E .NotIn (Oe true):=(_,AD,AO hu)
end
end L2
namespace Q
open PySem L2 Wd
set_option hygiene false in
local macro_rules|`(tactic|and_intros)=>do
 let T (n:String)(b:List String):Lean.Term:=Lean.Syntax.mkApp (Lean.mkIdent n.toName) (b.toArray.map λb=>Lean.mkIdent b.toName);let F (s:String):Lean.MacroM (Lean.TSyntax `tactic):=do
  let a ← (s.splitOn " ").toArray.mapM λw=>match w.splitOn ":" with
   |"!"::n::b=>`(tacticSeq|exact $(T n b))
   |n::b=>`(tacticSeq|apply $(T n b))
   |_=>Lean.Macro.throwUnsupported
  `(tactic|first $[|$a]*)
 let x0 ← F "!:En !:Ec !:Gk !:Eg";let x1 ← F "!:Ew G5";let x2 ← F "!:AV yx AU";let x3 ← F "DW DV:hN F4 AW F5 yy:hu vV:hu6 F6 !:DZ";let x4 ← F "GZ DT FZ";let x5 ← F "yr AQ Ce DR";let x6 ← F "yC sH sJ El G3 v4 Bc yD A8 yB Bd A7 Ev Ea vY G0 F9 Be:hu Et Er Ba vZ:hu6 sG:hu6 yK Bb sF";let x7 ← F "yC sH sJ Eu Ej Bf Eb Ei Ee";let x8 ← F "G1 Gc Ed F7";let x9 ← F "yC sH sJ D9 G4 Es Ef yF Eh Ga Gh !:yI";let x10 ← F "D4 D7 A6";let x11 ← F "A4 D3 vX vW";let x12 ← F "A5 yA yz";let x13 ← F "AX !:AY";let x14 ← F "jU cn AZ !:im !:A1 !:Af:rfl !:FX:rfl !:hu !:hu6";let x15 ← F "!:GH:hu6 !:GA:hu6 !:GB !:GC !:GE !:GF !:GD:hu !:Gz:hu !:ES:hu6 !:EU !:BO";let x16 ← F "!:LQ.never !:LQ.leaving !:PyProof.Rows.boot_int !:PyProof.Rows.boot_bool !:Or.inl:rfl !:Or.inr:rfl"
 `(tactic|repeat' first
 |(apply gNm;first|exact D8 _|(apply Gg<;>first|assumption|rfl)|(apply Ge<;>first|assumption|rfl)|(apply Gd<;>first|assumption|rfl)|(apply Gf<;>first|assumption|rfl))
 |(apply gCo;$x0:tactic)
 |(apply gJA;$x1:tactic)
 |(apply gJZ;$x2:tactic)
 |(apply gJS;$x3:tactic)
 |(apply gJT;first|$x4:tactic|refine Ch (yr ?_ ?_)|refine Ch (Ce ?_ ?_)|apply DS)
 |(apply gJW;$x5:tactic)
 |(apply gCl;first|$x6:tactic|exact F8 (by assumption) (by assumption) (by assumption) (by assumption) (by assumption) (hr.mono ∅))
 |(apply gBi;$x7:tactic)
 |(apply gSu;$x8:tactic)
 |(apply gJE;first|$x9:tactic|exact yJ _)
 |(apply gJF;$x10:tactic)
 |(apply gJI;first|$x11:tactic|apply D0 _ _|apply A2 _ _|$x12:tactic)
 |(apply gJO;$x13:tactic)
 |$x14:tactic
 |assumption
 |exact eA _
 |rfl
 |$x15:tactic
 |exact cr (by assumption) (hr.mono ∅)
 |exact cs (by assumption) (by assumption) (by assumption) (hr.mono ∅)
 |exact⟨_,by assumption,by assumption,by assumption⟩
 |exact⟨99,_,dD 99 _ ↥_,bh hN rfl (by first|exact Or.inl rfl|exact Or.inr rfl)⟩
 |exact⟨99,_,jM 99 _ ↥_,by and_intros⟩
 |exact bh hN rfl (by first|exact Or.inl rfl|exact Or.inr rfl)
 |$x16:tactic
 |exact λ_=>rfl
 |exact⟨rfl,rfl,rfl,rfl⟩
 |with_unfolding_all rfl
 |decide)
set_option hygiene false in
local macro_rules | `(tactic| ac_rfl) => `(tactic| (intro _ _ _ _ _ _ _ hr hu hu6 hN; and_intros))
noncomputable def RE (K:Zf):Sp:=λvs H Q J=>∃ (a:Lb) (ns:↑Int),vs=[.ref a]/\SqL K H a (ns.map V.int)/\⇑ns<=63/\∀H',Q (.bl true) H'
theorem p9 {K:Zf}:∀ns:↑Int,Rvs K o (ns.map W.int) (ns.map V.int)|[]=>Rvs.nil|n::r=>Rvs.cons (QI.mpr rfl)<|p9 r
def OO {w:K9}{K:Zf}{mg:Str->Option K5}(C:CG P w K mg base 68 "law" f fd ["script"] 1 qQ):FnOk P w K mg base CX0 68 f fd ["script"] (RE K):=
 C.ok.imp λvs H Q E h=>by
  let(a,ns,rfl,sq,hn,q):=h;have nl:¬Lv (λJ=>0,[],H) a:=λ(k,b,hk,_)=>by simp at hk
  refine((λJ=>0,[],H),[.cl<|ns.map W.int],rfl,rfl,(λk b hk=>by simp at hk,λj k b c hj=>by simp at hj),Rvs.cons ?_ Rvs.nil,?_);unfold Rv;exact(a,_,rfl,sq.imp (λr=>(r,nl)) id,p9 ns);let(h',e):=OP ns [];show Ps _ _ _ (qQ [.cl<|ns.map W.int] []) Q;rw[e];intro p b _ _ _ rb;rw[QH.mp rb];exact q _
structure Fa (K:Zf)(mg:Str->Option K5)(CS CN c_Reading:Lb):Prop where
 n_Reading:K3 K Lx "Reading"=some (some<|.ref c_Reading)
 D_names_in:Dq K mg "names_in" rS
 D_name_of:Dq K mg "name_of" vo
 D_number_of:Dq K mg "number_of" p4
 D_condition_of:Dq K mg "condition_of" lf
 D_form_of:Dq K mg "form_of" nF
 D_boxes_named:Dq K mg "boxes_named" mU
 D_place_of:Dq K mg "place_of" rR
 D_end_by_places:Dq K mg "end_by_places" gD
 D_Reading___init__:Dqm K "__init__" c_Reading "Reading.__init__" iR
 D_Reading_in_block:Dqm K "in_block" c_Reading "Reading.in_block" iQ
 D_Reading_box_names:Dqm K "box_names" c_Reading "Reading.box_names" dW
 D_Reading_check_place:Dqm K "check_place" c_Reading "Reading.check_place" gI
 D_Reading_check_twice:Dqm K "check_twice" c_Reading "Reading.check_twice" gH
 D_Reading_check_room:Dqm K "check_room" c_Reading "Reading.check_room" gR
 D_Reading_check_boxes:Dqm K "check_boxes" c_Reading "Reading.check_boxes" gJ
 D_Reading_put_down:Dqm K "put_down" c_Reading "Reading.put_down" iP
 D_Reading_take:Dqm K "take" c_Reading "Reading.take" lj
 D_Reading_told_program:Dqm K "told_program" c_Reading "Reading.told_program" fV
 D_read:Dq K mg "read" C3
 D_sides_of:Dq K mg "sides_of" rQ
 D_ways:Dq K mg "ways" C1
 D_gains:Dq K mg "gains" Aj
 D_cost:Dq K mg "cost" xu
 D_block_sets:Dq K mg "block_sets" jc
 D_without:Dq K mg "without" nE
 D_best_tail:Dq K mg "best_tail" p8
 D_best:Dq K mg "best" C7
 D_pairs:Dq K mg "pairs" Ah
 D_least_number:Dq K mg "least_number" gQ
 D_paper:Dq K mg "paper" uf
 D_is_right:Dq K mg "is_right" iO
 D_bound_of:Dq K mg "bound_of" lh
 D_law_cell_at:Dq K mg "_law_cell_at" mS
 D_law_numbers:Dq K mg "_law_numbers" mQ
 D_law_names:Dq K mg "_law_names" p5
 D_law_word:Dq K mg "_law_word" rT
 D_law_statement:Dq K mg "_law_statement" ku
 D_law_end:Dq K mg "_law_end" vp
 D_law_text:Dq K mg "_law_text" rV
 D_law_orders:Dq K mg "_law_orders" ja
 D_law_gains:Dq K mg "_law_gains" p6
 D_law_cost:Dq K mg "_law_cost" rW
 D_law_counted:Dq K mg "_law_counted" mR
 D_law:Dq K mg "law" xr
 cl_Reading:Cls K c_Reading
 mk_Reading:makesIn K c_Reading=true
 kc_Reading:K2 K (.ref c_Reading)=true
 na_Reading_block_names:K0 K (.ref c_Reading) "block_names"=`none
 na_Reading_boxes:K0 K (.ref c_Reading) "boxes"=`none
 na_Reading_ended_blocks:K0 K (.ref c_Reading) "ended_blocks"=`none
 na_Reading_statements:K0 K (.ref c_Reading) "statements"=`none
 g_CONDITION_SIGNS:Gt K mg "CONDITION_SIGNS" ["<","="]
 g_STATEMENTS:Gt K mg "STATEMENTS" ["put","say","ask"]
 g_FIRST_PAIR:Gp K mg "FIRST_PAIR" 0 [0]
 h_MOST_BLOCKS:Gi mg "MOST_BLOCKS" 10
 h_MOST_BOXES:Gi mg "MOST_BOXES" 4
 h_MOST_IN_TABLE:Gi mg "MOST_IN_TABLE" 6
 h_MOST_ROWS:Gi mg "MOST_ROWS" 120
 h_MOST_STATEMENTS:Gi mg "MOST_STATEMENTS" 8
 aS:K3 K Lx "Signs"=some (some<|.ref CS)
 aN:K3 K Lx "NoRow"=some (some<|.ref CN)
 xN:PySem.W.excIn K CN Nc "ValueError.__new__"=true
 aL:Gs mg "LETTERS" "abcdefghijklmnopqrstuvwxyz"
 aF:Gs mg "FIGURES" "0123456789"
 aW:Gt K mg "TAKEN_WORDS" ["box","block","put","say","ask","go","if","else","table","stop"]
 n0:Gi mg "LONGEST_NAME" 8
 n1:Gi mg "LONGEST_NUMBER" 3
 n2:Gi mg "LONGEST_EXPRESSION" 60
 n3:Gi mg "DEEPEST_BRACKET" 5
 W_Sinit:Dqm K "__init__" CS "Signs.__init__" rY
 W_Sis_done:Dqm K "is_done" CS "Signs.is_done" rZ
 W_Sstands_one_of:Dqm K "stands_one_of" CS "Signs.stands_one_of" lq
 W_Stake_sign:Dqm K "take_sign" CS "Signs.take_sign" rX
 W_Srun_of:Dqm K "run_of" CS "Signs.run_of" Q6
 W_is_name:Dq K mg "is_name" kE
 W_is_number:Dq K mg "is_number" oH
 W_expression:Dq K mg "expression" QS
 W_read_terms:Dq K mg "read_terms" oG
 W_read_factors:Dq K mg "read_factors" jd
 W_read_factor:Dq K mg "read_factor" kF
 W_read_bracket:Dq K mg "read_bracket" gS
 wc:Cls K CS
 wmk:makesIn K CS=true
 wkc:K2 K (.ref CS)=true
 nW:K0 K (.ref CS) "word"=`none
 nP:K0 K (.ref CS) "place"=`none
 y_abs:mg "abs"=none
 y_all:mg "all"=none
 y_any:mg "any"=none
 y_dict:mg "dict"=none
 y_enumerate:mg "enumerate"=none
 y_int:mg "int"=none
 y_len:mg "len"=none
 y_list:mg "list"=none
 y_max:mg "max"=none
 y_range:mg "range"=none
 y_sorted:mg "sorted"=none
 y_str:mg "str"=none
 y_sum:mg "sum"=none
 y_tuple:mg "tuple"=none
 y_zip:mg "zip"=none
 m_Reading:mg "Reading"=some (.ref c_Reading)
structure Wf (P:K8)(w:K9)(K:Zf)(mg:Str->Option K5)(base:La):Prop where
 w1:Cq P w K mg base 1 "is_name" 1 kN
 w2:Cq P w K mg base 1 "is_number" 1 pz
 w3:Cq P w K mg base 28 "expression" 1 hU
section
variable {P:K8}{w:K9}{K:Zf}{mg:Str->Option K5}{base:La}{CS CN c_Reading:Lb}(S:Fa K mg CS CN c_Reading)(V:Wf P w K mg base)
include S V
theorem mG:∀n:Nat,Cq P w K mg base (1+n) "names_in" 1 (aX n)|0=>okqz (hi:=by subst_eqs) ["e"] 1 S.D_names_in λJ J=>rfl|n+1=>by have:=mG n;cases S;cases V;exact okq (k:=1+n) (g:=cP<|aX n) ["e"] 1 (by assumption) (by intro _ _ _ _ _ _ _ hr hu hu6 hN;have hr:Room (1+n) _:=hr;and_intros)
def oh:Cq P w K mg base 2 "name_of" 1 bU:=by cases S;cases V;exact okq (g:=iB) ["word"] 1 (by assumption) (by ac_rfl)
def rg:Cq P w K mg base 2 "number_of" 1 eU:=by cases S;cases V;exact okq (g:=eO) ["word"] 1 (by assumption) (by ac_rfl)
def mI:Cq P w K mg base 29 "condition_of" 1 du:=by have:=oh S V;cases S;cases V;exact okq (g:=dk) ["words","sign","left","right"] 1 (by assumption) (by ac_rfl)
def wI:Cq P w K mg base 30 "form_of" 1 iG:=by have:=rg S V;have:=oh S V;have:=mI S V;cases S;cases V;exact okq (g:=iD) ["row","words","head","many"] 1 (by assumption) (by ac_rfl;(have nd:((["word",".0"]:↑Str)++(["row","words","head","many"]:↑Str).map (hid ["word",".0"])).Nodup:=by decide+kernel);exact cI rfl (ls:=["word",".0"]) (.of<|ae nF) (by and_intros) (λJ J J J=>(bh (i:=0) nd rfl (Or.inl rfl)<|.inr rfl)) (dD 2 0 ↥_) (λJ J J J=>by and_intros) (λJ J J J=>by and_intros) trivial)
def mZ:Cq P w K mg base 64 "boxes_named" 1 aQ:=by have:=mG S V 62;cases S;cases V;exact okq (g:=ak) ["form"] 1 (by assumption) (by ac_rfl)
def tH:Cq P w K mg base 1 "place_of" 2 da:=by cases S;cases V;exact okq (g:=gf) ["name","block_names"] 2 (by assumption) (by ac_rfl)
def kB:Cq P w K mg base 2 "end_by_places" 2 bH:=by have:=tH S V;cases S;cases V;exact okq (g:=aP) ["end","block_names"] 2 (by assumption) (by ac_rfl;(have nd:((["name",".0"]:↑Str)++(["end","block_names"]:↑Str).map (hid ["name",".0"])).Nodup:=by decide+kernel);exact cI rfl (ls:=["name",".0"]) (.of<|ae gD) (by and_intros) (λJ J J J=>(bh (i:=0) nd rfl (Or.inl rfl)<|.inr rfl)) (dD 2 0 ↥_) (λJ J J J=>by and_intros) (λJ J J J=>by and_intros) trivial)
def iZ:Cqm P w K mg base 1 c_Reading "__init__" 1 cE:=by cases S;cases V;exact PL (g:=cD) ["self"] 1 (by assumption) (by ac_rfl)
def eG:Cqm P w K mg base 1 c_Reading "in_block" 1 bC:=by cases S;cases V;exact PL (g:=cC) ["self"] 1 (by assumption) (by ac_rfl)
def dX:Cqm P w K mg base 1 c_Reading "box_names" 1 bJ:=by cases S;cases V;exact PL (g:=ck) ["self"] 1 (by assumption) (by ac_rfl;(have nd:((["name","first",".0"]:↑Str)++(["self"]:↑Str).map (hid ["name","first",".0"])).Nodup:=by decide+kernel);exact cI rfl (ls:=["name","first",".0"]) (.of<|ae dW) (by and_intros) (λJ J J J=>(jU rfl<|cn (bh (i:=0) nd rfl (Or.inl rfl)<|.inr rfl)<|cn (bh (i:=1) nd rfl (Or.inl rfl)<|.inr rfl) im)) (jM 3 [0,1] ↥_) (λJ J J J=>by and_intros) (λJ J J J=>by and_intros) trivial)
def gL:Cqm P w K mg base 2 c_Reading "check_place" 2 av:=by have:=eG S V;cases S;cases V;exact PL (g:=aD) ["self","head"] 2 (by assumption) (by ac_rfl)
def gK:Cqm P w K mg base 2 c_Reading "check_twice" 2 au:=by have:=dX S V;cases S;cases V;exact PL (g:=aC) ["self","form"] 2 (by assumption) (by ac_rfl)
def hZ:Cqm P w K mg base 1 c_Reading "check_room" 2 az:=by cases S;cases V;exact PL (g:=aG) ["self","head"] 2 (by assumption) (by ac_rfl)
def gM:Cqm P w K mg base 65 c_Reading "check_boxes" 2 bw:=by have:=dX S V;have:=mZ S V;cases S;cases V;exact PL (g:=bW) ["self","form","known","name"] 2 (by assumption) (by ac_rfl)
def iY:Cqm P w K mg base 1 c_Reading "put_down" 2 ar:=by cases S;cases V;exact PL (g:=aA) ["self","form"] 2 (by assumption) (by ac_rfl)
def mJ:Cqm P w K mg base 66 c_Reading "take" 2 dz:=by have:=gL S V;have:=gK S V;have:=hZ S V;have:=gM S V;have:=iY S V;cases S;cases V;exact PL (g:=dl) ["self","form"] 2 (by assumption) (by ac_rfl)
def gz:Cqm P w K mg base 3 c_Reading "told_program" 1 bL:=by have:=eG S V;have:=kB S V;cases S;cases V;exact PL (g:=bK) ["self","blocks","name","statements","end"] 1 (by assumption) (by ac_rfl)
def EZ:Cq P w K mg base 67 "read" 1 j4:=by have:=mJ S V;have:=wI S V;have:=gz S V;have:=iZ S V;cases S;cases V;exact okq (g:=ph) ["text","rows","reading","row"] 1 (by assumption) (by ac_rfl)
def tE:Cq P w K mg base 1 "sides_of" 1 gv:=by cases S;cases V;exact okq (g:=gc) ["end"] 1 (by assumption) (by ac_rfl)
def tz:Cq P w K mg base 2 "ways" 1 gu:=by have:=tE S V;cases S;cases V;exact okq (g:=pf) ["program","told","place","block","side","behind"] 1 (by assumption) (by ac_rfl)
def kO:Cq P w K mg base 3 "gains" 2 eV:=by have:=tz S V;cases S;cases V;exact okq (g:=kK) ["program","counted","gained","way","count","end","neighbours"] 2 (by assumption) (by ac_rfl)
def E1:Cq P w K mg base 4 "cost" 3 mi:=by have:=kO S V;cases S;cases V;exact okq (g:=pj) ["program","order","counted","gained"] 3 (by assumption) (by ac_rfl;(have nd:((["neighbours",".0"]:↑Str)++(["program","order","counted","gained"]:↑Str).map (hid ["neighbours",".0"])).Nodup:=by decide+kernel);exact cI rfl (ls:=["neighbours",".0"]) (.of<|ae xu) (by and_intros) (λJ J J J=>(bh (i:=0) nd rfl (Or.inl rfl)<|.inr rfl)) (dD 2 0 ↥_) (λJ J J J=>by and_intros) (λJ J J J=>by and_intros) trivial)
def jE:Cq P w K mg base 1 "block_sets" 1 dy:=by cases S;cases V;exact okq (g:=dZ) ["many","told","place"] 1 (by assumption) (by ac_rfl;(have nd:((["blocks",".0"]:↑Str)++(["many","told","place"]:↑Str).map (hid ["blocks",".0"])).Nodup:=by decide+kernel);exact cI rfl (ls:=["blocks",".0"]) (.of<|ae jc) (by and_intros) (λJ J J J=>(bh (i:=0) nd rfl (Or.inl rfl)<|.inr rfl)) (dD 2 0 ↥_) (λJ J J J=>by and_intros) (λJ J J J=>by and_intros) trivial)
def og:Cq P w K mg base 1 "without" 2 d4:=by cases S;cases V;exact okq (g:=iA) ["blocks","place"] 2 (by assumption) (by ac_rfl;(have nd:((["block",".0"]:↑Str)++(["blocks","place"]:↑Str).map (hid ["block",".0"])).Nodup:=by decide+kernel);exact cI rfl (ls:=["block",".0"]) (.of<|ae nE) (by and_intros) (λJ J J J=>(bh (i:=0) nd rfl (Or.inl rfl)<|.inr rfl)) (dD 2 0 ↥_) (λJ J J J=>by and_intros) (λJ J J J=>by and_intros) trivial)
def rm:Cq P w K mg base 2 "best_tail" 4 eW:=by have:=og S V;cases S;cases V;exact okq (g:=eT) ["last","rest","gained","tails","found","place","tail","gain"] 4 (by assumption) (by ac_rfl)
def E2:Cq P w K mg base 4 "best" 2 mj:=by have:=kO S V;have:=jE S V;have:=rm S V;cases S;cases V;exact okq (g:=pq) ["program","counted","many","gained","tails","blocks","rest","last"] 2 (by assumption) (by ac_rfl)
def uZ:Cq P w K mg base 2 "pairs" 1 iF:=by have:=jE S V;cases S;cases V;exact okq (g:=kJ) ["many","told","blocks","last"] 1 (by assumption) (by ac_rfl)
def hW:Cq P w K mg base 2 "least_number" 4 br:=by have:=og S V;cases S;cases V;exact okq (g:=cx) ["blocks","last","numbers","gained","rest","lasts"] 4 (by assumption) (by ac_rfl;(have nd:((["place",".0"]:↑Str)++(["blocks","last","numbers","gained","rest","lasts"]:↑Str).map (hid ["place",".0"])).Nodup:=by decide+kernel);exact cI rfl (ls:=["place",".0"]) (.of<|ae gQ) (by and_intros) (λJ J J J=>(bh (i:=0) nd rfl (Or.inl rfl)<|.inr rfl)) (dD 2 0 ↥_) (λJ J J J=>by and_intros) (λJ J J J=>by and_intros) trivial)
def BQ:Cq P w K mg base 4 "paper" 2 jB:=by have:=kO S V;have:=uZ S V;have:=hW S V;cases S;cases V;exact okq (g:=kI) ["program","counted","gained","numbers","blocks","last"] 2 (by assumption) (by ac_rfl;(have nd:((["pair","number",".0"]:↑Str)++(["program","counted","gained","numbers","blocks","last"]:↑Str).map (hid ["pair","number",".0"])).Nodup:=by decide+kernel);exact cI rfl (ls:=["pair","number",".0"]) (.of<|ae uf) (by and_intros) (λJ J J J=>(jU rfl<|cn (bh (i:=0) nd rfl (Or.inl rfl)<|.inr rfl)<|cn (bh (i:=1) nd rfl (Or.inl rfl)<|.inr rfl) im)) (jM 3 [0,1] ↥_) (λJ J J J=>by and_intros) (λJ J J J=>by and_intros) trivial)
def tN:Cq P w K mg base 4 "is_right" 3 eE:=by have:=uZ S V;have:=kO S V;have:=hW S V;cases S;cases V;exact okq (g:=gq) ["program","counted","told","wanted","numbers","blocks","last","number","gained"] 3 (by assumption) (by ac_rfl;(have nd:((["pair",".0"]:↑Str)++(["program","counted","told","wanted","numbers","blocks","last","number","gained"]:↑Str).map (hid ["pair",".0"])).Nodup:=by decide+kernel);exact cI rfl (ls:=["pair",".0"]) (.of<|ae iO) (by and_intros) (λJ J J J=>(bh (i:=0) nd rfl (Or.inl rfl)<|.inr rfl)) (dD 2 0 ↥_) (λJ J J J=>by and_intros) (λJ J J J=>by and_intros) trivial;(have nd:((["blocks","last",".0"]:↑Str)++(["program","counted","told","wanted","numbers","blocks","last","number","gained"]:↑Str).map (hid ["blocks","last",".0"])).Nodup:=by decide+kernel);exact cI rfl (ls:=["blocks","last",".0"]) (.of<|ae iO) (by and_intros) (λJ J J J=>(jU rfl<|cn (bh (i:=0) nd rfl (Or.inl rfl)<|.inr rfl)<|cn (bh (i:=1) nd rfl (Or.inl rfl)<|.inr rfl) im)) (jM 3 [0,1] ↥_) (λJ J J J=>by and_intros) (λJ J J J=>by and_intros) trivial)
def tO:Cq P w K mg base 1 "bound_of" 3 eF:=by cases S;cases V;exact okq (g:=gr) ["program","counted","told","everything"] 3 (by assumption) (by ac_rfl;(have nd:((["blocks","last","number",".0"]:↑Str)++(["program","counted","told","everything"]:↑Str).map (hid ["blocks","last","number",".0"])).Nodup:=by decide+kernel);exact cI rfl (ls:=["blocks","last","number",".0"]) (.of<|ae lh) (by and_intros) (λJ J J J=>(jU rfl<|cn (bh (i:=0) nd rfl (Or.inl rfl)<|.inr rfl)<|cn (bh (i:=1) nd rfl (Or.inl rfl)<|.inr rfl)<|cn (bh (i:=2) nd rfl (Or.inl rfl)<|.inr rfl) im)) (jM 4 [0,1,2] ↥_) (λJ J J J=>by and_intros) (λJ J J J=>by and_intros) trivial)
def iL:Cq P w K mg base 1 "_law_cell_at" 2 bQ:=by cases S;cases V;exact okq (g:=dL) ["script","k"] 2 (by assumption) (by ac_rfl)
def iK:Cq P w K mg base 1 "_law_numbers" 2 bP:=by cases S;cases V;exact okq (g:=dI) ["cell","many","found","rest","k","one"] 2 (by assumption) (by ac_rfl)
def rh:Cq P w K mg base 1 "_law_names" 1 dO:=by cases S;cases V;exact okq (g:=eR) ["head","some","more"] 1 (by assumption) (by ac_rfl)
def mH:Cq P w K mg base 1 "_law_word" 1 cQ:=by cases S;cases V;exact okq (g:=gh) ["numbers","one","more","some"] 1 (by assumption) (by ac_rfl)
def kA:Cq P w K mg base 2 "_law_statement" 1 bG:=by have:=mH S V;cases S;cases V;exact okq (g:=cX) ["numbers","kind"] 1 (by assumption) (by ac_rfl)
def wH:Cq P w K mg base 2 "_law_end" 2 fH:=by have:=mH S V;cases S;cases V;exact okq (g:=iC) ["numbers","names","one","other","kind","word","sign","test"] 2 (by assumption) (by ac_rfl)
def tJ:Cq P w K mg base 3 "_law_text" 2 eC:=by have:=iK S V;have:=iL S V;have:=rh S V;have:=kA S V;have:=wH S V;cases S;cases V;exact okq (g:=gj) ["script","most","head","names","rows","k","numbers"] 2 (by assumption) (by ac_rfl)
def pK:Cq P w K mg base 1 "_law_orders" 1 dm:=by cases S;cases V;exact okq (g:=dY) ["many","found","k","wider","one"] 1 (by assumption) (by ac_rfl;(have nd:((["place",".0"]:↑Str)++(["many","found","k","wider","one"]:↑Str).map (hid ["place",".0"])).Nodup:=by decide+kernel);exact cI rfl (ls:=["place",".0"]) (.of<|ae ja) (by and_intros) (λJ J J J=>(bh (i:=0) nd rfl (Or.inl rfl)<|.inr rfl)) (dD 2 0 ↥_) (λJ J J J=>by and_intros) (λJ J J J=>by and_intros) trivial)
def rj:Cq P w K mg base 3 "_law_gains" 2 dP:=by have:=tz S V;cases S;cases V;exact okq (g:=eS) ["program","counted","gains_v","way","count"] 2 (by assumption) (by ac_rfl)
def tK:Cq P w K mg base 1 "_law_cost" 3 eD:=by cases S;cases V;exact okq (g:=gm) ["counted","gains_v","order","saved","k"] 3 (by assumption) (by ac_rfl)
def mY:Cq P w K mg base 2 "_law_counted" 3 cj:=by have:=iK S V;have:=iL S V;cases S;cases V;exact okq (g:=dJ) ["script","at","some","numbers","found","k"] 3 (by assumption) (by ac_rfl)
end
def all_mk {l:PySem.W.OpenLaw}{w:K9}{K:Zf}{h:La}{mg:Str->Option K5}{fa CS CN c_Reading:Lb}(X:K.In h)(G:h.Ns Lx mg)(hfa:mg "law"=some (.ref fa))(S:Fa K mg CS CN c_Reading):
  ∃fd:L5,(∀ (s:Ld) (v:K5) ,BindsTo s fd ([v],[]) [("script" ,v)])/\∀base:La,K.In base->base.Ns Lx mg->FnOk l.prog w K mg base CX0 68 fa fd ["script"] (RE K):=by
 let(_,d,FL,ML):=S.D_law;cases hfa.symm.trans ML;have T:Txt K mg CS CN:=(S.wc,S.nW,S.nP,K4 X G S.aS,K4 X G S.aN,S.xN,S.y_len,S.y_all,S.y_int,S.aL,S.aF,S.aW,S.n0,S.n1,S.n2,S.n3)
 let(_,_,F_Sinit,M_Sinit):=S.W_Sinit;have B_Sinit:=F_Sinit.binds (ps:=["self","word"]) λJ J J J J J us hl=>by let(_,_,rfl):=ln2 hl;rfl
 let(_,_,F_Sis_done,M_Sis_done):=S.W_Sis_done;have B_Sis_done:=F_Sis_done.binds (ps:=["self"]) λJ J J J J J us hl=>by let(_,rfl):=ln1 hl;rfl
 let(_,_,F_Sstands_one_of,M_Sstands_one_of):=S.W_Sstands_one_of;have B_Sstands_one_of:=F_Sstands_one_of.binds (ps:=["self","wanted"]) λJ J J J J J us hl=>by let(_,_,rfl):=ln2 hl;rfl
 let(_,_,F_Stake_sign,M_Stake_sign):=S.W_Stake_sign;have B_Stake_sign:=F_Stake_sign.binds (ps:=["self"]) λJ J J J J J us hl=>by let(_,rfl):=ln1 hl;rfl
 let(_,_,F_Srun_of,M_Srun_of):=S.W_Srun_of;have B_Srun_of:=F_Srun_of.binds (ps:=["self","wanted"]) λJ J J J J J us hl=>by let(_,_,rfl):=ln2 hl;rfl
 let(_,_,F_is_name,M_is_name):=S.W_is_name;have B_is_name:=F_is_name.binds (ps:=["word"]) λJ J J J J J us hl=>by let(_,rfl):=ln1 hl;rfl
 let(_,_,F_is_number,M_is_number):=S.W_is_number;have B_is_number:=F_is_number.binds (ps:=["word"]) λJ J J J J J us hl=>by let(_,rfl):=ln1 hl;rfl
 let(_,_,F_expression,M_expression):=S.W_expression;have B_expression:=F_expression.binds (ps:=["word"]) λJ J J J J J us hl=>by let(_,rfl):=ln1 hl;rfl
 let(_,_,F_read_terms,M_read_terms):=S.W_read_terms;have B_read_terms:=F_read_terms.binds (ps:=["signs","depth"]) λJ J J J J J us hl=>by let(_,_,rfl):=ln2 hl;rfl
 let(_,_,F_read_factors,M_read_factors):=S.W_read_factors;have B_read_factors:=F_read_factors.binds (ps:=["signs","depth"]) λJ J J J J J us hl=>by let(_,_,rfl):=ln2 hl;rfl
 let(_,_,F_read_factor,M_read_factor):=S.W_read_factor;have B_read_factor:=F_read_factor.binds (ps:=["signs","depth"]) λJ J J J J J us hl=>by let(_,_,rfl):=ln2 hl;rfl
 let(_,_,F_read_bracket,M_read_bracket):=S.W_read_bracket;have B_read_bracket:=F_read_bracket.binds (ps:=["signs","depth"]) λJ J J J J J us hl=>by let(_,_,rfl):=ln2 hl;rfl
 let(oc,od,kV,doc,pm,an,cdv,ct,osl,ed,lk,hcd):=FL.ex;refine(d,λs v=>by rw[ed];exact .of_eq rfl,λbase J J=>?_);have MD:CM l.prog w K mg base CX0 1 CS "is_done" _ _ ["self"] (oA CS):=(AL F_Sis_done T,B_Sis_done,M_Sis_done)
 have MS:CM l.prog w K mg base CX0 2 CS "stands_one_of" _ _ ["self","wanted"] (dM CS):=(vM F_Sstands_one_of T MD,B_Sstands_one_of,M_Sstands_one_of)
 have MT:CM l.prog w K mg base CX0 1 CS "take_sign" _ _ ["self"] (jO CS):=(AG F_Stake_sign T,B_Stake_sign,M_Stake_sign)
 have MR:CM l.prog w K mg base CX0 3 CS "run_of" _ _ ["self","wanted"] (RI CS):=(DI F_Srun_of T MS,B_Srun_of,M_Srun_of)
 have CNm:CF l.prog w K mg base CX0 1 "is_name" _ _ ["word"] kX:=(AI F_is_name T,B_is_name,F_is_name.kp,M_is_name)
 have CNu:CF l.prog w K mg base CX0 1 "is_number" _ _ ["word"] RH:=(DJ F_is_number T,B_is_number,F_is_number.kp,M_is_number)
 have RT:=uk T F_read_terms B_read_terms M_read_terms F_read_factors B_read_factors M_read_factors F_read_factor B_read_factor M_read_factor F_read_bracket B_read_bracket M_read_bracket MS MT MR CNm CNu 5 ↥_;have CE:CF l.prog w K mg base (CXx l.prog w) 28 "expression" _ _ ["word"] (rN CN):=(AK ↥_ F_expression T RT (S.wmk,M_Sinit.at_,M_Sinit.fn,S.wkc) (yd F_Sinit T) B_Sinit MD,B_expression,F_expression.kp,M_expression)
 have V:Wf l.prog w K mg base:=((_,_,_,wE CNm),(_,_,_,zy CNu),(_,_,_,BP CE))
 clear T MD MS MT MR CNm CNu RT CE;have:=EZ S V;have:=tJ S V;have:=mY S V;have:=tz S V;have:=rj S V;have:=pK S V;have:=tK S V;have:=E1 S V;have:=E2 S V;have:=BQ S V;have:=tN S V;have:=tO S V;cases S;cases V;exact OO (okf (S:=by array_mem_dec) (hm:=by rfl) (hf:=by rfl) (hi:=by subst_eqs) (g:=uP) ["script","program","counted","gains_v","least","first","order","due","told","pairs_v"] 1 FL ML<|by intro _ _ _ _ _ _ hr hu hu6 hN;and_intros;(have nd:((["blocks","last","number",".0"]:↑Str)++(["script","program","counted","gains_v","least","first","order","due","told","pairs_v"]:↑Str).map (hid ["blocks","last","number",".0"])).Nodup:=by decide+kernel);exact cI rfl (ls:=["blocks","last","number",".0"]) (.of<|ae xr) (by and_intros) (λJ J J J=>(jU rfl<|cn (bh (i:=0) nd rfl (Or.inl rfl)<|.inr rfl)<|cn (bh (i:=1) nd rfl (Or.inl rfl)<|.inr rfl)<|cn (bh (i:=2) nd rfl (Or.inl rfl)<|.inr rfl) im)) (jM 4 [0,1,2] ↥_) (λJ J J J=>by and_intros) (λJ J J J=>by and_intros) trivial;(have nd:((["pair",".0"]:↑Str)++(["script","program","counted","gains_v","least","first","order","due","told","pairs_v"]:↑Str).map (hid ["pair",".0"])).Nodup:=by decide+kernel);exact cI rfl (ls:=["pair",".0"]) (.of<|ae xr) (by and_intros) (λJ J J J=>(bh (i:=0) nd rfl (Or.inl rfl)<|.inr rfl)) (dD 2 0 ↥_) (λJ J J J=>by and_intros) (λJ J J J=>by and_intros) trivial)
def walk {l:PySem.W.OpenLaw}{q:K8}{loose:↑Str}{XP:(Str->Option K5)->La->Prop}{YP:K9->La->Prop}{d:DefRec}{K:Params->Zf}(hn:l.most=some 63)(hdf:d.params.defaults=[])
  (hY:∀ (w:K9) (h:La) ,YP w h->(K w.params).In h)
  (F:∀ (w:K9) (mg:Str->Option K5) (fa:Lb) (h:La) ,(K w.params).In h->h.Ns Lx mg->mg d.name=some (.ref fa)->
    ∃fd:L5,(∀ (s:Ld) (u:K5) ,BindsTo s fd ([u],[]) [("script" ,u)])/\∀base:La,(K w.params).In base->base.Ns Lx mg->FnOk l.prog w (K w.params) mg base CX0 68 fa fd ["script"] (RE<|K w.params)):
  PySem.W.WalkO q loose XP YP l.row.toRowW d [] (λf vs=>PySem.call f vs):=
 L2.walk_of (n:=63) (k:=68) (x:="script") (CX:=λJ=>CX0) (sp:=λw=>RE<|K w.params) hn ↥_ hdf (rfl,↥_,↥_) hY F (λJ J a ns hl J hS=>(a,ns,rfl,hS,hl,λJ=>rfl)) λJ J J J J z=>z
def walk_x {loose:↑Str}{XP:(Str->Option K5)->La->Prop}{K:Params->Zf}{n t:Nat}{run:K5->↑K5->Sem K5}(e:∀P ,as=(K P).map (·.1))
  (W:PySem.W.WalkO q loose XP (λw h=>(K w.params).In h) r d kwd run):PySem.W.WalkX q loose XP (PySem.W.X.obsZ as) (PySem.W.X.valZ K n t) r d kwd run:=
 λw s₀ s₁ mg mb G y a o pm cd doc dV kV ho hd hcd hD hmg hg args vals bs L hpre hlay hrd hwl hlo=>
  W w s₀ s₁ mg mb G (PySem.W.InK.keeps w _ _ (PySem.W.X.z_facts e y).2.1 L.keeps) a o pm cd doc dV kV ho hd hcd hD hmg hg args vals bs hpre hlay hrd hwl hlo
end Q
structure PySem.W.Fast where(tw12657837596957883212 tw2233246243031545798 tw8885649209383944096 tw306085537314808411 tw12075678634640222343 tw10216588680683658688 tw6234710114452470455 tw10635651653520011791 tw6994087521874786016 tw4374255209224665818 tw2580741896689730549 tw1968454563981470620 tw8631747068515357420 tw11290209416084133179 tw8301621463980037230 tw11379515680943688904 tw1677730038804156918 tw11811009743603764196 tw7868676179944434147 tw3289324744614116443 tw15606433327334293592 tw8013762544053944034 tw15738476351846731479 tw9697961871683658904 tw9357741582954506542 tw10817539273201283491 tw17563306336464975253 tw2611447781586895655 tw5504896720268289201 tw5044476683659370323 tw16814403406273775782 tw3192629672489866113 tw13079689442493311565 tw7033596030187447964 tw11782468293668451674 tw13856638938837950946 tw13937501670447683368 tw730100492295479522 tw3132610911410470604 tw6801647927170920632 tw12384123289840985270 tw5584934316905560226 tw8540197830157317188 tw7917407997936046029 tw9268979696953477687 tw10219320843782331303 tw2750645852934942101 tw1766509621120178299 tw8818888294552785311 tw6780866499673245682 tw10170104136637118525 tw8389272098613302065 tw7640994479452226701 tw15252804423194087690 tw2346603293541388031 tw10965861165974336711 tw1859850701975869596 tw14384958735002118738 tw13983357149341991854 tw4939862627824727186 tw8450986655152524334 tw8207603031544714594 tw17167195832305386722 tw10269438370797018789 tw2267449719280451442 tw17570449947566295993 tw14390676533340096435 tw6367954765057951957 tw15012465099328410079 tw15050161679945338987 tw17549905184997728338 tw17416473626153913649 tw16845284423623840631 tw9514081772073679309 tw15222138475947402999 tw6615182650670834420 tw779481162387229100 tw16355251269018793642 tw5790324131483944905 tw7909790776559700393 tw16805346060518230371 tw5224377123684423182 tw789380986814409080 tw15294745210868166219 tw8375823537440265327 tw12325820867173739941 tw5370595210431776196 tw16135654316169024525 tw8579277033928134048 tw5110715444115153160 tw14767980175166003208 tw11599069949868824566 tw11144962401428597174 tw17846765614718417648 tw9982120386954739013 tw12050528013203846256 tw1607114289968031588 tw17493256774426270452 tw15860545830466904829 tw4733293758463697961 tw6377082230900312947 tw16655247556798458544 tw700101678633994879 tw1907818316158574592 tw1361616984454327778 tw13701230770503751757 tw7644409083644617567 tw10077948474406467727 tw15837267341316907275 tw13346460199048681728 tw16922742048126345579 tw6840735115531306540 tw17397330337788936507 tw11069003662133158514 tw11023260671105332181 tw15639251995899818006 tw8851227215811123865 tw6570350600412746998 tw363104103252175673 tw16686930867166126153 tw13871109081015982883 tw12614928643483750649 tw2338179737550718510 tw9048278758437301874 tw9505206964236212725 tw11280102512091063776 tw10254349583340799495 tw2152689293249299442 tw17596513003058331076 tw9238264044937816632 tw17630578964396499269 tw12286750359030942562 tw5839080424520711656 tw12521943519895344399 tw17352779720904060416 tw13349370441396650947 tw4734890721419517260 tw2064836891353344992 tw14845405818406188679 tw11149815213391720641 tw2970468683980952235 tw528376275784954855 tw14566111276302428275 tw6499132319392555278 tw15742554178119317397 tw682613342678457712 tw13933490161553942429 tw17530173051097110138 tw5113328889687887255 tw9690799333487160063 tw1750485378884651644 tw8152038991852079504 tw989019895329980643 tw1207134866801404851 tw15127594936210893865 tw6233670764137691715 tw7855781451674286943 tw8072224982316108699 tw16929573851846327713 tw2292941407966007338 tw17123031852841692097 tw9257467682900383622 tw18216029284512296956 tw10507181358466108809 tw3496266139254046778 tw1942530051385729341 tw12069530599298438280 tw4730879106538840379 tw4132512258056971614 tw13033242491746035574 tw1735103101013289461 tw5839438676056239173 tw15279646903778939138 tw17064225354779545620 tw15877531412884630770 tw2148025145693046474 tw16573803736057910415 tw15127319756433148734 tw7286050684308228340 tw7935335946317677919 tw4501270764762994043 tw15844702216074156620 tw17109003545499125386 tw353760417823505720 tw14037754932410506504 tw5069956511611515038 tw16883071192958515469 tw9482366207796298213 tw6960962915798770236 tw17065706054586156385 tw14368511135258346554 tw5085810158813019491 tw8670440649709389823 tw11308798866806506007 tw18125746024075049135 tw294491918067285754 tw10746637015402334394 tw9404954340020051645 tw9467123435796131847 tw8154681554939475151 tw15676307189485420612 tw119262324210328220 tw11328525904381323352 tw9616149784393451070 tw4429120595669544403 tw14575910006978369111 tw15668131739649700370 tw12235153864673734422 tw6313387457148692413 tw9955911795892993811 tw3552181501185220872 tw3197767833099829244 tw5182445940604582553 tw6007143299515614798 tw763965992632899649 tw5349512498072744859 tw17833601863742010422 tw2015795774175001025 tw10021188141432873926 tw9991362498303023571 tw14016037804242097959 tw2801739281320968520 tw9337109912782216276 tw6250520959316279959 tw10598167448415037627 tw7147564017733485350 tw7304621605733796643 tw9020495704674361839 tw7025430878921351169 tw15434532640604994699 tw12099149293796776712 tw6743010289083507178 tw2794591388861341656 tw10975319670971422799 tw6697289403156013821 tw6768533806928573456 tw1850262251413938354 tw15080173970228218622 tw3454120625805496246 tw6881384057112582507 tw17545254139613047422 tw11920011737883706961 tw13808404010964050901 tw14063367003921789692 tw2603332356477562020 tw4552100780962491976 tw1214475988999266340 tw8624290418953554877 tw13674289872477566768 tw16980435676798596924 tw18103777210038901540 tw8566701541603879846 tw9081240894000630995 tw11021261426980435834 tw13759043947262644331 tw10787316910528540505 tw6075838182005549320 tw15759242686521351762 tw15033899556858848186 tw6855283937399121383 tw6116332886790201175 tw7067678573007068623 tw10270485359756231927 tw13629203039116621955 tw10777697669165185630 tw7629242691136545940 tw7249078328414573773 tw16999309714921397820 tw14980458036189575738 tw5560848051230929992 tw13330095340735618428 tw15061611994098184421 tw9651067736789368549 tw8099700469275091269 tw2153671776481418183 tw8444073693242511308 tw11046576993615462713 tw13245879891047798672 tw836859790177212545 tw16308088219687582885 tw4777016396006080388 tw1756483561003285972 tw14939668372092889550 tw5434029814337364442 tw2418937380555646843 tw11617575050154255984 tw4302789965465546398 tw17743556958674130494 tw7330660111437455556 tw4314231748325836796 tw17157755703574746859 tw4621318371416894124 tw1988027568630557401 tw241227428944383157 tw8438717955334668202 tw183740834483959835 tw15046867930206392700 tw12108617433235281949 tw15194595705313857649 tw15638093150179653163 tw14412583017202212719 tw16207016307812131933 tw7564432636274750811 tw15555569511049695622 tw12225540770208189995 tw6397532974448039762 tw2976878075279645167 tw18418356047492740456 tw3443712983984253031 tw7747233103884660544 tw13838814476896176007 tw13729337283545084321 tw15337368392166603160 tw3356625956415796029 tw2034548205993357208 tw16985176868075186745 tw15113106012932347254 tw581022657545018399 tw1419786150907041110 tw7882165578001193734 tw12292169280017956129 tw2084091368051394058 tw9753812140899626396 tw10725307400713733249 tw8336680182831782506 tw17162716706587581076 tw7634418248833585065:True)
open PySem PySem.W PyProof.Rows
set_option maxRecDepth 100000 in
set_option maxHeartbeats 0 in
theorem PySem.Challenge.cw_blockfall_k46_whole_best_is_least_holds : PySem.Challenge.rw_blockfall_k46_whole_best_is_least.Holds := by
 w_on;o_law;z_head;(case hw=>w_witness2)
 k_fill
 refine Q.walk_x (λJ=>by kernel_rfl) (Q.walk (l:=PySem.Challenge.rw_blockfall_k46_whole_best_is_least) rfl rfl (λw h Y=>Y) ?F)
 case F=>
  intro w mg fa h KX G hmg;apply Q.all_mk KX G hmg;constructor
  all_goals try first|(apply L2.dq KX G<;>k_is)|(apply L2.dqm<;>k_is)|(apply L2.gi KX G;k_is)|(apply L2.gs KX G;k_is)|(apply L2.gn KX G;k_is)|(apply L2.gp KX G<;>k_is)|(apply L2.gt KX G<;>first|k_is|exact⟨rfl,rfl,by decide⟩)|(apply L2.Cls.mk<;>k_is)|(apply mg_of KX G;k_is)|k_is|k_exc|rfl|kernel_rfl|decide+kernel
#print axioms PySem.Challenge.cw_blockfall_k46_whole_best_is_least_holds
