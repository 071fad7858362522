import PyProof.Rows.All
import Wide.All
import OpenK.AllK
import Wide.FinOn
import Lean
import PyProof.EqAt
import PyProof.EqKinds
import PyProof.TupleCall
import PyProof.ZipIter
import PySem.Challenge.RW_blockfall_k30_whole_best_is_run
set_option linter.defProp false
set_option bootstrap.genMatcherCode false
set_option genSizeOf false
set_option genInjectivity false
set_option compiler.extract_closed false
set_option genSizeOfSpec false
set_option Elab.async false
set_option linter.all false
set_option maxRecDepth 100000
set_option maxHeartbeats 4000000
set_option tactic.hygienic false
noncomputable section
open PySem.W (kitOne fnOf codeIn mg_of)
open List renaming length_map->Fv,map_cons->Fz,length_cons->FA,getElem?_map->FB,mem_cons->FC,getElem?_eq_some_iff->FD,map_append->FF,getElem?_set_ne->FG,length_append->FH,size_toArray->FI,mem_of_getElem?->FK,Perm->FO,mem_cons_self->FQ,mem_singleton->FR,getElem?_eq_getElem->FS,not_mem_nil->FV,take_length->FW,mem_cons_of_mem->FX,mem_map->FY,append_assoc->FZ,getElem?_append_left->F2,length_set->F3,map_map->F4,append_nil->F5,cons_append->F8,nil_append->Ge,forIn_cons->Gf,mem_append->Gg,mem_append_right->Gh,nodup_cons->Gk,length_take->Gm,getElem?_cons_succ->Gn,map_congr_left->Go,length_zipWith->Gq,forIn_nil->Gr,sum_cons->Gx,getElem?_append_right->Gz,foldl_cons->GA,map_nil->GB,lookup_cons->GC,any_cons->GH,perm_append_comm->GI,getElem?_set_self->GJ,lookup->GL,length_nil->GM,find?_cons->GN,take_zero->GO,getD_eq_getElem?_getD->GP,tail_cons->GT,length_replicate->GW,all_cons->GX,replicate_succ->GY,any_eq_true->G1,mem_range->G8,flatten_cons->G9,nodup_nil->Ha,all_eq_true->Hb,drop_eq_getElem_cons->He,getElem?_of_mem->Hg,take_add_one->Hh,nodup_append->Hk,mem_filter->Hm,mem_append_left->Hn,length_drop->Hq,length_singleton->Hr,take_of_length_le->Hs,zipIdx_cons->Ht,eq_nil_of_length_eq_zero->Hu,any_map->Hv,zipWith->Hw,getElem?_zipWith->Hy,take_append_drop->Hz,getElem_mem->HA,flatMap_cons->HC,zip_cons_cons->HE,of_mem_zip->HG,zipIdx_nil->HJ,length_pos_iff->HM,drop_drop->HN,reverse_perm->HQ,mem_zipIdx_iff_getElem?->HR,map_eq_nil_iff->HV,zip_nil_right->HW,filterMap_cons->HY,any_eq_false->HZ,getElem?_replicate->H9,getElem?_take_of_lt->Ia,foldl->Ig,drop_set_of_lt->Ij,drop_length->Ik,drop_eq_nil_iff->Il,head?->Im,head?_drop->Io,head?_cons->Ip,tail_drop->Iq,perm_append_comm_assoc->Iw,flatMap_append->IA,length_range->IB,getElem?_eq_none->IC,range_succ->ID,getElem?_range->IF,filter_cons_of_pos->IH,mem_map_of_mem->II,mem_filterMap->IK,getElem?_toArray->IL,mem_of_mem_take->IQ,pairwise_cons->IR,zipIdx_append->IS,findIdx?_cons->IT,zipWith_cons_cons->IU,range_succ_eq_map->IV,filter_append->IW,foldl_append->IX,pairwise_map->IY,take_succ_cons->IZ,zipWith_map_right->I0,zipWith_self->Ja,eq_nil_or_concat->Jb,concat_eq_append->Jc
open Nat renaming le_refl->Fw,ne_of_lt->FJ,lt_of_lt_of_le->FT,zero_le->FU,le_trans->F1,le_add_right->F7,lt_of_le_of_lt->F9,le_succ->Gj,add_comm->Gy,lt_irrefl->GF,succ->GQ,ne_of_gt->GU,le_of_eq->GV,pow_le_pow_right->G4,add_assoc->G7,add_sub_cancel->Hi,add_left_comm->HD,lt_succ_self->HF,lt_trans->HH,succ_pos->HK,zero_add->HS,le_of_lt->HX,add_le_add_left->Ii,le_succ_of_le->Ir,lt_succ_of_lt->Iy,min_self->Iz,add_sub_cancel_left->IG
open PySem.Heap renaming get?_push_of_some->Fx,lt_size->Fy,get?_push_size->FM,SameBut->Ga,size_push->Gc,get?_update_ne->Hj,ExtBut->HI,get?_update_self->Ib,get?_update_other->Ic,size_update->Iu,get?_none_of_le->IJ
open Option renaming map_eq_some_iff->FE,isSome_map->GZ,getD_some->Hc,isSome_iff_exists->H0,getD_none->Ie,bind_eq_some_iff->IN
open Int renaming ofNat->FN,le_refl->GD,emod_nonneg->GR,toNat_natCast->G0,emod_lt_of_pos->G3,zero_add->G5,add_zero->G6,lt_of_le_of_lt->Jd
open Bool renaming false_ne_true->FP,and_eq_true->Gd,false_eq_true->Gu,eq_iff_iff->Gv,not_true->GE,false_and->Ho,true_and->HB,not_eq_true->HU,or_eq_false_iff->IM
open Array renaming length_toList->F6,getElem?_toList->Gb,toList_append->Gw,getElem?_eq_some_iff->Hd,toArray_toList->Hf,forIn_toList->Hl,getElem?_eq_getElem->HL,toList_reverse->HP,toList_push->Iv,getElem?_push->Ix,perm_iff_toList_perm->IP
open PySem.W renaming instObj->Je,findIn->Jf,emptyDict->Jg,keepIn->Jh,kia_one->Ji,nsIn->Jj,Frag->Zf
open PySem renaming Value->Jk,Builtin->Jl,hashInt->Jm,Program->Jn,World->Jo,Heap->Jp,Addr->Jq,intKind->Jr,Shared->Js,Obj->Jt,Around->Ju,cLine->Jv,wpAny->Jw,model->Jx,wpAny_bind->Jy,wpAny_specialOf->Jz,wpAny_call_entry->JB,wpAny_pure->JC,wpAny_rule->JD,wpAny_isInstance->JG,wpAny_holding->JH,wpAny_truthy_bool->JJ,wpAny_seqItems->JK,sysModules->JM,tupleKind->JN,mainGlobals->JP,bootBuiltins->JR,Scope->JU,eval->JX,Pos->JY,backTo->JZ,starEach->J1,Stmt->J2,wpAny_mono->J3,compareOp->J4,behindInMarks->J5,standAt->J6,holding->J7,wpAny_execs_nil->J8,assignEach->J9,PassesOwn->Ka,wpAny_passesOwn->Kb,pyNext->Kc,letOwnedTupleGo->Kd,rawInt->Ke,wpAny_pyIter_tuple->Kf,foldedSetIterable->Kg,binaryOp->Kh,getMethod->Ki,attributeBase->Kj,backToKw->Kk,keywordEach->Kl,FuncData->Km,codeAny_mono->Ko,wpAny_Call_Name_kw->Kq,Keyword->Kr,NameKind->Ks,wpAny_field->Ku,wpAny_newObj_type->Kv,sliceBounds->Kw,call_meets->Kx,atKey->Ky,tupleKind_room_in1->Kz,relabel->KA,numAt->KB,PyData->KC,wpAny_pyIter_enum->KD,IsPair->KE,wpAny_setField_rec->KF,wpAny_onRaise->KG,wpAny_updateSeq_pair->KH,wpAny_letGo->KI,argBest->KJ
open PyProof.Rows renaming AllBare->JV,envOfC->Kt
def gV {c:Prop}{_:Decidable c}(h:¬c){α:Sort _}{t e:α}:ite c t e=e:=if_neg h
def np {c:Prop}{_:Decidable c}(h:c){α:Sort _}{t e:α}:ite c t e=t:=if_pos h
def s0 {p:Prop}{_:Decidable p}(h:¬p):decide p=false:=decide_eq_false h
def CF {p:Prop}{_:Decidable p}(h:p):decide p=true:=decide_eq_true h
local macro_rules|`(⇑$x)=>`(($x).length)
local macro_rules|`(↑$x)=>`(List $x)
local macro_rules|`(($a,$b,*))=>if a.raw.getTrailingSize>0 then Lean.Macro.throwUnsupported else`(⟨$a,$b,*⟩)
local macro_rules|`(tactic|let $p:term:=$e)=>do
 let rec go:Nat->Lean.TSyntax `term->Lean.MacroM (Lean.TSyntax `rcasesPat)
 |0,_=>Lean.Macro.throwUnsupported
 |n+1,s=>match s with
  |`(($a,$b,*))=>do
   let l<-(#[a]++b.getElems).mapM λx=>do `(Lean.Parser.Tactic.rcasesPatLo|$(<-go n x):rcasesPat)
   `(rcasesPat|⟨$l,*⟩)
  |`(_)=>`(rcasesPat|_)
  |`($x:ident)=>`(rcasesPat|$x:ident)
  |_=>Lean.Macro.throwUnsupported
 `(tactic|obtain $(<-go 9 p):rcasesPat:=$e)
set_option hygiene false in
local macro_rules|`(tactic|trace_state)=>`(tactic|(first|exact Or.inl rfl|exact Or.inr (Or.inl rfl)|exact Or.inr (Or.inr rfl)))
set_option hygiene false in
local macro_rules|`(tactic|array_mem_dec)=>`(tactic|(exact⟨rfl,rfl,rfl,⋯,rfl,⋯,⋯⟩))
set_option hygiene false in
local macro_rules|`(tactic|subst_vars)=>`(tactic|(first|exact .inl rfl|exact .inr rfl|assumption))
set_option hygiene false in
local macro_rules|`(tactic|subst_eqs)=>`(tactic|(intro _ _ _ _ _ _ us hl;first|(obtain⟨_,rfl⟩:=ln1 hl;rfl)|(obtain⟨_,_,rfl⟩:=ln2 hl;rfl)|(obtain⟨_,_,_,rfl⟩:=ln3 hl;rfl)|(obtain⟨_,_,_,_,rfl⟩:=ln4 hl;rfl)|(obtain⟨_,_,_,_,_,rfl⟩:=ln5 hl;rfl)))
set_option hygiene false in
local macro_rules|`(⋯)=>`(by decide +kernel)|`(∅)=>`(by omega)|`(↥_)=>`(by decide)|`(⇑_)=>`(by simp)|`(⇑$x:num)=>`(mC (.int $x))|`(⇑$x:str)=>`(mC (.str $x))|`(↥$x:num)=>`(Oj $x)|`(↥$x:ident)=>`(($x).heap.objs.size)
set_option hygiene false in
local macro_rules|`(tactic|ac_nf)=>`(tactic|(obtain ⟨o,ρ,rfl,R,S,h⟩:=h;refine ⟨o,ρ,rfl,R,S,Ps.bd h λp x vx e1 R1 r1 h1=>?_⟩))
local macro_rules|`($n:name)=>if n.getName.isAtomic&&n.getName != `tactic&&n.raw.getHeadInfo matches .original .. then`(some $(Lean.mkIdent n.getName))else Lean.Macro.throwUnsupported
set_option hygiene false in
local macro_rules|`(tactic|obtain $p:rcasesPatMed:=$e:term)=>`(tactic|(refine Classical.byContradiction fun Zz=>?_;rcases $e:term with $p:rcasesPatMed<;>(refine Zz ?_;clear Zz)))
namespace L2
open PySem
abbrev PKy:=Int×↑Int
noncomputable def dP (b:Bool)(v u:Jk):↑Jk:=match b with
 |false=>[v,u]
 |true=>[u,v]
noncomputable def cR (ks:↑Int):Int:=reduceHash<|Jl.Tuple.tupleHashOf<|ks.map Jm
noncomputable def jc (b:Bool)(k:PKy):Int:=match b with|false=>reduceHash (Jl.Tuple.tupleHashOf [Jm k.1,cR k.2])|true=>reduceHash<|Jl.Tuple.tupleHashOf [cR k.2,Jm k.1]
section
variable {prog:Jn}{w:Jo}
def IsPk (prog:Jn)(w:Jo)(b:Bool)(h:Jp)(k:PKy)(a:Jq):Prop:=
 ∃o items n c v,h.get? a=`o/\o.cls=.type "tuple"/\o.data=.seq items n/\IsTupleKey (Jr prog w) h k.2 c/\Jk.isInt k.1 v=true/\items.toList=dP b v (.ref c)
def IsPk.typeIs {b:Bool}{s:Js}{k:PKy}{a:Jq}(x:IsPk prog w b s.heap k a):s.TypeIs (.ref a) "tuple":=let (o,_,_,_,_,ho,hc,_):=x;(o,ho,hc)
theorem IsPk.inj {b:Bool}(hx:IsPk prog w b h x a)(hy:IsPk prog w b h y a):x=y:=by
 let(o,items,n,c,v,ho,_,hd,hk,hv,hi):=hx;let(o',items',n',c',v',ho',_,hd',hk',hv',hi'):=hy;obtain rfl:o=o':=Option.some.inj<|ho.symm.trans ho';rw[hd]at hd';injection hd' with h1 _
 subst h1;rw[hi]at hi';have e:v=v'/\c=c':=by
  cases b with
  |false=>injection hi' with e1 e2;injection e2 with e2 _;injection e2 with e2;exact(e1,e2)
  |true=>injection hi' with e1 e2;injection e2 with e2 _;injection e1 with e1;exact(e2,e1)
 let(rfl,rfl):=e;exact Prod.ext (Jk.isInt_inj v _ _ hv hv')<|hk.inj hk'
theorem IsPk.keeps {b:Bool}{es ep}(x:IsPk prog w b h k a)(ho:h.get? d=`o)(hd:o.data=.dict es ep)(hs:Ga d h h'):IsPk prog w b h' k a:=by
 let(o',items,n,c,v,ho',hc,hd',hk,hv,hi):=x;have hne:a≠d:=by
  rintro rfl
  obtain rfl:o'=o:=Option.some.inj<|ho'.symm.trans ho;rw[hd]at hd';exact nomatch hd'
 exact(o',items,n,c,v,(hs.2 a hne).trans ho',hc,hd',hk.keeps ho hd hs,hv,hi)
variable {A:Ju}{E:Jk->Js->Prop}{s:Js}
def ig {b:Bool}{Q:Int->Js->Prop}(hu:A.units+1<Jv)(hk:IsPk prog w b s.heap k a)(h:Q (jc b k) {s with toks:=s.toks+(⇑k.2+3)}):
  Jw (Jx prog w) A (pyHash<|.ref a) Q E s:=by
 have hT:=hk.typeIs;let(o,items,n,c,v,ho,_,hd,hk,hv,hi):=hk;let(i,ks):=k;unfold pyHash
 first|unfold pyHashByItsType|skip
 first|refine Jy (wpAny_cRoomFor_or (.inr<|Nat.lt_of_succ_lt hu) ?_)|skip
 refine Jy<|Jz hT F.slot_tuple_hash.lookup ?_;show Jw _ _ (if (some (Jk.builtin "tuple.__hash__")==some Jk.none)=true then _ else _) Q E s;rw[gV<|by rw[beq_builtin_none];exact FP];refine Jy<|Jz hT F.slot_tuple_hash.lookup ?_;show Jw _ _ (callSpecialIfBoundUnlessNone? (.ref a) "__hash__" _>>=_) Q E s;refine Jy<|wpAny_callSpecialIfBoundUnlessNone?_slot hT F.slot_tuple_hash<|JB F.slot_tuple_hash hT F.entry_tuple_hash ?_<|F.args_tuple_hash_1 _;show Jw _ _ (Jl.Tuple.tupleItemsOf (.ref a)>>=_) _ _ s;refine Jy<|wpAny_tupleItemsOf ho hd ?_;refine Jy ?_;rw[<-Hl,hi];cases b with
 |false=>
  unfold dP;simp only[Gf,Gr];refine Jy<|Jy<|(Jr prog w).pyHash (k:=i) hv ?_;refine JC<|Jy<|Jy<|wpAny_pyHash_tuple (knd:=Jr prog w) hu hk ?_;refine JC<|JC ?_;show Jw _ _ (retInt<|Jl.Tuple.tupleHashOf [Jm i,cR ks]) _ _ _;refine wpAny_ret_mkInt ?_;show Jw _ _ (if (decide (-(2:Int)^63<=Jl.Tuple.tupleHashOf [Jm i,cR ks])&&decide (Jl.Tuple.tupleHashOf [Jm i,cR ks]<2^63))=true then _ else _) Q E _;unfold jc reduceHash at h;by_cases hr:(decide (-(2:Int)^63<=Jl.Tuple.tupleHashOf [Jm i,cR ks])&&decide (Jl.Tuple.tupleHashOf [Jm i,cR ks]<2^63))=true;rw[np hr];simp only at h;rw[np hr]at h;exact JC (by simpa [G7,Gy,HD] using h);rw[gV hr];simp only at h;rw[gV hr]at h;exact Jy (JD<|JC<|by simpa [G7,Gy,HD] using h)
 |true=>
  unfold dP;simp only[Gf,Gr];refine Jy<|Jy<|wpAny_pyHash_tuple (knd:=Jr prog w) hu hk ?_;refine JC<|Jy<|Jy<|(Jr prog w).pyHash (k:=i) hv ?_;refine JC<|JC ?_;show Jw _ _ (retInt<|Jl.Tuple.tupleHashOf [cR ks,Jm i]) _ _ _;refine wpAny_ret_mkInt ?_;show Jw _ _ (if (decide (-(2:Int)^63<=Jl.Tuple.tupleHashOf [cR ks,Jm i])&&decide (Jl.Tuple.tupleHashOf [cR ks,Jm i]<2^63))=true then _ else _) Q E _;unfold jc reduceHash at h;by_cases hr:(decide (-(2:Int)^63<=Jl.Tuple.tupleHashOf [cR ks,Jm i])&&decide (Jl.Tuple.tupleHashOf [cR ks,Jm i]<2^63))=true;rw[np hr];simp only at h;rw[np hr]at h;exact JC (by simpa [G7,Gy,HD] using h);rw[gV hr];simp only at h;rw[gV hr]at h;exact Jy (JD<|JC<|by simpa [G7,Gy,HD] using h)
def oZ {b:Bool}{P:Fin->Js->Prop}(hu:A.units<Jv)(hx:IsPk prog w b s.heap x a)(hy:IsPk prog w b s.heap y c)(h:P (.done<|.ret<|.bool<|decide<|x=y) s):
  Jw (Jx prog w) A (Jl.«tuple.__eq__» ([.ref a,.ref c],[])) P E s:=by
 have hTb:=hy.typeIs;let(oa,xs,na,ca,va,hoa,_,hda,hka,hva,hia):=hx;let(ob,ys,nb,cb,vb,hob,_,hdb,hkb,hvb,hib):=hy;let(i,ks):=x;let(j,ls):=y;show Jw _ _ (isInstance (.ref c) (.type "tuple")>>=_) _ _ s;refine Jy<|JG hTb isSubtype_tuple_tuple ?_;simp only[GE,Gu,if_false];refine Jy<|wpAny_tupleItemsOf hoa hda ?_;refine Jy<|wpAny_tupleItemsOf hob hdb ?_;refine Jy ?_;have hsz:(xs.size==ys.size)=true:=by
  have e1:xs.size=2:=by rw[<-F6,hia];cases b<;>rfl
  have e2:ys.size=2:=by rw[<-F6,hib];cases b<;>rfl
  rw[e1,e2];rfl
 have dd:decide ((i ,ks)=(j ,ls))=(decide (i=j)&&decide (ks=ls)):=by rw[Gv];simp
 rw[dd]at h;rw[hia,hib];have ki:∀ {A:Ju}{Q:Bool->Js->Prop},Q (decide<|i=j) s->Jw (Jx prog w) A (eqBool va vb) Q E s:=λ{A Q} q=>(Jr prog w).eqBool (a:=i) (b:=j) hva hvb q;have kt:∀ {Q:Bool->Js->Prop},Q (decide<|ks=ls) s->Jw (Jx prog w) A (eqBool (.ref ca)<|.ref cb) Q E s:=λ{Q} q=>wpAny_eqBool_tuple (knd:=Jr prog w) hu hka hkb q;generalize decide (i=j)=b1 at*;generalize decide (ks=ls)=b2 at*;cases b with
 |false=>
  unfold dP;simp only[HE,HW,Gf,Gr];refine Jy<|Jy<|ki ?_;cases b1 with
  |false=>exact Jy<|JC<|JC<|JC<|JC h
  |true=>
   refine JC<|Jy<|Jy<|kt ?_;cases b2 with
   |false=>exact Jy<|JC<|JC<|JC<|JC h
   |true=>
    refine JC<|JC<|JC ?_;show P (.done<|.ret<|.bool<|xs.size==ys.size) s;rw[hsz];exact h
 |true=>
  unfold dP;simp only[HE,HW,Gf,Gr];refine Jy<|Jy<|kt ?_;cases b2 with
  |false=>rw[Bool.and_false]at h;exact Jy<|JC<|JC<|JC<|JC h
  |true=>
   refine JC<|Jy<|Jy<|ki ?_;cases b1 with
   |false=>exact Jy<|JC<|JC<|JC<|JC h
   |true=>
    refine JC<|JC<|JC ?_;show P (.done<|.ret<|.bool<|xs.size==ys.size) s;rw[hsz];exact h
def ii {b:Bool}{Q:Bool->Js->Prop}(hu:A.units+1<Jv)(hx:IsPk prog w b s.heap x a)(hy:IsPk prog w b s.heap y c)(h:Q (decide<|x=y) s):
  Jw (Jx prog w) A (eqBool (.ref a)<|.ref c) Q E s:=by
 unfold eqBool
 try with_reducible refine JH ?_
 show Jw _ _ (if (Jk.ref a==Jk.ref c)=true then _ else _) Q E s;by_cases hab:(Jk.ref a==Jk.ref c)=true
 .rw[np hab];have e:a=c:=by have:=eq_of_beq hab;injection this
  subst e;obtain rfl:=hx.inj hy;exact Jy (JD<|JC<|by simpa using h)
 .rw[gV hab]
  exact Jy (wpAny_richCompare_same_room (op:=.Eq) hx.typeIs hy.typeIs F.slot_tuple_eq
   (JB F.slot_tuple_eq hx.typeIs F.entry_tuple_eq (oZ hu hx hy (_,rfl,(λe=>nomatch e),JJ h))<|F.args_tuple_eq_2 _ _) (Nat.lt_of_succ_lt hu))
def iK {b:Bool}{Q:Bool->Js->Prop}(hk:IsPk prog w b s.heap k a)(h:Q true s):Jw (Jx prog w) A (eqIsQuiet 8<|.ref a) Q E s:=by
 have hT:=hk.typeIs;let(o,items,n,c,v,ho,_,hd,hk,hv,hi):=hk;unfold eqIsQuiet;refine Jy<|Jz hT F.slot_tuple_eq.lookup ?_;show Jw _ _ (isInstance (.ref a) (.type "tuple")>>=_) _ _ s;refine Jy<|JG hT isSubtype_tuple_tuple ?_;simp only[GE,Gu,if_false];refine Jy<|JK ho hd ?_;refine Jy ?_;show Jw _ _ (forIn items _ _) _ _ s;rw[<-Hl,hi];have qv:eqIsQuiet 7 v=pure true:=eqIsQuiet_byValue _<|(Jr prog w).byValue _ _ hv;have hTc:=hk.typeIs;let(oc,ic,nc,hoc,_,hdc,hic):=hk;have qc:∀ {Q:Bool->Js->Prop},Q true s->Jw (Jx prog w) A (eqIsQuiet 7<|.ref c) Q E s:=by
  intro Q h;unfold eqIsQuiet;refine Jy<|Jz hTc F.slot_tuple_eq.lookup ?_;show Jw _ _ (isInstance (.ref c) (.type "tuple")>>=_) _ _ s;refine Jy<|JG hTc isSubtype_tuple_tuple ?_;simp only[GE,Gu,if_false];refine Jy<|JK hoc hdc ?_;refine Jy ?_;show Jw _ _ (forIn ic _ _) _ _ s;rw[<-Hl];refine wpAny_forIn_list _ (λrest r s'=>r.1=none/\s'=s/\∀v∈rest ,carriedByValue v=true) _ ?_ ?_ _ _ (rfl,rfl,hic.byValue)
  .rintro v rest r s' ⟨hr,rfl,hall⟩
   rw[eqIsQuiet_byValue _<|hall v FQ];refine Jy<|JC ?_;simp only[GE,Gu,if_false];exact JC (rfl,rfl,λu hu'=>hall u<|FX _ hu')
  .rintro⟨r1,r2⟩ s' ⟨hr,rfl,_⟩
   simp only at hr;subst hr;exact JC h
 cases b with
 |false=>
  unfold dP;simp only[Gf,Gr];refine Jy ?_;rw[qv];refine Jy<|JC ?_;simp only[GE,Gu,if_false];refine JC<|Jy<|Jy<|qc ?_;simp only[GE,Gu,if_false];exact JC<|JC<|JC h
 |true=>
  unfold dP;simp only[Gf,Gr];refine Jy<|Jy<|qc ?_;simp only[GE,Gu,if_false];refine JC<|Jy ?_;rw[qv];refine Jy<|JC ?_;simp only[GE,Gu,if_false];exact JC<|JC<|JC h
noncomputable def ja (prog:Jn)(w:Jo)(b:Bool):HeapKind prog w PKy where
 is:=IsPk prog w b
 hash:=jc b
 draws:=λk=>⇑k.2+3
 room:=λA=>A.units+1<Jv
 inj:=λhx hy=>hx.inj hy
 keeps:=λx ho hd hs=>x.keeps ho hd hs
 pyHash:=λhu hk h=>ig hu hk h
 eqBool:=λhu hx hy h=>ii hu hx hy h
 quiet:=λhk h=>iK hk h
end
end L2
namespace L2
open PySem PySem.Spec PyProof.Rows
abbrev Key:=Sum Int Str
noncomputable def MM:Key->Jk->Bool|.inl k,v=>Jk.isInt k v|.inr x,v=>Jk.isStrOf x v
noncomputable def keyH (w:Jo):Key->Int|.inl k=>Jm k|.inr x=>hashStr w x
def aW:∀ {k:Key}{v:Jk},MM k v=true->(∃i t ,k=Sum.inl i/\v=Jk.int i t)\/(∃x t ,k=Sum.inr x/\v=Jk.str x t)|.inl i,v,h=>by let(t,e):=Jk.isInt_shape (k:=i) (v:=v) h;exact .inl (i,t,rfl,e)|.inr x,v,h=>by let(t,e):=Jk.isStrOf_shape (x:=x) (v:=v) h;exact .inr (x,t,rfl,e)
def tH (i:Int)(t:Tok):MM (.inl i) (.int i t)=true:=by simp [MM,Jk.isInt]
def tE (x:Str)(t:Tok):MM (.inr x) (.str x t)=true:=by simp [MM,Jk.isStrOf]
def CI (a b:Int):decide ((Sum.inl a:Key)=Sum.inl b)=(a==b):=by
 by_cases e:a=b;subst e;simp;have h:¬(Sum.inl a:Key)=Sum.inl b:=λq=>e<|Sum.inl.inj q;rw[s0 h];exact (beq_eq_false_iff_ne.mpr e).symm
def CC (a b:Str):decide ((Sum.inr a:Key)=Sum.inr b)=decide (a=b):=by
 by_cases e:a=b;subst e;simp;have h:¬(Sum.inr a:Key)=Sum.inr b:=λq=>e<|Sum.inr.inj q;rw[s0 h,s0 e]
def CH (a:Int)(b:Str):decide ((Sum.inl a:Key)=Sum.inr b)=false:=s0 (λq=>nomatch q)
def CD (a:Str)(b:Int):decide ((Sum.inr a:Key)=Sum.inl b)=false:=s0 (λq=>nomatch q)
noncomputable def aS (prog:Jn)(w:Jo):PySem.KeyKind prog w Key where
 is:=MM
 hash:=keyH w
 inj:=λv a b ha hb=>by
  rcases aW ha with⟨i,t,rfl,rfl⟩|⟨x,t,rfl,rfl⟩
  .rcases aW hb with⟨j,u,rfl,e⟩|⟨y,u,rfl,e⟩
   injection e with e1 _;rw[e1]
   exact nomatch e
  .rcases aW hb with⟨j,u,rfl,e⟩|⟨y,u,rfl,e⟩
   exact nomatch e;injection e with e1 _;rw[e1]
 byValue:=λk v h=>by rcases aW h with⟨i,t,rfl,rfl⟩|⟨x,t,rfl,rfl⟩<;>rfl
 pyHash:=λhv h=>by
  rcases aW hv with⟨i,t,rfl,rfl⟩|⟨x,t,rfl,rfl⟩
  exact wpAny_pyHash_int h;exact wpAny_pyHash_str h
 eqBool:=λhu hv h=>by
  rcases aW hu with⟨i,t,rfl,rfl⟩|⟨x,t,rfl,rfl⟩
  .rcases aW hv with⟨j,u,rfl,rfl⟩|⟨y,u,rfl,rfl⟩
   rw[CI]at h;exact wpAny_eqBool_int h;rw[CH]at h;exact SeqAt.EqAt.int_str i t y u _ _ _ _ h
  .rcases aW hv with⟨j,u,rfl,rfl⟩|⟨y,u,rfl,rfl⟩
   rw[CD]at h;exact SeqAt.EqAt.str_int x t j u _ _ _ _ h;rw[CC]at h;exact wpAny_eqBool_str h
 «strs»:=λk x t v h=>by
  rcases aW h with⟨i,u,rfl,e⟩|⟨y,u,rfl,e⟩
  exact nomatch e
  .injection e with e1 _
   subst e1;cases v<;>rfl
def nE (prog:Jn)(w:Jo)(i:Int)(t:Tok):(aS prog w).is (.inl i) (.int i t)=true:=tH i t
def nD (prog:Jn)(w:Jo)(x:Str)(t:Tok):(aS prog w).is (.inr x) (.str x t)=true:=tE x t
section
set_option genInjectivity true in
inductive V where|non|bl (b:Bool)|int (i:Int)|str (x:Str)|byt (b:Array UInt8)|flt (b:UInt64)|ref (a:Jq)|ty (n:String)
 deriving DecidableEq
noncomputable def RelV:V->Jk->Prop|.non,u=>u=Jk.none|.bl b,u=>u=Jk.bool b|.int i,u=>∃t,u=Jk.int i t|.str x,u=>∃t,u=Jk.str x t|.byt b,u=>∃t,u=Jk.bytes b t|.flt b,u=>∃t,u=Jk.float b t|.ref a,u=>u=Jk.ref a|.ty n,u=>u=Jk.type n
abbrev Vals:↑V->↑Jk->Prop:=Paired RelV
theorem Vals.length (r:Vals xs us):⇑xs=⇑us:=Paired.length r
theorem Vals.get:∀ {xs:↑V}{us:↑Jk}{i:Nat}{x:V},Vals xs us->xs[i]?=`x->∃u,us[i]?=`u/\RelV x u|_,_,_,_,.nil,e=>by simp at e|_,_,0,_,.cons r _,e=>by simp at e;subst e;exact(_,rfl,r)|_,_,i+1,x,.cons _ t,e=>by let(u,h1,h2):=Vals.get (i:=i) (x:=x) t (by simpa using e);exact(u,by simpa using h1,h2)
theorem Vals.set (r:RelV x u):∀ {xs:↑V}{us:↑Jk} (i:Nat),Vals xs us->Vals (xs.set i x) (us.set i u)|_,_,_,.nil=>.nil|_,_,0,.cons _ t=>.cons r t|_,_,i+1,.cons q t=>.cons q<|Vals.set r i t
theorem Vals.append:∀ {xs ys:↑V}{us ws:↑Jk},Vals xs us->Vals ys ws->Vals (xs++ys) (us++ws)|_,_,_,_,.nil,s=>s|_,_,_,_,.cons r t,s=>.cons r<|Vals.append t s
theorem Vals.take:∀ {xs:↑V}{us:↑Jk} (n:Nat),Vals xs us->Vals (xs.take n) (us.take n)|_,_,0,_=>.nil|_,_,_+1,.nil=>.nil|_,_,n+1,.cons r t=>.cons r<|Vals.take n t
theorem Vals.drop:∀ {xs:↑V}{us:↑Jk} (n:Nat),Vals xs us->Vals (xs.drop n) (us.drop n)|_,_,0,r=>r|_,_,_+1,.nil=>.nil|_,_,n+1,.cons _ t=>Vals.drop n t
noncomputable def RelO:Option V->Option Jk->Prop|some v,some u=>RelV v u|none,none=>True|_,_=>False
def KV {κ:Type}:↑(κ×V)->↑(κ×Jk)->Prop:=Paired λ(p:κ×V) (q:κ×Jk)=>p.1=q.1/\RelV p.2 q.2
noncomputable def kV:Key->V|.inl i=>.int i|.inr x=>.str x
inductive HO where
 |lst (xs:↑V)
 |tup (xs:↑V)
 |dK (kvs:↑(Key×V))|dT (kvs:↑(↑Key×V))|dN (b:Bool)(xs:↑(PKy×Jq×V))(ep:Nat)
 |set (S:Int->Bool)(n:Nat)
 |ins (C dx:Jq)(fs:↑(Str×V))
 |own (x:Jq)
 |xd (fs:↑(Str×V))
 |met (f x:Jq)
 |rng (lo hi:Int)
 |frz (o:Jt)(u:HO)
 |tbl (ps:Array Jk)
 |ext (φ:Jp->Prop)
abbrev Hp:=Jq->Option HO
noncomputable def upd (H:Hp)(a:Jq)(o:HO):Hp:=λb=>if b=a then `o else H b
def aB :upd H a o a=`o:=by unfold upd;rw[np rfl]
def af (h:b≠a):upd H a o b=H b:=by unfold upd;rw[gV h]
def D7 {H:Hp}{a b:Jq}{o u:HO}(h:H a=`o)(h':H b=`u)(d:o≠u):a≠b:=by intro e;subst e;rw[h]at h';exact d<|Option.some.inj h'
def bG {H:Hp}{a b:Jq}{o:HO}(h:H a=`o)(h':H b=none):a≠b:=by intro e;subst e;rw[h]at h';cases h'
def IsTupD (h:Jp)(a:Jq)(its:Array Jk):Prop:=IsTup h a its/\∃o,h.get? a=`o/\o.dict=none
theorem IsTupD.new (h:Jp)(its:Array Jk):IsTupD (h.push {cls:=.type "tuple",data:=.seq its}) h.objs.size its:=(IsTup.new _ _,_,FM _ rfl,rfl)
section
variable (P:Jn)(w:Jo)
def ObjOk (H:Hp)(h:Jp)(a:Jq):HO->Prop
 |.lst xs=>⇑xs<=sizeLine/\∃ (its:↑Jk) (n:Nat),Vals xs its/\h.get? a=some {cls:=.type "list",data:=.seq its.toArray n}
 |.tup xs=>⇑xs<=sizeLine/\∃its:↑Jk,Vals xs its/\IsTupD h a its.toArray
 |.dK kvs=>⇑kvs<=sizeLine/\(a==JM)=false/\∃vs,KV kvs vs/\h.DictOf (aS P w) a vs
 |.dT kvs=>⇑kvs<=sizeLine/\(a==JM)=false/\∃xs:↑(↑Key×Jq×Jk),
  Paired (λ(p:↑Key×V) (q:↑Key×Jq×Jk)=>p.1=q.1/\H q.2.1=some (.tup<|p.1.map kV)/\RelV p.2 q.2.2) kvs xs/\
  ∃o es ep,h.get? a=`o/\o.ExactDict/\o.data=.dict es ep/\es.toList=xs.map (entryOfKey<|JN<|aS P w)/\(xs.map (·.1)).Nodup
 |.dN b xs ep=>⇑xs<=sizeLine/\(a==JM)=false/\∃ys:↑(PKy×Jq×Jk),Paired (λ(p:PKy×Jq×V) (q:PKy×Jq×Jk)=>p.1=q.1/\p.2.1=q.2.1/\RelV p.2.2 q.2.2) xs ys/\
  ∃o es,h.get? a=`o/\o.ExactDict/\o.data=.dict es ep/\es.toList=ys.map (λy=>((jc b y.1,.ref y.2.1,y.2.2):DictEntry))/\(ys.map (·.1)).Nodup
 |.set S n=>h.SetOf (Jr P w) a S n
 |.ins C dx fs=>H dx=some (.own a)/\⇑fs<=1000/\dx≠a/\h.get? a=some (Je C dx)/\
  ∃mA,h.Ns1 dx mA/\(∀f ,RelO (fs.lookup f)<|mA f)/\PySem.Within mA (fs.map (·.1))
 |.own _=>∃o,h.get? a=`o
 |.xd fs=>∃mA,h.Ns1 a mA/\∀f,RelO (fs.lookup f)<|mA f
 |.rng lo hi=>∃t u v,h.get? a=some {cls:=.type "range",data:=.fields #[.int lo t,.int hi u,.int 1 v]}
 |.frz o u=>h.get? a=`o/\ObjOk H h a u
 |.tbl ps=>h.get? a=some {cls:=.none,data:=.fields ps}
 |.met f x=>h.get? a=some (PySem.W.methodObj (.ref f)<|.ref x)
 |.ext φ=>φ h/\(∃o ,h.get? a=`o)/\∀h1 h2:Jp,φ h1->(∀o ,h1.get? a=`o->h2.get? a=`o)->φ h2
def HOk (H:Hp)(h:Jp):Prop:=∀a o,H a=`o->ObjOk P w H h a o
end
section
variable {P:Jn}{w:Jo}{H H':Hp}{h h':Jp}{a:Jq}{o:HO}
theorem ObjOk.lt (x:ObjOk P w H h a o):a<h.objs.size:=by
 cases o with|lst xs=>let(_,_,_,_,e):=x;exact Fy e|tup xs=>let(_,_,_,p):=x;exact p.1.lt|dK kvs=>let(_,_,_,_,o,_,_,e,_):=x;exact Fy e|dT kvs=>let(_,_,_,_,o,_,_,e,_):=x;exact Fy e|dN b xs ep=>let(_,_,_,_,o,_,e,_):=x;exact Fy e|set S n=>let(o,_,_,_,e,_):=x;exact Fy e|ins C dx fs=>let(_,_,_,e,_):=x;exact Fy e|own y=>let(_,e):=x;exact Fy e|xd fs=>let(_,(_,_,_,e,_),_):=x;exact Fy e|rng lo hi=>let(_,_,_,e):=x;exact Fy e|frz ob u=>let(e,_):=x;exact Fy e|tbl ps=>exact Fy (show h.get? a=some _ from x)|met f y=>exact Fy (show h.get? a=some _ from x)|ext φ=>let(_,(_,e),_):=x;exact Fy e
theorem Paired.mapP {α β:Type}{F G:α->β->Prop}:∀ {l₁:↑α}{l₂:↑β},Paired F l₁ l₂->(∀a b ,F a b->G a b)->Paired G l₁ l₂|_,_,.nil,_=>.nil|_,_,.cons r t,f=>.cons (f _ _ r)<|Paired.mapP t f
def ObjOk.stay (x:ObjOk P w H h a o)(k:∀b u ,(b=a\/H b=some (.own a))->h.get? b=`u->h'.get? b=`u)
  (ho:∀b ,H b=some (.own a)->H' b=some (.own a))(ht:∀b xs ,H b=some (.tup xs)->H' b=some (.tup xs)):ObjOk P w H' h' a o:=by
 induction o with
 |lst xs=>let(z,its,n,r,e):=x;exact(z,its,n,r,k _ _ (.inl rfl) e)
 |tup xs=>let(z,its,r,(ob,e,c),o2,e2,c2):=x;exact(z,its,r,(ob,k _ _ (.inl rfl) e,c),o2,k _ _ (.inl rfl) e2,c2)
 |dK kvs=>let(z,y,vs,r,ob,es,ep,e,c):=x;exact(z,y,vs,r,ob,es,ep,k _ _ (.inl rfl) e,c)
 |dT kvs=>
  let(z,y,xs,r,ob,es,ep,e,c):=x;exact(z,y,xs,Paired.mapP r λp q z=>(z.1,ht _ _ z.2.1,z.2.2),ob,es,ep,k _ _ (.inl rfl) e,c)
 |dN b xs ep=>let(z,y,ys,r,ob,es,e,c):=x;exact(z,y,ys,r,ob,es,k _ _ (.inl rfl) e,c)
 |set S n=>let(ob,es,ep,t,e,c):=x;exact(ob,es,ep,t,k _ _ (.inl rfl) e,c)
 |ins C dx fs=>
  let(d,z,ne,e,mA,(od,es,ep,e2,c),r):=x;exact(ho _ d,z,ne,k _ _ (.inl rfl) e,mA,(od,es,ep,k _ _ (.inr d) e2,c),r)
 |own y=>let(ob,e):=x;exact(ob,k _ _ (.inl rfl) e)
 |xd fs=>let(mA,(od,es,ep,e,c),r):=x;exact(mA,(od,es,ep,k _ _ (.inl rfl) e,c),r)
 |rng lo hi=>let(t,u,v,e):=x;exact(t,u,v,k _ _ (.inl rfl) e)
 |frz ob u ih=>let(e,q):=x;exact(k _ _ (.inl rfl) e,ih q)
 |tbl ps=>
  have e:h.get? a=some {cls:=.none,data:=.fields ps}:=x;show h'.get? a=some {cls:=.none,data:=.fields ps};exact k a _ (.inl rfl) e
 |met f y=>
  have e:h.get? a=some (PySem.W.methodObj (.ref f)<|.ref y):=x;show h'.get? a=some (PySem.W.methodObj (.ref f)<|.ref y);exact k a _ (.inl rfl) e
 |ext φ=>let(p,(o,e),st):=x;exact(st _ _ p λo q=>k _ _ (.inl rfl) q,(o,k _ _ (.inl rfl) e),st)
theorem HOk.lt (x:HOk P w H h)(e:H a=`o):a<h.objs.size:=(x a o e).lt
def HOk.fresh (x:HOk P w H h)(e:h.objs.size<=a):H a=none:=by
 cases q:H a with|none=>rfl|some u=>exact absurd (FT (x.lt q) e)<|GF _
def HOk.kept (x:HOk P w H h)(k:∀b u ,h.get? b=`u->h'.get? b=`u):HOk P w H h':=λa o e=>
 (x a o e).stay (λb u J q=>k b u q) (λJ q=>q) λJ J q=>q
def HOk.laid (x:HOk P w H h)(k:∀b u ,h.get? b=`u->h'.get? b=`u)(hp:h.objs.size<=a)(new:ObjOk P w (upd H a o) h' a o):HOk P w (upd H a o) h':=λb u e=>by
 have hn:=x.fresh hp;by_cases hb:b=a;subst hb;rw[aB]at e;cases e;exact new;rw[af hb]at e;exact (x b u e).stay (λc v J q=>k c v q) (λc q=>by rw[af<|bG q hn];exact q) λc xs q=>by rw[af<|bG q hn];exact q
end
def Rd (H:Hp)(a:Jq)(u:HO):Prop:=H a=`u\/ ∃o,H a=some (.frz o u)
def Rd.ok {w:Jo}(r:Rd H a u)(x:HOk P w H h):ObjOk P w H h a u:=by
 rcases r with r|⟨o,r⟩
 exact x a u r;let(_,q):=x a _ r;exact q
noncomputable def Mut:Option HO->Prop|some (.lst _)=>True|some (.dK _)=>True|some (.dT _)=>True|some (.dN _ _ _)=>True|some (.set _ _)=>True|some (.ins _ _ _)=>True|some (.ext _)=>True|_=>False
section
variable {P:Jn}{w:Jo}{H:Hp}{h h':Jp}{x e:Jq}{o':HO}
def HOk.write (ok:HOk P w H h)(mu:Mut (H x))(he:e=x\/H e=some (.own x))(k:∀b u ,b≠e->h.get? b=`u->h'.get? b=`u)(heo:∃u ,h'.get? e=`u)
  (new:ObjOk P w (upd H x o') h' x o'):HOk P w (upd H x o') h':=λb u q=>by
 have nown:∀c y,H c=some (.own y)->c≠x:=λc y r z=>by subst z;rw[r]at mu;exact mu
 have ntup:∀c xs,H c=some (.tup xs)->c≠x:=λc xs r z=>by subst z;rw[r]at mu;exact mu
 by_cases hb:b=x;subst hb;rw[aB]at q;cases q;exact new
 .rw[af hb]at q;by_cases hbe:b=e
  .have q':H b=some (.own x):=by
    rcases he with z|z
    exact absurd (hbe.trans z) hb;rw[hbe];exact z
   rw[q]at q';cases q';let(v,hv):=heo;exact(v,by rw[hbe];exact hv)
  .refine (ok b u q).stay (λc v hc r=>k c v ?_ r) (λc r=>by rw[af<|nown c b r];exact r) λc xs r=>by rw[af<|ntup c xs r];exact r
   rcases hc with rfl|hc
   exact hbe
   .rintro rfl
    rcases he with z|z
    exact nown c b hc z;rw[hc]at z;cases z;exact hb rfl
end
structure Un (fs ex:↑Jq)(H H':Hp)(h h':Jp):Prop where
 keep:∀b o,h.get? b=`o->H b=none->b ∉fs->b ∉ex->h'.get? b=`o
 slot:∀b o,h.get? b=`o->H b=none->b∈fs->b ∉ex->∃sl,h'.get? b=some {o with slots:=sl}
 free:∀b o,h.get? b=`o->H b=none->b ∉ex->H' b=none
 there:∀b o,h.get? b=`o->b ∉ex->∃o',h'.get? b=`o'
 tups:∀b xs,H b=some (.tup xs)->H' b=some (.tup xs)
 frzs:∀b o u,H b=some (.frz o u)->H' b=some (.frz o u)
 tbls:∀b ps,H b=some (.tbl ps)->∃more,H' b=some (.tbl<|ps++more)
section
variable {fs ex:↑Jq}{H H1:Hp}{h h1 h':Jp}{a x e:Jq}{o:HO}
def Un.any (u:Un fs ex H H1 h h1)(q:h.get? b=`ob)(n:H b=none)(hx:b ∉ex):∃sl,h1.get? b=some {ob with slots:=sl}:=by
 by_cases hb:b∈fs;exact u.slot b ob q n hb hx;exact(ob.slots,u.keep b ob q n hb hx)
def Un.kept (k:∀b u ,h.get? b=`u->h'.get? b=`u):Un fs ex H H h h':=
 (λb ob q J J J=>k b ob q,λb ob q J J J=>(ob.slots,k b ob q),λJ J J n J=>n,λb ob q J=>(ob,k b ob q),λJ J q=>q,λJ J J q=>q,λJ ps q=>(#[],by rw[q];simp))
def Un.refl:Un fs ex H H h h:=Un.kept λJ J q=>q
def Un.laid (k:∀b u ,h.get? b=`u->h'.get? b=`u)(hp:h.objs.size<=a)(hn:H a=none):Un fs ex H (upd H a o) h h' where
 keep:=λb u q J J J=>k b u q
 slot:=λb u q J J J=>(u.slots,k b u q)
 free:=λb u q n J=>by rw[af<|FJ<|FT (Fy q) hp];exact n
 there:=λb u q J=>(u,k b u q)
 tups:=λb xs q=>by rw[af<|bG q hn];exact q
 frzs:=λb u xs q=>by rw[af<|bG q hn];exact q
 tbls:=λb ps q=>(#[],by rw[af<|bG q hn,q];simp)
def Un.write (mu:Mut (H x))(he:e=x\/H e=some (.own x))(k:∀b u ,b≠e->h.get? b=`u->h'.get? b=`u)(heo:∃u ,h'.get? e=`u):Un fs ex H (upd H x o) h h':=by
 have hx:∀b,H b=none->b≠x:=λb n z=>by subst z;rw[n]at mu;exact mu
 have hb:∀b,H b=none->b≠e:=λb n z=>by
  subst z;rcases he with r|r
  exact hx b n r;rw[n]at r;cases r
 have hm:∀b u,H b=`u->¬Mut `u->b≠x:=λb u q nm z=>by subst z;rw[q]at mu;exact nm mu
 refine(λb u q n J J=>k b u (hb b n) q,λb u q n J J=>(u.slots,k b u (hb b n) q),λb u q n J=>by rw[af<|hx b n];exact n,λb u q J=>?_,
  λb xs q=>by rw[af<|hm b _ q λz=>z];exact q,λb u xs q=>by rw[af<|hm b _ q λz=>z];exact q,λb ps q=>(#[],by rw[af (hm b _ q λz=>z),q];simp))
 by_cases hbe:b=e;subst hbe;exact heo;exact(u,k b u hbe q)
end
noncomputable def trk (h:Jp)(H:Hp):↑Jq:=(List.range h.objs.size).filter λa=>(H a).isSome
noncomputable def Mq (h:Jp)(H:Hp):Jp:=PySem.W.hideAll h<|trk h H
def tX (h:Jp)(H:Hp):(Mq h H).objs.size=h.objs.size:=PySem.W.hideAll_size _ _
def wT (e:h.get? b=`o)(n:H b=none):(Mq h H).get? b=`o:=
 PySem.W.hideAll_get _ e λhm=>by have q:(H b).isSome=true:=(Hm.mp hm).2;rw[n]at q;simp at q
def yQ (e:(Mq h H).get? b=`o):h.get? b=`o/\H b=none:=by
 have e':h.get? b=`o:=PySem.W.of_hideAll (trk h H) e;refine(e',?_);cases q:H b with
 |none=>rfl
 |some x=>
  have hm:b∈trk h H:=Hm.mpr (G8.mpr<|Fy e',by simp [q]);have z:(Mq h H).get? b=none:=PySem.W.hideAll_none (trk h H) hm;rw[z]at e;cases e
noncomputable def zU (g h:Jp)(L:Jq):↑(Jq×Jt):=(List.range h.objs.size).filterMap λa=>if a=L\/(g.get? a).isSome=true then none else (h.get? a).map λo=>(a ,o)
noncomputable def rest (g h:Jp)(L d:Jq):↑(Jq×Jt):=(zU g h L).filter λp=>decide<|p.1≠d
end
section
structure Mod (K:Zf)(mg:Str->Option Jk)(base:Jp):Prop where
 kin:K.In base
 glob:base.Ns JP mg
 blt:∃mb,base.Ns builtinsNs mb/\∀x:Str,x≠"__name__"->mb x=JR x
 nolimit:base.NoLimit
structure Cx where
 prog:Jn
 w:Jo
 K:Zf
 mg:Str->Option Jk
 base:Jp
 A:Ju
 N:↑Str
 s₀:Js
 H₀:Hp
 env:Env
 outer:↑Env
 stack:↑Env
 ex:↑Jq
 fn:Str->Bool
 calm:Bool
 pn:↑(Jq×Jt)
 xe:Jk->Js->Prop
noncomputable def frs (l:↑Env):↑Jq:=l.filterMap (·.frame)
abbrev Cx.fs (X:Cx):↑Jq:=frs X.outer
def Vis (sc:JU)(x:Str):Prop:=sc.names.lookup x=some .local \/sc.names.lookup x=some .cell\/sc.names.lookup x=some .free
def Loc (sc:JU)(x:Str):Prop:=sc.names.lookup x=some .local \/sc.names.lookup x=some .cell
def Look (env:Env)(h:Jp)(m:Str->Option Jk)(x:Str)(u:Jk):Prop:=
 (env.kindOf x=some .local /\m x=`u)\/((env.kindOf x=some .cell\/env.kindOf x=some .free)/\∃c ,env.cells.lookup x=`c/\h.IsCell c `u)
structure Cx.Ok (X:Cx):Prop where
 mod:Mod X.K X.mg X.base
 kind:X.env.scope.kind=.function
 glob:X.env.globals=JP
 blt:X.env.builtins=builtinsNs
 above:↥X.s₀<=X.env.locals
 inj:∀x y c,X.env.cells.lookup x=`c->X.env.cells.lookup y=`c->x=y
 has:∀x,(X.env.kindOf x=some .cell\/X.env.kindOf x=some .free)->∃c,X.env.cells.lookup x=`c
 cab:∀x c,X.fn x=true->X.env.cells.lookup x=`c->↥X.s₀<=c
 hd:X.calm=true->X.A.handled=none
 frames:X.A.frames=some X.stack
 stk:X.stack=X.outer\/(X.stack=X.env::X.outer/\X.env.frame=some X.env.locals)
 exf:∀b∈X.ex,b≠X.env.locals/\∀x c,X.env.cells.lookup x=`c->c≠b
 bs:∀b o,X.base.get? b=`o->X.s₀.heap.get? b=`o/\X.H₀ b=none
 bsz:X.base.objs.size<=↥X.s₀
 noex:∀b o,X.base.get? b=`o->b ∉X.ex
 exfs:∀b∈X.ex,b ∉X.fs
 funs:X.s₀.heap.FunFrames X.base X.outer
 frf:∀b∈X.fs,X.H₀ b=none
structure Inv (X:Cx)(P4:↑(Jq×Jt))(σ:↑(Option V))(H:Hp)(s:Js):Prop where
 ok:X.Ok
 os:s.os=X.s₀.os
 bare:JV s.gens
 base:Un X.fs X.ex X.H₀ H X.s₀.heap s.heap
 loc:∃m,s.heap.Ns X.env.locals m/\∀ (i:Nat) (x:Str) (v:V),X.N[i]?=`x->σ[i]?=some `v->Vis X.env.scope x->∃u,RelV v u/\Look X.env s.heap m x u
 cell:∀x c,X.env.cells.lookup x=`c->∃v,s.heap.IsCell c v
 free:H X.env.locals=none
 freeC:∀x c,X.env.cells.lookup x=`c->H c=none
 pin:∀p∈X.pn++P4,s.heap.get? p.1=some p.2/\H p.1=none/\p.1≠X.env.locals/\p.1 ∉X.fs/\∀v,p.2.data≠.cell v
 hok:HOk X.prog X.w H s.heap
 len:⇑σ=X.N.length
section
variable {X:Cx}{P4:↑(Jq×Jt)}{σ:↑(Option V)}{H H':Hp}{s:Js}{h':Jp}
def Cx.Ok.nofr (ok:X.Ok)(e:X.base.get? b=`o):b ∉X.fs:=λhb=>by have:=(ok.funs.mem hb).1;rw[e]at this;cases this
theorem Inv.bs (I:Inv X P4 σ H s):∀b o,X.base.get? b=`o->s.heap.get? b=`o/\H b=none:=λb o e=>
 (I.base.keep b o (I.ok.bs b o e).1 (I.ok.bs b o e).2 (I.ok.nofr e)<|I.ok.noex b o e,I.base.free b o (I.ok.bs b o e).1 (I.ok.bs b o e).2<|I.ok.noex b o e)
def Inv.bk (I:Inv X P4 σ H s):∀b o,X.base.get? b=`o->s.heap.get? b=`o:=λb o e=>(I.bs b o e).1
theorem Inv.mod (I:Inv X P4 σ H s):Mod X.K X.mg X.base:=I.ok.mod
def Inv.kIn (I:Inv X P4 σ H s):X.K.In s.heap:=I.ok.mod.kin.keeps I.bk
def Inv.fr (I:Inv X P4 σ H s):∃m,Fr X.base X.env.locals s.heap m:=
 let (m,hn,_):=I.loc
 (m,hn,I.bk,F1 I.ok.bsz I.ok.above)
theorem Inv.lt (I:Inv X P4 σ H s):X.env.locals<↥s:=let (_,hn,_):=I.loc;hn.lt
def Inv.sz (I:Inv X P4 σ H s):↥X.s₀<=↥s:=F1 I.ok.above<|HX I.lt
def Inv.nofs (I:Inv X P4 σ H s)(h:↥s<=a):a ∉X.fs:=λhb=>by let(_,o,ho,_):=I.ok.funs.mem hb;exact absurd (FT (Fy ho)<|F1 I.sz h)<|GF _
def Inv.cne (I:Inv X P4 σ H s):∀x c,X.env.cells.lookup x=`c->c≠X.env.locals:=λx c e z=>by let(v,o,ho,hd):=I.cell x c e;let(m,(o',es,ep,ho',hd',_),_):=I.loc;rw[z,ho']at ho;cases ho;rw[hd']at hd;cases hd
theorem Inv.funs (I:Inv X P4 σ H s):s.heap.FunFrames X.base X.outer:=by
 have all:∀ (l:↑Env),(∀b∈frs l ,b∈X.fs)->X.s₀.heap.FunFrames X.base l->s.heap.FunFrames X.base l:=by
  intro l
  induction l with
  |nil=>intro _ _;trivial
  |cons env r ih=>
   intro hs hl;let(hk,(L,o,hf,hn,ho,hd),hr):=hl;have hL:L∈X.fs:=hs L (by unfold frs;rw[HY,hf];exact FQ);let(sl,e):=I.base.slot L o ho (I.ok.frf L hL) hL λz=>I.ok.exfs L z hL;exact(hk,(L,_,hf,hn,e,hd),ih (λb hb=>hs b<|by unfold frs;rw[HY,hf];exact FX _ hb) hr)
 exact all X.outer (λJ hb=>hb) I.ok.funs
theorem Inv.stack (I:Inv X P4 σ H s):s.heap.FunFrames X.base X.stack:=by
 rcases I.ok.stk with e|⟨e,hf⟩
 rw[e];exact I.funs;rw[e];let(m,hn,_):=I.loc;refine .cons (by rw[I.ok.kind];decide) hf hn ?_ I.funs;exact IJ<|F1 I.ok.bsz I.ok.above
def Inv.stkSub (I:Inv X P4 σ H s):∀b∈frs X.stack,b∈X.env.locals::X.fs:=λb hb=>by
 rcases I.ok.stk with e|⟨e,hf⟩
 rw[e]at hb;exact FX _ hb;rw[e]at hb;unfold frs at hb;rw[HY,hf]at hb;exact hb
def Inv.stkFree (I:Inv X P4 σ H s):∀b∈frs X.stack,H b=none:=λb hb=>by
 rcases FC.mp (I.stkSub b hb) with e|hb
 rw[e];exact I.free;let(_,o,ho,_):=I.ok.funs.mem hb;exact I.base.free b o ho (I.ok.frf b hb) λz=>I.ok.exfs b z hb
def Inv.step {g':Array GenState}{t':Nat}{d':Drawn}{ch:↑Jq}(I:Inv X P4 σ H s)
  (hch:∀b∈ch ,(b∈X.ex\/↥X.s₀<=b)/\b≠X.env.locals/\(∀x c ,X.env.cells.lookup x=`c->c≠b)/\∀p∈X.pn++P4,p.1≠b)
  (keep:∀b o ,b≠X.env.locals->b ∉X.fs->b ∉ch->s.heap.get? b=`o->H b=none->h'.get? b=`o)
  (slot:∀b o ,b≠X.env.locals->b∈X.fs->b ∉ch->s.heap.get? b=`o->H b=none->∃sl,h'.get? b=some {o with slots:=sl})(free:∀b o ,b ∉ch->s.heap.get? b=`o->H b=none->H' b=none)
  (there:∀b o ,b ∉ch->s.heap.get? b=`o->∃o',h'.get? b=`o')
  (tups:∀b xs ,H b=some (.tup xs)->H' b=some (.tup xs))(frzs:∀b o u ,H b=some (.frz o u)->H' b=some (.frz o u))(tbls:∀b ps ,H b=some (.tbl ps)->∃more,H' b=some (.tbl<|ps++more))
  (ns:∀m ,s.heap.Ns X.env.locals m->h'.Ns X.env.locals m)(hok:HOk X.prog X.w H' h')(hg:JV g'):
  Inv X P4 σ H' {s with heap:=h',gens:=g',drawn:=d',toks:=t'}:=by
 have neL:∀b o,X.s₀.heap.get? b=`o->b≠X.env.locals:=λb o e=>FJ<|FT (Fy e) I.ok.above;have neC:∀b o,X.s₀.heap.get? b=`o->b ∉X.ex->b ∉ch:=λb o e hx hb=>by
  rcases (hch b hb).1 with z|z
  exact hx z;exact absurd (FT (Fy e) z)<|GF _
 have cellK:∀x c,X.env.cells.lookup x=`c->∀v,s.heap.IsCell c v->h'.IsCell c v:=λx c e v (o,ho,hd)=>by
  have nch:c ∉ch:=λz=>(hch c z).2.2.1 x c e rfl;by_cases hc:c∈X.fs;let(sl,q):=slot c o (I.cne x c e) hc nch ho<|I.freeC x c e;exact(_,q,hd);exact(o,keep c o (I.cne x c e) hc nch ho<|I.freeC x c e,hd)
 refine(I.ok,I.os,hg,(λb o e n hb hx=>?_,λb o e n hb hx=>?_,λb o e n hx=>?_,λb o e hx=>?_,λb xs e=>tups b xs<|I.base.tups b xs e,λb o xs e=>frzs b o xs<|I.base.frzs b o xs e,λb ps e=>?_),?_,λx c e=>?_,?_,λx c e=>?_,λp hp=>?_,hok,I.len);exact keep b o (neL b o e) hb (neC b o e hx) (I.base.keep b o e n hb hx)<|I.base.free b o e n hx;let(sl,e1):=I.base.slot b o e n hb hx;let(sl',e2):=slot b _ (neL b o e) hb (neC b o e hx) e1<|I.base.free b o e n hx;exact(sl',e2);let(o',e1):=I.base.there b o e hx;exact free b o' (neC b o e hx) e1<|I.base.free b o e n hx;let(o',e1):=I.base.there b o e hx;exact there b o' (neC b o e hx) e1;let(m1,e1):=I.base.tbls b ps e;let(m2,e2):=tbls b _ e1;exact(m1++m2,by rw[e2,Array.append_assoc])
 .let(m,hn,hl):=I.loc;refine(m,ns m hn,λi x v e1 e2 e3=>?_);let(u,r,l):=hl i x v e1 e2 e3;refine(u,r,?_);rcases l with l|⟨k,c,e,z⟩
  exact .inl l;exact .inr (k,c,e,cellK x c e _ z)
 let(v,z):=I.cell x c e;exact(v,cellK x c e v z);let(m,(o,_,_,ho,_),_):=I.loc;exact free _ o (λz=>(hch _ z).2.1 rfl) ho I.free;let(v,o,ho,hd):=I.cell x c e;exact free c o (λz=>(hch c z).2.2.1 x c e rfl) ho<|I.freeC x c e;let(e,n,ne,nf,d):=I.pin p hp;have nch:p.1 ∉ch:=λz=>(hch p.1 z).2.2.2 p hp rfl;exact(keep p.1 p.2 ne nf nch e n,free p.1 p.2 nch e n,ne,nf,d)
def Inv.un {t':Nat}(I:Inv X P4 σ H s)(u:Un X.fs [] H H' s.heap h')(hok:HOk X.prog X.w H' h'):Inv X P4 σ H' {s with heap:=h',toks:=t'}:=by
 let(m,(o,es,ep,ho,r),_):=id I.loc;let(sl,hL):=u.any ho I.free ⇑_
 exact I.step (g':=s.gens) (d':=s.drawn) (ch:=[]) (λJ z=>nomatch z) (λb o J hb J e n=>u.keep b o e n hb ⇑_) (λb o J hb J e n=>u.slot b o e n hb ⇑_) (λb o J e n=>u.free b o e n ⇑_) (λb o J e=>u.there b o e ⇑_) u.tups u.frzs u.tbls (λm' hm=>by
  let(o',es',ep',ho',r'):=hm;rw[ho]at ho';cases ho'
  exact(_,es',ep',hL,r')) hok I.bare
def Inv.call {t':Nat}(I:Inv X P4 σ H s)(u:Un (frs X.stack) ch H H' s.heap h')(hok:HOk X.prog X.w H' h')(hg:JV g')
  (hch:∀b∈ch ,(b∈X.ex\/↥X.s₀<=b)/\b≠X.env.locals/\(∀x c ,X.env.cells.lookup x=`c->c≠b)/\∀p∈X.pn++P4,p.1≠b):
  Inv X P4 σ H' {s with heap:=h',gens:=g',drawn:=d',toks:=t'}:=by
 let(m,(o,es,ep,ho,r),_):=id I.loc;let(sl,hL):=u.any ho I.free λz=>(hch _ z).2.1 rfl
 exact I.step (ch:=ch) hch (λb o hL hb hc e n=>u.keep b o e n (λz=>(FC.mp<|I.stkSub b z).elim hL hb) hc) (λb o J J hc e n=>u.any e n hc) (λb o hc e n=>u.free b o e n hc) (λb o hc e=>u.there b o e hc) u.tups u.frzs u.tbls (λm' hm=>by
  let(o',es',ep',ho',r'):=hm;rw[ho]at ho';cases ho'
  exact(_,es',ep',hL,r')) hok hg
def Inv.turned {t':Nat}(I:Inv X P4 σ H s)(k:∀b o ,b≠it->s.heap.get? b=`o->h'.get? b=`o)(hn:H it=none)(hL:it≠X.env.locals)
  (h1:it∈X.ex\/↥X.s₀<=it)(h2:∀x c ,X.env.cells.lookup x=`c->c≠it)(h3:∀p∈X.pn++P4 ,p.1≠it):Inv X P4 σ H {s with heap:=h',toks:=t'}:=by
 have nit:∀b u,H b=`u->b≠it:=λb u e z=>by rw[z,hn]at e;cases e
 refine I.step (g':=s.gens) (d':=s.drawn) (ch:=[it]) (λb hb=>?_) (λb o J J hc e J=>k b o (λz=>hc<|by simp [z]) e) (λb o J J hc e J=>(o.slots,k b o (λz=>hc<|by simp [z]) e)) (λJ J J J n=>n)
  (λb o hc e=>(o,k b o (λz=>hc<|by simp [z]) e)) (λJ J e=>e) (λJ J J e=>e) (λb ps e=>(#[],by rw[e];simp)) (λm hm=>?_) (λb u e=>?_) I.bare
 .have e:b=it:=by simpa using hb
  subst e;exact(h1,hL,h2,h3)
 let(o,es,ep,ho,r):=hm;exact(o,es,ep,k _ o (Ne.symm hL) ho,r)
 .refine (I.hok b u e).stay (λc v hc q=>k c v ?_ q) (λJ q=>q) λJ J q=>q;rcases hc with z|z
  rw[z];exact nit b u e;exact nit c _ z
def Inv.tok (I:Inv X P4 σ H s)(t:Nat):Inv X P4 σ H {s with toks:=t}:=I.un (h':=s.heap) (t':=t) Un.refl I.hok
theorem Inv.kept {t':Nat}(I:Inv X P4 σ H s)(k:∀b u ,s.heap.get? b=`u->h'.get? b=`u):Inv X P4 σ H {s with heap:=h',toks:=t'}:=I.un (Un.kept k)<|I.hok.kept k
theorem Inv.laid {t':Nat}(I:Inv X P4 σ H s)(k:∀b u ,s.heap.get? b=`u->h'.get? b=`u)(hp:↥s<=a)(new:ObjOk X.prog X.w (upd H a o) h' a o):
 Inv X P4 σ (upd H a o) {s with heap:=h',toks:=t'}:=I.un (Un.laid k hp<|I.hok.fresh hp)<|I.hok.laid k hp new
theorem Inv.write {t':Nat}(I:Inv X P4 σ H s)(mu:Mut (H x))(he:e=x\/H e=some (.own x))(k:∀b u ,b≠e->s.heap.get? b=`u->h'.get? b=`u)(heo:∃u ,h'.get? e=`u)
 (new:ObjOk X.prog X.w (upd H x o) h' x o):Inv X P4 σ (upd H x o) {s with heap:=h',toks:=t'}:=I.un (Un.write mu he k heo)<|I.hok.write mu he k heo new
def Inv.weak (I:Inv X P4 σ H s)(hl:⇑σ'=⇑σ)(w:∀ (i:Nat) v ,σ'[i]?=some `v->σ[i]?=some `v):Inv X P4 σ' H s:=
 (I.ok,I.os,I.bare,I.base,let (m,hn,hl'):=I.loc;(m,hn,λi x v e1 e2 e3=>hl' i x v e1 (w i v e2) e3),I.cell,I.free,I.freeC,I.pin,I.hok,hl.trans I.len)
def Inv.pins_of (I:Inv X P4 σ H s)(h:∀p∈pins' ,s.heap.get? p.1=some p.2/\H p.1=none/\p.1≠X.env.locals/\p.1 ∉X.fs/\∀v,p.2.data≠.cell v):Inv X pins' σ H s:=
 (I.ok,I.os,I.bare,I.base,I.loc,I.cell,I.free,I.freeC,λp hp=>(Gg.mp hp).elim (λz=>I.pin p<|Hn _ z)<|h p,I.hok,I.len)
def nB {N:↑Str}(hN:N.Nodup){i j:Nat}{x:Str}(a:N[i]?=`x)(b:N[j]?=`x):i=j:=by let(h1,e1):=FD.mp a;let(h2,e2):=FD.mp b;exact (List.getElem_inj hN).mp<|e1.trans e2.symm
def ku {M:Model}{E:Jk->Js->Prop}{i:Nat}{x:Str}{Q:Unit->Js->Prop}(I:Inv X P4 σ H s)(hN:X.N.Nodup)(hi:X.N[i]?=`x)(hx:Loc X.env.scope x)(r:RelV v u)
  (h:∀s' ,Inv X P4 (σ.set i<|some v) H s'->(∃a ,Ga a s.heap s'.heap/\(a=X.env.locals\/X.env.cells.lookup x=`a))->Q () s')(hf:X.fn x=true\/X.env.scope.names.lookup x=some .local :=by subst_vars):Jw M A (storeName X.env x u) Q E s:=by
 let(m,hn,hl):=id I.loc;have hcls:(X.env.scope.kind==.class||(X.env.scope.kind==.module && X.env.locals !=X.env.globals))=false:=by rw[I.ok.kind];rfl
 have hiσ:i<⇑σ:=by rw[I.len];exact (FD.mp hi).1
 have cne:=I.cne;have tracked:∀ {a:Jq}{h':Jp},(∃o ,s.heap.get? a=`o/\H a=none)->Ga a s.heap h'->HOk X.prog X.w H h':=λ{a h'} ha hs b ob e=>by
  let(_,_,hfree):=ha;refine (I.hok b ob e).stay (λc w' hc q=>(hs.2 c ?_).trans q) (λJ q=>q) λJ J q=>q
  rintro rfl
  rcases hc with rfl|hc
  rw[hfree]at e;cases e;rw[hfree]at hc;cases hc
 rcases hx with hk|hk
 .refine wpAny_storeName_local hk hn (λh' hn' hs=>?_) hcls;let(oL,_,_,hoL,_):=id hn;refine h _ (I.ok,I.os,I.bare,(λb o e n hb hx=>?_,λb o e n hb hx=>?_,I.base.free,λb o e hx=>?_,I.base.tups,I.base.frzs,I.base.tbls),(_,hn',λj y v' e1 e2 e3=>?_),λy c e=>?_,I.free,I.freeC,λp hp=>?_,tracked (oL,hoL,I.free) hs,by simpa using I.len) (_,hs,.inl rfl);exact (hs.2 b<|FJ<|FT (Fy e) I.ok.above).trans<|I.base.keep b o e n hb hx;let(sl,e1):=I.base.slot b o e n hb hx;exact(sl,(hs.2 b<|FJ<|FT (Fy e) I.ok.above).trans e1);let(o',e1):=I.base.there b o e hx;exact(o',(hs.2 b<|FJ<|FT (Fy e) I.ok.above).trans e1)
  .by_cases hj:j=i;subst hj;rw[hi]at e1;cases e1;rw[GJ hiσ]at e2;cases e2;exact(u,r,.inl (hk,⇑_))
   .rw[FG<|Ne.symm hj]at e2;let(u',r',q):=hl j y v' e1 e2 e3;refine(u',r',?_);rcases q with⟨k,e⟩|⟨k,c,e,z⟩
    refine .inl (k,?_);have:y≠x:=λe=>hj<|nB hN e1<|e▸hi;simp [this,e];exact .inr (k,c,e,z.sameBut hs<|cne y c e)
  let(w',z):=I.cell y c e;exact(w',z.sameBut hs<|cne y c e);let(e,n,ne,nf,d):=I.pin p hp;exact((hs.2 p.1 ne).trans e,n,ne,nf,d)
 .have hfn:X.fn x=true:=by
   rcases hf with z|z
   exact z;rw[z]at hk;cases hk
  let(c,hc):=I.ok.has x<|.inl hk;let(w',z):=I.cell x c hc;refine wpAny_storeName_cell I.ok.kind hk hc z (λh' hc' hs=>?_);let(oc,hoc,hocd):=id z;refine h {s with heap:=h'} (I.ok,I.os,I.bare,(λb o e n hb hx=>?_,λb o e n hb hx=>?_,I.base.free,λb o e hx=>?_,I.base.tups,I.base.frzs,I.base.tbls),(m,hn.sameBut hs<|Ne.symm<|cne x c hc,λj y v' e1 e2 e3=>?_),λy c' e=>?_,I.free,I.freeC,λp hp=>?_,tracked (oc,hoc,I.freeC x c hc) hs,by simpa using I.len) (c,hs,.inr hc);exact (hs.2 b<|FJ<|FT (Fy e)<|I.ok.cab x c hfn hc).trans<|I.base.keep b o e n hb hx;let(sl,e1):=I.base.slot b o e n hb hx;exact(sl,(hs.2 b<|FJ<|FT (Fy e)<|I.ok.cab x c hfn hc).trans e1);let(o',e1):=I.base.there b o e hx;exact(o',(hs.2 b<|FJ<|FT (Fy e)<|I.ok.cab x c hfn hc).trans e1)
  .by_cases hj:j=i;subst hj;rw[hi]at e1;cases e1;rw[GJ hiσ]at e2;cases e2;exact(u,r,.inr (.inl hk,c,hc,hc'))
   .rw[FG<|Ne.symm hj]at e2;let(u',r',q):=hl j y v' e1 e2 e3;refine(u',r',?_);rcases q with q|⟨k,c',e,z'⟩
    exact .inl q
    .refine .inr (k,c',e,z'.sameBut hs ?_)
     rintro rfl
     exact hj<|nB hN e1<|I.ok.inj _ _ _ e hc▸hi
  .by_cases hcc:c'=c;subst hcc;exact(_,hc');let(w2,z2):=I.cell y c' e;exact(w2,z2.sameBut hs hcc)
  let(e,n,ne,nf,d):=I.pin p hp;refine((hs.2 p.1 ?_).trans e,n,ne,nf,d);intro q;rw[q,hoc]at e;have q':oc=p.2:=Option.some.inj e;exact d w' (by rw[<-q'];exact hocd)
def iP {M:Model}{E:Jk->Js->Prop}{i:Nat}{x:Str}{Q:Unit->Js->Prop}(I:Inv X P4 σ H s)(hN:X.N.Nodup)(hi:X.N[i]?=`x)(hx:Loc X.env.scope x)(r:RelV v u)
  (h:∀s' ,Inv X P4 (σ.set i<|some v) H s'->Q () s')(hf:X.fn x=true\/X.env.scope.names.lookup x=some .local :=by subst_vars):Jw M A (storeName X.env x u) Q E s:=
 ku I hN hi hx r (λs' I' J=>h s' I') hf
def Inv.call' (I:Inv X P4 σ H s)(ho:s'.os=s.os)(u:Un (frs X.stack) ch H H' s.heap s'.heap)(hok:HOk X.prog X.w H' s'.heap)(hg:JV s'.gens)
  (hch:∀b∈ch ,(b∈X.ex\/↥X.s₀<=b)/\b≠X.env.locals/\(∀x c ,X.env.cells.lookup x=`c->c≠b)/\∀p∈X.pn++P4,p.1≠b):Inv X P4 σ H' s':=by
 let(h',g',d',t',o'):=s';have e:o'=s.os:=ho;subst e;exact I.call (g':=g') (t':=t') (d':=d') u hok hg hch
end
abbrev XK:=Jk->Option Jq->Hp->Prop
abbrev St:=List<|Option V
abbrev VK:=V->Hp->Prop
abbrev TE:=St->Hp->VK->Prop
abbrev TT:=St->Hp->(Bool->Hp->Prop)->Prop
abbrev TA:=St->Hp->(↑V->Hp->Prop)->Prop
structure KS where
 nx:St->Hp->Prop
 rt:VK
 bk:St->Hp->Prop:=λ_ _=>False
 ct:St->Hp->Prop:=λ_ _=>False
abbrev TS:=KS->St->Hp->Prop
def EP (X:Cx)(P4:↑(Jq×Jt))(σ:St)(Q:VK)(u:Jk)(s':Js):Prop:=∃v H',Inv X P4 σ H' s'/\RelV v u/\Q v H'
def TP (X:Cx)(P4:↑(Jq×Jt))(σ:St)(Q:Bool->Hp->Prop)(b:Bool)(s':Js):Prop:=∃H',Inv X P4 σ H' s'/\Q b H'
def AP (X:Cx)(P4:↑(Jq×Jt))(σ:St)(Q:↑V->Hp->Prop)(us:↑Jk)(s':Js):Prop:=∃vs H',Inv X P4 σ H' s'/\Vals vs us/\Q vs H'
def SP (X:Cx)(P4:↑(Jq×Jt))(D:KS)(f:Flow)(s':Js):Prop:=
 match f with|.next=>∃σ' H',Inv X P4 σ' H' s'/\D.nx σ' H'|.brk=>∃σ' H',Inv X P4 σ' H' s'/\D.bk σ' H'|.cont=>∃σ' H',Inv X P4 σ' H' s'/\D.ct σ' H'|.ret u=>∃v σ' H',Inv X P4 σ' H' s'/\RelV v u/\D.rt v H'
def PE (X:Cx)(e:Expr)(t:TE):Prop:=
 ∀ (P4:↑(Jq×Jt)) (s:Js) (σ:St) (H:Hp) (Q:VK),Inv X P4 σ H s->t σ H Q->Jw (Jx X.prog X.w) X.A (JX e X.env) (EP X P4 σ Q) X.xe s
def PT (X:Cx)(e:Expr)(t:TT):Prop:=
 ∀ (P4:↑(Jq×Jt)) (s:Js) (σ:St) (H:Hp) (Q:Bool->Hp->Prop),Inv X P4 σ H s->t σ H Q->Jw (Jx X.prog X.w) X.A (isTrue e X.env<|JX e X.env) (TP X P4 σ Q) X.xe s
def PW (X:Cx)(e:Expr)(t:TT):Prop:=
 ∀ (whole:Sem Jk) (P4:↑(Jq×Jt)) (s:Js) (σ:St) (H:Hp) (Q:Bool->Hp->Prop),Inv X P4 σ H s->t σ H Q->Jw (Jx X.prog X.w) X.A (isTrue e X.env whole) (TP X P4 σ Q) X.xe s
def PW.pt (h:PW X e t):PT X e t:=h _
def PA (X:Cx)(es:↑Expr)(t:TA):Prop:=
 ∀ (pos:JY) (P4:↑(Jq×Jt)) (s:Js) (σ:St) (H:Hp) (Q:↑V->Hp->Prop),Inv X P4 σ H s->t σ H Q->Jw (Jx X.prog X.w) X.A (spliced<|JZ pos<|J1 es X.env) (AP X P4 σ Q) X.xe s
def PS (X:Cx)(st:J2)(t:TS):Prop:=
 ∀ (P4:↑(Jq×Jt)) (s:Js) (σ:St) (H:Hp) (D:KS),Inv X P4 σ H s->t D σ H->Jw (Jx X.prog X.w) X.A (exec st X.env) (SP X P4 D) X.xe s
def PSs (X:Cx)(st:↑J2)(t:TS):Prop:=
 ∀ (P4:↑(Jq×Jt)) (s:Js) (σ:St) (H:Hp) (D:KS),Inv X P4 σ H s->t D σ H->Jw (Jx X.prog X.w) X.A (execs st X.env) (SP X P4 D) X.xe s
def thn {α:Type}{t:Sem α}{Q Q':α->Js->Prop}{M:Model}{E:Jk->Js->Prop}(h:Jw M A t Q E s)(hQ:∀a s ,Q a s->Q' a s):Jw M A t Q' E s:=J3 h hQ λJ J x=>x
end
section
section
variable {X:Cx}
noncomputable def Px (i:Nat):TE:=λσ H Q=>∃v,σ[i]?=some `v/\Q v H
noncomputable def tC (v:V):TE:=λJ H Q=>Q v H
def Bb {i:Nat}{x:Str}(hN:X.N[i]?=`x)(hv:Vis X.env.scope x)(hd:(x==("__debug__":Str))=false:=by decide)(hcd:(x==("__classdict__":Str))=false:=by decide):PE X (.Name x pos) (Px i):=by
 intro P4 s σ H Q I h;let(v,e,h):=h;let(m,hn,hl):=I.loc;let(u,r,l):=hl i x v hN e hv;have fin:EP X P4 σ Q u s:=(v,H,I,r,h)
 rcases l with⟨hk,hm⟩|⟨hk,c,hc,hcell⟩
 exact wpAny_Name (wpAny_loadName_local I.ok.kind hk hn hm fin) hd
 .rcases hk with hk|hk
  exact wpAny_Name (wpAny_loadName_cell I.ok.kind hk hc hcell fin) hd;exact wpAny_Name (wpAny_loadName_free I.ok.kind hk hc hcell fin hcd) hd
def N8 {i j pos}:PE X (.Constant (.int i) j pos) (tC<|.int i):=λJ J J H J I h=>wpAny_Constant_int (.int i,H,I.tok _,(_,rfl),h)
def pe_bl {b j pos}:PE X (.Constant (.bool b) j pos) (tC<|.bl b):=λJ J J H J I h=>Constant_bool (.bl b,H,I,rfl,h)
def N9 {j pos}:PE X (.Constant .none j pos) (tC .non):=λJ J J H J I h=>Constant_none (.non,H,I,rfl,h)
def Oa {x j pos}:PE X (.Constant (.str x) j pos) (tC<|.str x):=λJ J J H J I h=>Calls.Constant_str (.str x,H,I.tok _,(_,rfl),h)
def Gl (X:Cx)(x:Str):Prop:=X.env.kindOf x=some .globalImplicit
def lP {E:Jk->Js->Prop}{x:Str}{Q:Jk->Js->Prop}(I:Inv X P4 σ H s)(hg:Gl X x)(hm:X.mg x=`u)(h:Q u s)
  (hd:(x==("__debug__":Str))=false:=by decide):Jw (Jx X.prog X.w) X.A (JX (.Name x pos) X.env) Q E s:=
 Calls.Name_function_global I.ok.kind hg (Calls.loadGlobal_global (by rw[I.ok.glob];exact I.mod.glob.keeps I.bk) hm h) hd
def bu {E:Jk->Js->Prop}{x:Str}{Q:Jk->Js->Prop}(I:Inv X P4 σ H s)(hg:Gl X x)(hm:X.mg x=none)(hv:JR x=`u)(h:Q u s)
  (hn:x≠"__name__":=by decide)(hd:(x==("__debug__":Str))=false:=by decide):Jw (Jx X.prog X.w) X.A (JX (.Name x pos) X.env) Q E s:=by
 let(mb,h1,h2):=I.mod.blt;exact Calls.Name_function_global I.ok.kind hg (Calls.loadGlobal_builtin (by rw[I.ok.glob];exact I.mod.glob.keeps I.bk) hm (by rw[I.ok.blt];exact h1.keeps I.bk) ((h2 x hn).trans hv) h) hd
def yA {x:Str}(hg:Gl X x)(hm:X.mg x=`u)(r:RelV v u)(hd:(x==("__debug__":Str))=false:=by decide):PE X (.Name x pos) (tC v):=
 λJ J J H J I h=>lP I hg hm (v,H,I,r,h) hd
def yD {x:Str}(hg:Gl X x)(hm:X.mg x=none)(hv:JR x=`u)(r:RelV v u)(hn:x≠"__name__":=by decide)(hd:(x==("__debug__":Str))=false:=by decide):PE X (.Name x pos) (tC v):=
 λJ J J H J I h=>bu I hg hm hv (v,H,I,r,h) hn hd
variable {a b:Expr}{ta tb:TE}{pos:JY}
noncomputable def tB (t:TE):TT:=λσ H Q=>t σ H λx H1=>∃c,x=.bl c/\Q c H1
def A0 (h:PE X e t)(he:∀whole ,isTrue e X.env whole=(do let v<-whole;J6 e.pos;J7 [v] (truthy v)):=by intro _;rfl):PT X e (tB t):=by intro P4 s σ H Q I hw;refine isTrue_plain (thn (h P4 s σ H _ I hw) λv s1 qz=>?_)<|he _;let(x,H1,I1,r1,q1):=qz;let(d,rfl,q):=q1;cases r1;exact JJ (H1,I1,q)
variable {tA tB':TT}{rest:↑Expr}
noncomputable def tOr (t u:TT):TT:=λσ H Q=>t σ H λc H1=>if c=true then Q true H1 else u σ H1 Q
noncomputable def tNot (t:TT):TT:=λσ H Q=>t σ H λc H1=>Q (!c) H1
def AY (ha:PT X a tA):PW X (.BoolOp .Or [a] pos) tA:=by
 intro wh P4 s σ H Q I h;refine isTrue_or (thn (ha P4 s σ H Q I h) λc s1 e=>?_);cases c with|false=>exact isTrue_or_nil e|true=>exact e
def DC (ha:PT X a tA)(hb:PW X (.BoolOp .Or (b::rest) pos) tB'):PW X (.BoolOp .Or (a::b::rest) pos) (tOr tA tB'):=by
 intro wh P4 s σ H Q I h;refine isTrue_or (thn (ha P4 s σ H _ I h) λc s1 qz=>?_);let(H1,I1,q1):=qz;cases c with|true=>exact(H1,I1,q1)|false=>exact hb wh P4 s1 σ H1 Q I1 q1
def A1 (ha:PT X a tA):PT X (.UnaryOp .Not a pos) (tNot tA):=by intro P4 s σ H Q I h;exact isTrue_not<|ha P4 s σ H (λc H1=>Q (!c) H1) I h
noncomputable def tAndV (ta tb:TE):TE:=λσ H Q=>ta σ H λx H1=>∃c,x=.bl c/\if c=true then tb σ H1 Q else Q (.bl false) H1
def Bc {op}(h:PE X a t):PE X (.BoolOp op [a] pos) t:=λP4 s σ H Q I hw=>BoolOp_one<|h P4 s σ H Q I hw
def Bf (ha:PE X a ta)(hb:PE X (.BoolOp .And (b::rest) pos) tb):PE X (.BoolOp .And (a::b::rest) pos) (tAndV ta tb):=by
 intro P4 s σ H Q I h;refine BoolOp_and (thn (ha P4 s σ H _ I h) λv s1 qz=>?_);let(x,H1,I1,r1,q1):=qz;let(c,rfl,q1):=q1;cases r1;refine JJ ?_;cases c with|true=>exact hb P4 s1 σ H1 Q I1 q1|false=>exact(.bl false,H1,I1,rfl,q1)
noncomputable def tIf (t:TT)(ta tb:TE):TE:=λσ H Q=>t σ H λc H1=>if c=true then ta σ H1 Q else tb σ H1 Q
def vA (hc:PT X c tA)(ha:PE X a ta)(hb:PE X b tb):PE X (.IfExp c a b pos) (tIf tA ta tb):=by
 intro P4 s σ H Q I h;refine wpAny_IfExp (thn (hc P4 s σ H _ I h) λd s1 qz=>?_);let(H1,I1,q1):=qz;cases d with|true=>exact ha P4 s1 σ H1 Q I1 q1|false=>exact hb P4 s1 σ H1 Q I1 q1
end
end
section
def SqL (K:Zf)(H:Hp)(a:Jq)(xs:↑V):Prop:=
 Rd H a (.lst xs)\/
  ∃ (o:Jt) (its:Array Jk) (n:Nat),K.lookup a=`o/\o.cls=.type "list"/\o.dict=none/\o.data=.seq its n/\its.size<=sizeLine/\Vals xs its.toList
def SqT (K:Zf)(H:Hp)(a:Jq)(xs:↑V):Prop:=
 Rd H a (.tup xs)\/
  ∃ (o:Jt) (its:Array Jk) (n:Nat),K.lookup a=`o/\o.cls=.type "tuple"/\o.data=.seq its n/\its.size<=sizeLine/\Vals xs its.toList
noncomputable def absV:Jk->Option V|.none=>some .non|.bool b=>some (.bl b)|.int i _=>some (.int i)|.str x _=>some (.str x)|.bytes b _=>some (.byt b)|.float b _=>some (.flt b)|.ref a=>some (.ref a)|.type n=>some (.ty n)|_=>none
def RelV.abs (r:RelV x u):absV u=`x:=by
 cases x with|non=>cases r;rfl|bl _=>cases r;rfl|int _=>let(t,rfl):=r;rfl|str _=>let(t,rfl):=r;rfl|byt _=>let(t,rfl):=r;rfl|flt _=>let(t,rfl):=r;rfl|ref _=>cases r;rfl|ty _=>cases r;rfl
theorem RelV.inj (r:RelV x u)(q:RelV y u):x=y:=Option.some.inj<|r.abs.symm.trans q.abs
theorem Vals.inj:∀ {xs ys:↑V}{us:↑Jk},Vals xs us->Vals ys us->xs=ys
 :=by
 intro xs ys us h
 induction h generalizing ys with
 |nil=>intro g;cases g;rfl
 |cons r t ih=>
  intro g;cases g with|cons r' t'=>rw[r.inj r',ih t']
section
variable {X:Cx}{P4:↑(Jq×Jt)}{σ:St}{H:Hp}{s:Js}{a:Jq}{xs ys:↑V}
def SqL.of {K:Zf}(h:H a=some (.lst xs)):SqL K H a xs:=.inl<|.inl h
def SqT.of {K:Zf}(h:H a=some (.tup xs)):SqT K H a xs:=.inl<|.inl h
def Inv.list (I:Inv X P4 σ H s)(h:SqL X.K H a xs):∃its:↑Jk,Vals xs its/\PlainL s.heap a its.toArray/\⇑xs<=sizeLine:=by
 rcases h with h|⟨o,its,n,hk,hc,hd,hs,hz,r⟩
 let(z,its,n,r,e):=h.ok I.hok;exact(its,r,(_,n,e,rfl,rfl,rfl),z);refine(its.toList,r,(o,n,I.kIn a o hk,hc,hd,by simpa using hs),?_);have e:=⇑r;simp only[F6]at e;omega
def Inv.tuple (I:Inv X P4 σ H s)(h:SqT X.K H a xs):∃its:↑Jk,Vals xs its/\IsTup s.heap a its.toArray/\⇑xs<=sizeLine:=by
 rcases h with h|⟨o,its,n,hk,hc,hs,hz,r⟩
 let(z,its,r,p):=h.ok I.hok;exact(its,r,p.1,z);refine(its.toList,r,(o,I.kIn a o hk,hc,n,by simpa using hs),?_);have e:=⇑r;simp only[F6]at e;omega
def Inv.list_inj (I:Inv X P4 σ H s)(h:SqL X.K H a xs)(h':SqL X.K H a ys):xs=ys:=by
 let(its,r,(o,n,e,_,_,d),_):=I.list h;let(its',r',(o',n',e',_,_,d'),_):=I.list h';rw[e]at e';cases e';rw[d]at d';injection d' with d1 _
 have:its=its':=by simpa using congrArg Array.toList d1
 subst this;exact r.inj r'
def Inv.tuple_inj (I:Inv X P4 σ H s)(h:SqT X.K H a xs)(h':SqT X.K H a ys):xs=ys:=by
 let(its,r,(o,e,_,n,d),_):=I.tuple h;let(its',r',(o',e',_,n',d'),_):=I.tuple h';rw[e]at e';cases e';rw[d]at d';injection d' with d1 _
 have:its=its':=by simpa using congrArg Array.toList d1
 subst this;exact r.inj r'
end
abbrev Cx.wish (X:Cx)(E:Jk->Js->Prop):Cx:={X with xe:=E}
abbrev Cx.nox (X:Cx):Cx:=X.wish λJ J=>False
theorem Cx.Ok.wish {X:Cx}(ok:X.Ok)(E:Jk->Js->Prop):(X.wish E).Ok:=
 (ok.mod,ok.kind,ok.glob,ok.blt,ok.above,ok.inj,ok.has,ok.cab,ok.hd,ok.frames,ok.stk,ok.exf,ok.bs,ok.bsz,ok.noex,ok.exfs,ok.funs,ok.frf)
def Cx.Ok.unwish {X:Cx}{E:Jk->Js->Prop}(ok:(X.wish E).Ok):X.Ok:=
 (ok.mod,ok.kind,ok.glob,ok.blt,ok.above,ok.inj,ok.has,ok.cab,ok.hd,ok.frames,ok.stk,ok.exf,ok.bs,ok.bsz,ok.noex,ok.exfs,ok.funs,ok.frf)
section
variable {X:Cx}{P4:↑(Jq×Jt)}{σ:St}{H:Hp}{s:Js}{E:Jk->Js->Prop}
theorem Inv.wish (I:Inv X P4 σ H s)(E:Jk->Js->Prop):Inv (X.wish E) P4 σ H s:=(I.ok.wish E,I.os,I.bare,I.base,I.loc,I.cell,I.free,I.freeC,I.pin,I.hok,I.len)
theorem Inv.unwish (I:Inv (X.wish E) P4 σ H s):Inv X P4 σ H s:=(I.ok.unwish,I.os,I.bare,I.base,I.loc,I.cell,I.free,I.freeC,I.pin,I.hok,I.len)
theorem SP.unwish (h:SP (X.wish E) P4 D f s'):SP X P4 D f s':=by
 cases f with|next=>let(σ',H',I,q):=h;exact(σ',H',I.unwish,q)|brk=>let(σ',H',I,q):=h;exact(σ',H',I.unwish,q)|cont=>let(σ',H',I,q):=h;exact(σ',H',I.unwish,q)|ret u=>let(v,σ',H',I,r,q):=h;exact(v,σ',H',I.unwish,r,q)
theorem PSs.nox {st:↑J2}(h:PSs X.nox st t):PSs X st t:=λP4 s σ H D I hw=>
 J3 (h P4 s σ H D (I.wish _) hw) (λJ J q=>q.unwish) λJ J z=>False.elim z
end
section
variable {X:Cx}{st:J2}{rest:↑J2}{t u:TS}{e:Expr}{te:TE}{pos:JY}
noncomputable def tNext:TS:=λD σ H=>D.nx σ H
noncomputable def tSeq (t u:TS):TS:=λD σ H=>t {D with nx:=u D} σ H
def Oh:PSs X [] tNext:=λ_ _ σ H _ I h=>J8 (σ,H,I,h)
def i7 (h1:PS X st t)(h2:PSs X rest u):PSs X (st::rest) (tSeq t u):=by
 intro P4 s σ H D I h;refine wpAny_execs_cons (thn (h1 P4 s σ H {D with nx:=u D} I h) λf s1 q=>?_);cases f with
 |next=>
  let(σ',H',I',q):=q;exact h2 P4 s1 σ' H' D I' q
 |ret v=>exact q
 |brk=>exact q
 |cont=>exact q
def qB (h1:PS X st t):PSs X [st] t:=by
 intro P4 s σ H D I h;refine wpAny_execs_cons (thn (h1 P4 s σ H D I h) λf s1 q=>?_);cases f with|next=>exact J8 q|ret v=>exact q|brk=>exact q|cont=>exact q
def Inv.quiet (I:Inv X P4 σ H s):interactive X.env=false:=by simp [interactive,I.ok.kind]
noncomputable def tDrop (te:TE):TS:=λD σ H=>te σ H λJ H1=>D.nx σ H1
def ym (he:PE X e te)(hs:swapsWith e none pos.line X.env=pure false:=by rfl):PS X (.Expr e pos) (tDrop te):=by intro P4 s σ H D I h;exact wpAny_Expr_any (thn (he P4 s σ H _ I h) λv s1 (x,H1,I1,r1,q1)=>(σ,H1,I1,q1)) I.quiet hs
noncomputable def tRet (te:TE):TS:=λD σ H=>te σ H D.rt
def u9 (he:PE X e te):PS X (.Return `e pos) (tRet te):=by intro P4 s σ H D I h;exact wpAny_Return_some (thn (he P4 s σ H _ I h) λv s1 (x,H1,I1,r1,q1)=>(x,σ,H1,I1,r1,q1))
noncomputable def tIfS (c:TT)(t u:TS):TS:=λD σ H=>c σ H λb H1=>if b=true then t D σ H1 else u D σ H1
def ay (hc:PT X c tc)(ha:PSs X a t)(hb:PSs X b u):PS X (.If c a b pos) (tIfS tc t u):=by
 intro P4 s σ H D I h;refine wpAny_If (thn (hc P4 s σ H _ I h) λd s1 qz=>?_);let(H1,I1,q1):=qz;cases d with|true=>exact ha P4 s1 σ H1 D I1 q1|false=>exact hb P4 s1 σ H1 D I1 q1
end
abbrev TG:=V->St->Hp->(St->Hp->Prop)->Prop
abbrev TGs:=↑V->St->Hp->(St->Hp->Prop)->Prop
def PG (X:Cx)(target:Expr)(t:TG):Prop:=
 ∀ (P4:↑(Jq×Jt)) (s:Js) (σ:St) (H:Hp) (v:V) (u:Jk) (Q:St->Hp->Prop),Inv X P4 σ H s->RelV v u->t v σ H Q->
   Jw (Jx X.prog X.w) X.A (assign target X.env u) (λJ s'=>∃σ' H' ,Inv X P4 σ' H' s'/\Q σ' H') X.xe s
def PGs (X:Cx)(ts:↑Expr)(t:TGs):Prop:=
 ∀ (P4:↑(Jq×Jt)) (s:Js) (σ:St) (H:Hp) (vs:↑V) (us:↑Jk) (Q:St->Hp->Prop),Inv X P4 σ H s->Vals vs us->t vs σ H Q->
   Jw (Jx X.prog X.w) X.A (assignInOrder ((J9 ts X.env).map (·.2)) us) (λJ s'=>∃σ' H' ,Inv X P4 σ' H' s'/\Q σ' H') X.xe s
abbrev Lf:=V->V->V->Hp->(Hp->Prop)->Prop
def PSet (X:Cx)(t:Lf):Prop:=
 ∀ (P4:↑(Jq×Jt)) (s:Js) (σ:St) (H:Hp) (o i v:V) (ov iv u:Jk) (Q:Hp->Prop),Inv X P4 σ H s->RelV o ov->RelV i iv->RelV v u->t o i v H Q->
   Jw (Jx X.prog X.w) X.A (setItem ov iv u) (λJ s'=>∃H' ,Inv X P4 σ H' s'/\Q H') X.xe s
abbrev TIp:=V->V->Hp->VK->Prop
def PIp (X:Cx)(op:Operator)(t:TIp):Prop:=
 ∀ (P4:↑(Jq×Jt)) (s:Js) (σ:St) (H:Hp) (x y:V) (v u:Jk) (Q:VK),Inv X P4 σ H s->RelV x v->RelV y u->t x y H Q->
   Jw (Jx X.prog X.w) X.A (inplaceOp op v u) (EP X P4 σ Q) X.xe s
section
variable {X:Cx}{pos:JY}
noncomputable def Mh (i:Nat):TG:=λv σ H Q=>Q (σ.set i<|some v) H
def aP {i:Nat}{x:Str}(hN:X.N.Nodup)(hi:X.N[i]?=`x)(hx:Loc X.env.scope x)(hf:X.fn x=true\/X.env.scope.names.lookup x=some .local :=by subst_vars):PG X (.Name x pos) (Mh i):=by intro P4 s σ H v u Q I r h;exact wpAny_assign_Name<|iP I hN hi hx r (λs' I'=>(_,H,I',h)) hf
noncomputable def Mi:TGs:=λvs σ H Q=>vs=[]/\Q σ H
noncomputable def Me (t:TG)(u:TGs):TGs:=λvs σ H Q=>∃v r,vs=v::r/\t v σ H λσ' H'=>u r σ' H' Q
def f6:PGs X [] Mi:=by intro P4 s σ H vs us Q I r h;let(e,h):=h;subst e;cases r;exact assignInOrder_nil (σ,H,I,h)
def bS (h1:PG X e t)(h2:PGs X es u)
  (hs:(J9 (e::es) X.env).map (·.2)=assign e X.env::(J9 es X.env).map (·.2):=by rfl):PGs X (e::es) (Me t u):=by
 intro P4 s σ H vs us Q I r h;let(v,vr,e1,h):=h;subst e1;cases r with
 |cons r rr=>
  rw[hs];refine assignInOrder_cons (thn (h1 P4 s σ H _ _ _ I r h) λJ s1 qz=>?_);let(σ1,H1,I1,q1):=qz;exact h2 P4 s1 σ1 H1 _ _ Q I1 rr q1
noncomputable def Mj (K:Zf)(n:Nat)(t:TGs):TG:=λv σ H Q=>∃a xs,v=.ref a/\SqT K H a xs/\⇑xs=n/\t xs σ H Q
def je {k:Nat}{n:Nat}(hc:X.calm=true)(h:PGs X es t)
  (hn:⇑(J9 es X.env)=n:=by rfl)(hst:(J9 es X.env).findIdx? (·.1)=none:=by rfl):PG X (.Tuple es k pos) (Mj X.K n t):=by
 intro P4 s σ H v u Q I r hw;let(a,xs,e1,hq,hl,hw):=hw;subst e1;cases r;let(its,rv,ht,hz):=I.tuple hq;refine assign_Tuple_tuple (I.ok.hd hc) ht (by simp [hn,<-hl,⇑rv]) hst λh' hx=>?_;have I1:Inv X P4 σ H {s with heap:=h'}:=I.kept (t':=s.toks) λb o e=>hx b o (FJ<|Fy e) e;exact h P4 _ σ H xs _ Q I1 (by simpa using rv) hw
noncomputable def gSub (to ti:TE)(t:Lf):TG:=λv σ H Q=>to σ H λo H1=>ti σ H1 λi H2=>t o i v H2 λH3=>Q σ H3
def vq {to ti:TE}(ho:PE X o to)(hi:PE X i ti)(hs:PSet X t)
  (ha:∀v ,assign (.Subscript o i pos) X.env v=(do
   let ov<-J7 [v] (JX o X.env);let iv<-J7 [v,ov] (JX i X.env)
   J6 pos
   J7 [v,ov,iv] (setItem ov iv v)
   release [v,ov,iv] []):=by intro _;rfl):PG X (.Subscript o i pos) (gSub to ti t):=by
 intro P4 s σ H v u Q I r h;rw[ha];refine Jy (JH<|thn (ho P4 s σ H _ I h) λov s1 qz=>?_);let(x,H1,I1,r1,q1):=qz;refine Jy (JH<|thn (hi P4 s1 σ H1 _ I1 q1) λiv s2 qz=>?_);let(y,H2,I2,r2,q2):=qz;refine Jy (wpAny_standAt<|Jy<|JH<|thn (hs P4 s2 σ H2 x y v ov iv u _ I2 r1 r2 r q2) λJ s3 qz=>?_);let(H3,I3,q3):=qz;exact wpAny_release (σ,H3,I3,q3)
noncomputable def Pv (te:TE)(g:TG):TS:=λD σ H=>te σ H λx H1=>g x σ H1 D.nx
def vc (he:PE X e te)(hg:PG X tg g)(hs:swapsWithSole [tg] e pos.line X.env=pure false:=by rfl)(hw:swappedStores [tg] e X.env=pure none:=by rfl)
  (h1:(J9 [tg] X.env).map (·.2)=[assign tg X.env]:=by rfl):PS X (.Assign [tg] e pos) (Pv te g):=by
 intro P4 s σ H D I h;refine wpAny_Assign_stores (thn (he P4 s σ H _ I h) λv s1 qz=>?_) hs hw;let(x,H1,I1,r1,q1):=qz;rw[h1];exact thn (hg P4 s1 σ H1 x v _ I1 r1 q1) λJ s2 q=>q
def u8 {i:Nat}{x:Str}(hN:X.N.Nodup)(hi:X.N[i]?=`x)(hx:Loc X.env.scope x)(he:PE X e te)(hs:swapsWith e (some<|.Name x pos') pos.line X.env=pure false:=by rfl)(hf:X.fn x=true\/X.env.scope.names.lookup x=some .local :=by subst_vars):
  PS X (.Assign [.Name x pos'] e pos) (Pv te<|Mh i):=by
 intro P4 s σ H D I h;refine wpAny_Assign_Name (thn (he P4 s σ H _ I h) λv s1 qz=>?_) hs;let(y,H1,I1,r1,q1):=qz;exact iP I1 hN hi hx r1 (λs2 I2=>(_,H1,I2,q1)) hf
noncomputable def tAug (i:Nat)(te:TE)(ti:TIp):TS:=λD σ H=>∃x,σ[i]?=some `x/\te σ H λy H1=>ti x y H1 λz H2=>D.nx (σ.set i<|some z) H2
def A6 {i:Nat}{x:Str}(hN:X.N.Nodup)(hi:X.N[i]?=`x)(hx:Loc X.env.scope x)(he:PE X e te)(ho:PIp X op ti)(hf:X.fn x=true\/X.env.scope.names.lookup x=some .local :=by subst_vars):
  PS X (.AugAssign (.Name x pos') op e pos) (tAug i te ti):=by
 intro P4 s σ H D I h;let(v,e1,h):=h;let(m,hn,hl):=I.loc;have vis:Vis X.env.scope x:=by rcases hx with k|k;exact .inl k;exact .inr<|.inl k
 let(u,r,l):=hl i x v hi e1 vis;refine wpAny_AugAssign_Name ?_;have go:Jw (Jx X.prog X.w) X.A (JX e X.env) (λw s₂=>Jw (Jx X.prog X.w) X.A (inplaceOp op u w) (λr s₃=>Jw (Jx X.prog X.w) X.A (storeName X.env x r) (λJ=>SP X P4 D .next) X.xe s₃) X.xe s₂) X.xe s:=by refine thn (he P4 s σ H _ I h) λw s1 qz=>?_;let(y,H1,I1,r1,q1):=qz;refine thn (ho P4 s1 σ H1 v y u w _ I1 r r1 q1) λz s2 qz=>?_;let(zv,H2,I2,r2,q2):=qz;exact iP I2 hN hi hx r2 (λs3 I3=>(_,H2,I3,q2)) hf
 rcases l with⟨hk,hm⟩|⟨hk,c,hc,hcell⟩
 exact wpAny_loadName_local I.ok.kind hk hn hm go
 .rcases hk with hk|hk
  exact wpAny_loadName_cell I.ok.kind hk hc hcell go
  .rcases hx with k|k
   have:X.env.scope.names.lookup x=some .free:=hk;rw[k]at this;cases this;have:X.env.scope.names.lookup x=some .free:=hk;rw[k]at this;cases this
noncomputable def tAugS (to ti te:TE)(tget:V->V->Hp->VK->Prop)(tip:TIp)(tset:Lf):TS:=λD σ H=>to σ H λo H1=>ti σ H1 λi H2=>tget o i H2 λx H3=>te σ H3 λy H4=>tip x y H4 λz H5=>tset o i z H5 λH6=>D.nx σ H6
def PGet (X:Cx)(t:V->V->Hp->VK->Prop):Prop:=
 ∀ (P4:↑(Jq×Jt)) (s:Js) (σ:St) (H:Hp) (o i:V) (ov iv:Jk) (Q:VK),Inv X P4 σ H s->RelV o ov->RelV i iv->t o i H Q->
   Jw (Jx X.prog X.w) X.A (getItem ov iv) (EP X P4 σ Q) X.xe s
def yo {to ti te:TE}{tget:V->V->Hp->VK->Prop}(ho:PE X o to)(hi:PE X i ti)(hg:PGet X tget)(he:PE X e te)(hp:PIp X op tip)(hs:PSet X tset)
  (ha:∀ov iv new ,augStore i ov iv new=(do J7 [new,ov,iv] (setItem ov iv new);release [new,ov,iv] [];pure .next):=by intros;rfl):PS X (.AugAssign (.Subscript o i tpos) op e pos) (tAugS to ti te tget tip tset):=by
 intro P4 s σ H D I h;refine wpAny_AugAssign_SubscriptAny (thn (ho P4 s σ H _ I h) λov s1 qz=>?_) ha;let(x1,H1,I1,r1,q1):=qz;refine thn (hi P4 s1 σ H1 _ I1 q1) λiv s2 qz=>?_;let(x2,H2,I2,r2,q2):=qz;refine thn (hg P4 s2 σ H2 x1 x2 ov iv _ I2 r1 r2 q2) λold s3 qz=>?_;let(x3,H3,I3,r3,q3):=qz;refine thn (he P4 s3 σ H3 _ I3 q3) λv s4 qz=>?_;let(x4,H4,I4,r4,q4):=qz;refine thn (hp P4 s4 σ H4 x3 x4 old v _ I4 r3 r4 q4) λnew s5 qz=>?_;let(x5,H5,I5,r5,q5):=qz;exact thn (hs P4 s5 σ H5 x1 x2 x5 ov iv new _ I5 r1 r2 r5 q5) λ_ s6 (H6,I6,q6)=>(σ,H6,I6,q6)
end
section
variable {X:Cx}{pos:JY}
noncomputable def AC (c:TT)(tb:TS):TS:=λD σ H=>∃W:Nat->St->Hp->Prop,(∃m ,W m σ H)/\∀m σ H,W m σ H->
 c σ H λb H1=>if b=true then∃N:St->Hp->Prop,(∀σ' H' ,N σ' H'->∃m',m'<m/\W m' σ' H')/\tb {D with nx:=N,ct:=N,bk:=D.nx} σ H1 else D.nx σ H1
def u7 (hp:Ka (Jx X.prog X.w) X.A X.env X.xe)(hc:PT X c tc)(hb:PSs X body tb):PS X (.While c body [] pos) (AC tc tb):=by
 intro P4 s σ H D I h;let(W,(m0,w0),turn):=h;refine wpAny_While<|codeAny_whileLoop (λn s'=>∃σ' H' ,Inv X P4 σ' H' s'/\W n σ' H') ?_ m0 (σ,H,I,w0)
 rintro n s1 ⟨σ1,H1,I1,w1⟩
 refine Kb hp (thn (hc P4 s1 σ1 H1 _ I1<|turn n σ1 H1 w1) λb s2 qz=>?_);let(H2,I2,q2):=qz;cases b with
 |true=>
  let(N,hN,q2):=q2;rw[np rfl];refine Kb hp (thn (hb P4 s2 σ1 H2 _ I2 q2) λf s3 q3=>?_);cases f with
  |next=>
   let(σ3,H3,I3,n3):=q3;let(m',hm,w3):=hN σ3 H3 n3;exact(m',hm,σ3,H3,I3,w3)
  |cont=>
   let(σ3,H3,I3,n3):=q3;let(m',hm,w3):=hN σ3 H3 n3;exact(m',hm,σ3,H3,I3,w3)
  |brk=>exact q3
  |ret v=>exact q3
 |false=>
  rw[gV FP];exact J8 (σ1,H2,I2,q2)
end
structure It where
 go:Nat->Hp->Prop
 yld:Nat->Hp->V->Hp->Prop
 stop:Nat->Hp->Prop
def KY (X:Cx)(P4:↑(Jq×Jt))(H:Hp)(b:Jq):Prop:=
 H b=none/\b≠X.env.locals/\b ∉X.fs/\(b∈X.ex\/↥X.s₀<=b)/\(∀x c ,X.env.cells.lookup x=`c->c≠b)/\∀p∈X.pn++P4,p.1≠b
def Inv.fpOk (I:Inv X P4 σ H s)(hb:↥s<=b)(hn:H' b=none):KY X P4 H' b:=by
 refine(hn,GU<|FT I.lt hb,I.nofs hb,.inr<|F1 I.sz hb,λx c e z=>?_,λp hp z=>?_);let(v,q):=I.cell x c e;exact absurd (FT q.lt<|by rw[z];exact hb)<|GF _;exact absurd (FT (Fy (I.pin p hp).1)<|by rw[z];exact hb)<|GF _
structure Lj (P:Jn)(w:Jo)(K:Zf)(tg:Expr)(J:It)(fp:↑Jq)(it:Jq)(tn:Nat->Jp->Prop):Prop where
 mem:it∈fp
 obj:∀i h,tn i h->∀b∈fp,∃o,h.get? b=`o/\∀v,o.data≠.cell v
 keep:∀i h h',tn i h->(∀b∈fp ,∀o,h.get? b=`o->h'.get? b=`o)->tn i h'
 item:∀ (X:Cx),X.prog=P->X.w=w->X.K=K->X.calm=true->∀ (i:Nat) (P4:↑(Jq×Jt)) (s:Js) (σ:St) (H:Hp) (E:Jk->Js->Prop),Inv X P4 σ H s->(∀b∈fp ,KY X P4 H b)->tn i s.heap->J.go i H->
  Jw (Jx P w) X.A (Kc<|.ref it) (λr s1=>∃u ,r=`u/\
   Jw (Jx P w) X.A (Kd tg (.ref it) u) (λ_ s2=>∃x H' ,Inv X P4 σ H' s2/\RelV x u/\J.yld i H x H'/\tn (i+1) s2.heap/\∀b∈fp,H' b=none) E s1) E s
 done:∀ (X:Cx),X.prog=P->X.w=w->X.K=K->X.calm=true->∀ (i:Nat) (P4:↑(Jq×Jt)) (s:Js) (σ:St) (H:Hp) (E:Jk->Js->Prop),Inv X P4 σ H s->(∀b∈fp ,KY X P4 H b)->tn i s.heap->J.stop i H->
  Jw (Jx P w) X.A (Kc<|.ref it) (λr s1=>r=none/\Inv X P4 σ H s1) E s
 self:∀ (A:Ju) (i:Nat) (s:Js) (Q:Jk->Js->Prop) (E:Jk->Js->Prop),tn i s.heap->Q (.ref it) s->Jw (Jx P w) A (pyIter<|.ref it) Q E s
abbrev TI:=St->Hp->(It->Hp->Prop)->Prop
def PIE (X:Cx)(P4:↑(Jq×Jt))(σ:St)(tg:Expr)(R:It->Hp->Prop)(itv:Jk)(s2:Js):Prop:=
 ∃ (it:Jq) (fp:↑Jq) (tn:Nat->Jp->Prop) (J:It) (H':Hp),itv=.ref it/\Inv X P4 σ H' s2/\Lj X.prog X.w X.K tg J fp it tn/\tn 0 s2.heap/\(∀b∈fp ,KY X P4 H' b)/\R J H'
def PI (X:Cx)(tg iter:Expr)(wi:TI):Prop:=
 ∀ (P4:↑(Jq×Jt)) (s:Js) (σ:St) (H:Hp) (R:It->Hp->Prop),Inv X P4 σ H s->wi σ H R->
   Jw (Jx X.prog X.w) X.A (JX iter X.env) (λv s1=>Jw (Jx X.prog X.w) X.A (pyIter v) (PIE X P4 σ tg R) X.xe s1) X.xe s
def wV {M:Model}{E:Jk->Js->Prop}{Q:Unit->Js->Prop}(ho:s.heap.get? it=`o)(hc:o.cls=.type n)(hd:o.data=.fields vs)
  (hn:["enumerate","zip","dict_itemiterator","dict_reverseitemiterator","odict_iterator","itertools.zip_longest","itertools.pairwise"].contains n=false)(hQ:Q () s):Jw M A (Kd tg (.ref it) u) Q E s:=by
 unfold Kd;cases tg<;>first
  |exact JC hQ
  |(cases u<;>first
   |exact JC hQ
   |(refine Jy (wpAny_load ho ?_)
     rw[hc,hd];show Jw M A (if (["enumerate","zip","dict_itemiterator","dict_reverseitemiterator","odict_iterator","itertools.zip_longest","itertools.pairwise"].contains n && vs[0]?==some (Ke _))=true then _ else _) Q E s;rw[gV<|by intro h;rw[hn,Ho]at h;cases h]
     exact JC hQ))
noncomputable def Itl (K:Zf)(a:Jq):It:=
 (λi H=>∃xs x,SqL K H a xs/\xs[i]?=`x,λi H x H'=>H'=H/\∀xs,SqL K H a xs->xs[i]?=`x,λi H=>∃xs,SqL K H a xs/\⇑xs<=i)
noncomputable def Itt (K:Zf)(a:Jq):It:=
 (λi H=>∃xs x,SqT K H a xs/\xs[i]?=`x,λi H x H'=>H'=H/\∀xs,SqT K H a xs->xs[i]?=`x,λi H=>∃xs,SqT K H a xs/\⇑xs<=i)
noncomputable def Itr (lo:Int)(n:Nat):It:=(λi J=>i<n,λi H x H'=>H'=H/\x=.int (lo+i),λi J=>n<=i)
def rS {P:Jn}{w:Jo}{K:Zf}{tg:Expr}(a it:Jq):Lj P w K tg (Itl K a) [it] it (λi h=>h.IsListIter it a i) where
 mem:=⇑_
 obj:=λi h st b hb=>by
  have e:b=it:=by simpa using hb
  subst e;let(o,e,c,d):=st;exact(o,e,λv z=>by rw[d]at z;cases z)
 keep:=λi h h' st k=>st.at λo e=>k it ⇑_ o e
 item:=by intro X hP hw hK hc i P4 s σ H E I hf st hg;subst hP hw hK;let(xs,x,hq,hx):=hg;let(its,rv,p,hz):=I.list hq;let(u,hu,ru):=rv.get hx;let(f0,f1,f2,f3,f4,f5):=hf it ⇑_;refine wpAny_pyNext_list_item st p.isList (x:=u) (by simpa using hu) λh' st' sb=>?_;have I1:Inv X P4 σ H {s with heap:=h'}:=I.turned (t':=s.toks) (λb o hb e=>(sb.2 b hb).trans e) f0 f1 f3 f4 f5;let(o,e,c,d):=id st';exact(u,rfl,wV (s:={s with heap:=h'}) e c d ↥_ (x,H,I1,ru,(rfl,λys hy=>by rw[I.list_inj hy hq];exact hx),st',λb hb=>(hf b hb).1))
 done:=by intro X hP hw hK hc i P4 s σ H E I hf st hg;subst hP hw hK;let(xs,hq,hx):=hg;let(its,rv,p,hz):=I.list hq;let(f0,f1,f2,f3,f4,f5):=hf it ⇑_;have hl:=⇑rv;exact wpAny_pyNext_list_end (I.ok.hd hc) st p.isList (by simp;omega) λh' eb=>(rfl,I.turned (t':=s.toks) (λb o hb e=>eb b o hb e) f0 f1 f3 f4 f5)
 self:=λJ J J J J st h=>wpAny_pyIter_listiter st h
def oC {P:Jn}{w:Jo}{K:Zf}{tg:Expr}(a it:Jq):Lj P w K tg (Itt K a) [it] it (λi h=>h.IsTupleIter it a i) where
 mem:=⇑_
 obj:=λi h st b hb=>by
  have e:b=it:=by simpa using hb
  subst e;let(o,e,c,d):=st;exact(o,e,λv z=>by rw[d]at z;cases z)
 keep:=λi h h' st k=>st.at λo e=>k it ⇑_ o e
 item:=by intro X hP hw hK hc i P4 s σ H E I hf st hg;subst hP hw hK;let(xs,x,hq,hx):=hg;let(its,rv,p,hz):=I.tuple hq;let(u,hu,ru):=rv.get hx;let(f0,f1,f2,f3,f4,f5):=hf it ⇑_;refine wpAny_pyNext_tuple_item st (show s.heap.IsTuple a its.toArray from p) (x:=u) (by simpa using hu) λh' st' sb=>?_;have I1:Inv X P4 σ H {s with heap:=h'}:=I.turned (t':=s.toks) (λb o hb e=>(sb.2 b hb).trans e) f0 f1 f3 f4 f5;let(o,e,c,d):=id st';exact(u,rfl,wV (s:={s with heap:=h'}) e c d ↥_ (x,H,I1,ru,(rfl,λys hy=>by rw[I.tuple_inj hy hq];exact hx),st',λb hb=>(hf b hb).1))
 done:=by intro X hP hw hK hc i P4 s σ H E I hf st hg;subst hP hw hK;let(xs,hq,hx):=hg;let(its,rv,p,hz):=I.tuple hq;let(f0,f1,f2,f3,f4,f5):=hf it ⇑_;have hl:=⇑rv;exact wpAny_pyNext_tuple_end (I.ok.hd hc) st (show s.heap.IsTuple a its.toArray from p) (by simp;omega) λh' eb=>(rfl,I.turned (t':=s.toks) (λb o hb e=>eb b o hb e) f0 f1 f3 f4 f5)
 self:=λJ J J J J st h=>wpAny_pyIter_tupleiter st h
def oE {P:Jn}{w:Jo}{K:Zf}{tg:Expr}(it:Jq)(lo:Int)(n:Nat):Lj P w K tg (Itr lo n) [it] it (λi h=>IsRangeIter h it (lo+(i:Nat)*1) ((n:Int)-(i:Nat)) 1) where
 mem:=⇑_
 obj:=λi h st b hb=>by
  have e:b=it:=by simpa using hb
  subst e
  exact(_,st,λv z=>by
   have z':Data.fields _=Data.cell v:=z
   cases z')
 keep:=λi h h' st k=>k it ⇑_ _ st
 item:=by intro X hP hw hK hc i P4 s σ H E I hf st hg;subst hP hw hK;let(f0,f1,f2,f3,f4,f5):=hf it ⇑_;have W:=Walks.range (prog:=X.prog) (w:=X.w) (I.ok.hd hc) it lo 1 n;refine W.item i s _ _ hg st λv h' tk hv st' kk=>?_;let(t,rfl):=hv;have I1:Inv X P4 σ H {s with heap:=h',toks:=tk}:=I.turned (λb o hb e=>kk b o (by simpa using hb) e) f0 f1 f3 f4 f5;refine(_,rfl,wV (s:={s with heap:=h',toks:=tk}) (n:="range_iterator") st' rfl rfl ↥_ (.int<|lo+i,H,I1,(t,?_),(rfl,rfl),st',λb hb=>(hf b hb).1));rw[Int.mul_one]
 done:=by intro X hP hw hK hc i P4 s σ H E I hf st hg;subst hP hw hK;let(f0,f1,f2,f3,f4,f5):=hf it ⇑_;exact wpAny_pyNext_range_end (I.ok.hd hc) st (by have:n<=i:=hg;omega) λh' eb=>(rfl,I.turned (t':=s.toks) (λb o hb e=>eb b o hb e) f0 f1 f3 f4 f5)
 self:=λJ J J J J st h=>wpAny_pyIter_rangeiter st h
end
section
section
variable {X:Cx}{tg:Expr}
noncomputable def iList (K:Zf)(tl:TE):TI:=λσ H R=>tl σ H λx H1=>∃a,x=.ref a/\(∃xs ,SqL K H1 a xs)/\R (Itl K a) H1
noncomputable def iTup (K:Zf)(tl:TE):TI:=λσ H R=>tl σ H λx H1=>∃a,x=.ref a/\(∃xs ,SqT K H1 a xs)/\R (Itt K a) H1
def yv {tl:TE}(hl:PE X l tl):PI X tg l (iList X.K tl):=by
 intro P4 s σ H R I h;refine thn (hl P4 s σ H _ I h) λv s1 qz=>?_;let(x,H1,I1,r1,q1):=qz;let(a,e,(xs,hq),q):=q1;subst e;cases r1;let(its,rv,p,hz):=I1.list hq;refine wpAny_pyIter_list p.isList ?_;refine(↥s1,[↥s1],_,_,H1,rfl,I1.kept (t':=s1.toks) λb o e=>Fx _ e,rS a _,(_,FM _ rfl,rfl,rfl),λb hb=>?_,q);have e:b=↥s1:=by simpa using hb
 subst e;exact I1.fpOk (Fw _)<|I1.hok.fresh<|Fw _
def Ba {tl:TE}(hl:PE X l tl):PI X tg l (iTup X.K tl):=by
 intro P4 s σ H R I h;refine thn (hl P4 s σ H _ I h) λv s1 qz=>?_;let(x,H1,I1,r1,q1):=qz;let(a,e,(xs,hq),q):=q1;subst e;cases r1;let(its,rv,p,hz):=I1.tuple hq;refine Kf (show s1.heap.IsTuple a its.toArray from p) ?_;refine(↥s1,[↥s1],_,_,H1,rfl,I1.kept (t':=s1.toks) λb o e=>Fx _ e,oC a _,(_,FM _ rfl,rfl,rfl),λb hb=>?_,q);have e:b=↥s1:=by simpa using hb
 subst e;exact I1.fpOk (Fw _)<|I1.hok.fresh<|Fw _
def mZ {R:It->Hp->Prop}{E:Jk->Js->Prop}{lo hi:Int}{tk:Nat}(I:Inv X P4 σ H s)(h1: -(2^62)<=lo)(h2:lo<2^62)(h3: -(2^62)<=hi)(h4:hi<2^62)
  (q:R (Itr lo (hi-lo).toNat) H):Jw (Jx X.prog X.w) X.A (pyIter<|.ref ↥s) (PIE X P4 σ tg R) E {s with heap:=s.heap.push {cls:=.type "range",data:=.fields #[.int lo t,.int hi u,.int 1 v]},toks:=tk}:=by
 refine wpAny_pyIter_range (IsRange.new ..) (small_one h1 h2 h3 h4) ?_;have I1:Inv X P4 σ H {s with heap:=s.heap.push {cls:=.type "range",data:=.fields #[.int lo t,.int hi u,.int 1 v]},toks:=tk}:=I.kept λb o e=>Fx _ e
 refine((s.heap.push {cls:=.type "range",data:=.fields #[.int lo t,.int hi u,.int 1 v]}).objs.size,[(s.heap.push {cls:=.type "range",data:=.fields #[.int lo t,.int hi u,.int 1 v]}).objs.size],_,_,H,rfl,
  I1.kept (t':=tk) λb o e=>Fx _ e,oE _ lo (hi-lo).toNat,?_,λb hb=>?_,q)
 .have e1:lo+((0:Nat):Int)*1=lo:=⇑_;have e2:(((hi-lo).toNat:Nat):Int)-((0:Nat):Int)=Jl.Range.rangeSize lo hi 1:=by rw[rangeSize_one];split<;>omega
  show IsRangeIter _ _ (lo+((0:Nat):Int)*1) ((((hi-lo).toNat:Nat):Int)-((0:Nat):Int)) 1;rw[e1,e2];exact FM _ rfl
 .have e:b=(s.heap.push {cls:=.type "range",data:=.fields #[.int lo t,.int hi u,.int 1 v]}).objs.size:=by simpa using hb
  subst e;exact I1.fpOk (Fw _)<|I1.hok.fresh<|Fw _
noncomputable def iRng1 (ta:TA):TI:=λσ H R=>ta σ H λvs H1=>∃j:Int,vs=[.int j]/\ -(2^62)<=j/\j<2^62/\R (Itr 0 j.toNat) H1
noncomputable def iRng2 (ta:TA):TI:=λσ H R=>ta σ H λvs H1=>∃i j:Int,vs=[.int i,.int j]/\(-(2^62)<=i/\i<2^62/\ -(2^62)<=j/\j<2^62)/\R (Itr i (j-i).toNat) H1
def sD (hg:Gl X "range")(hm:X.mg "range"=none)(ha:PA X [a] ta)(hs:J1 [a] X.env=[(false ,JX a X.env)]:=by rfl):PI X tg (.Call (.Name "range" p) [a] [] pos) (iRng1 ta):=by
 intro P4 s σ H R I h;refine Call_<|bu I hg hm boot_range<|PyProof.Rows.callWith_type1 (thn (ha pos P4 s σ H _ I h) λus s1 qz=>?_) hs rfl;let(vs,H1,I1,r1,q1):=qz;let(j,e,q1,q2,q):=q1;subst e;cases r1 with
 |cons r rr=>
  cases rr;let(t,rfl):=r;exact call_range_1<|mZ I1 ∅ ∅ q1 q2 (by simpa using q)
def sC (hg:Gl X "range")(hm:X.mg "range"=none)(ha:PA X [a,b] ta)(hs:J1 [a,b] X.env=[(false ,JX a X.env),(false ,JX b X.env)]:=by rfl)(hs2:J1 [b] X.env=[(false ,JX b X.env)]:=by rfl):
  PI X tg (.Call (.Name "range" p) [a,b] [] pos) (iRng2 ta):=by
 intro P4 s σ H R I h;refine Call_ (bu I hg hm boot_range<|PyProof.Rows.callWith_type1 (thn (ha pos P4 s σ H _ I h) λus s1 qz=>?_) (by rw[hs,hs2])<|by rw[hs2];rfl);let(vs,H1,I1,r1,q1):=qz;let(i,j,e,(q1,q2,q3,q4),q):=q1;subst e;cases r1 with
 |cons r rr=>
  cases rr with
  |cons r' rr=>
   cases rr;let(t,rfl):=r;let(t',rfl):=r';exact call_range_2<|mZ I1 q1 q2 q3 q4 q
noncomputable def tFor (wi:TI)(g:TG)(tb:TS):TS:=λD σ H=>wi σ H λJ H1=>∃W:Nat->Nat->St->Hp->Prop,(∃m ,W 0 m σ H1)/\∀i m σ H,W i m σ H->
 (J.stop i H/\D.nx σ H)\/(J.go i H/\∃N:St->Hp->Prop ,(∀σ' H' ,N σ' H'->∃m',m'<m/\W (i+1) m' σ' H')/\∀x H',J.yld i H x H'->g x σ H' λσ2 H2=>tb {D with nx:=N,ct:=N,bk:=D.nx} σ2 H2)
noncomputable def jd (fp:↑Jq)(h:Jp):↑(Jq×Jt):=fp.filterMap λb=>(h.get? b).map λo=>(b ,o)
def fQ (hb:b∈fp)(e:h.get? b=`o):(b ,o)∈jd fp h:=IK.mpr (b,hb,by rw[e];rfl)
def sL (hp:p∈jd fp h):p.1∈fp/\h.get? p.1=some p.2:=by
 let(b,hb,e):=IK.mp hp;cases q:h.get? b with
 |none=>rw[q]at e;cases e
 |some o=>
  rw[q]at e;have e':(b ,o)=p:=Option.some.inj e;subst e';exact(hb,q)
def Inv.pinned (I:Inv X P4 σ H s)(hf:∀b∈fp ,KY X P4 H b)(ho:∀b∈fp ,∃o,s.heap.get? b=`o/\∀v,o.data≠.cell v):Inv X (P4++jd fp s.heap) σ H s:=
 I.pins_of λp hp=>(Gg.mp hp).elim (λz=>I.pin p<|Gh _ z) λz=>by let(hb,e):=sL z;let(f0,f1,f2,_):=hf p.1 hb;let(o,e',d):=ho p.1 hb;rw[e]at e';cases e';exact(e,f0,f1,f2,d)
def Inv.unpinned (I:Inv X (P4++pl) σ H s):Inv X P4 σ H s:=I.pins_of λp hp=>I.pin p<|Gh _<|Hn _ hp
def A4 (hp:Ka (Jx X.prog X.w) X.A X.env X.xe)(hc:X.calm=true)(hi:PI X tg iter wi)(hg:PG X tg g)(hb:PSs X body tb)
  (hs:∀x ,Kg iter X.env x=pure x:=by intro _;rfl):PS X (.For tg iter body [] pos) (tFor wi g tb):=by
 intro P4 s σ H D I h;refine wpAny_For (thn (hi P4 s σ H _ I h) λv s1 h1=>thn h1 λitv s2 h2=>?_) hs;let(it,fp,tn,J,H2,e,I2,T,st2,f2,W,(m0,w0),turn):=h2;subst e;have stat:∀ {H':Hp},(∀b∈fp ,H' b=none)->∀b∈fp,KY X P4 H' b:=λhn b hb=>(hn b hb,(f2 b hb).2)
 refine codeAny_forLoop_any (λn s'=>∃i σ' H' ,Inv X P4 σ' H' s'/\tn i s'.heap/\(∀b∈fp ,H' b=none)/\W i n σ' H') ?_ m0 (0,σ,H2,I2,st2,λb hb=>(f2 b hb).1,w0)
 rintro n s3 ⟨i,σ3,H3,I3,st3,fr3,w3⟩
 rcases turn i n σ3 H3 w3 with⟨stop,qn⟩|⟨go,N,hN,step⟩
 refine Kb hp (thn (T.done X rfl rfl rfl hc i P4 s3 σ3 H3 X.xe I3 (stat fr3) st3 stop) λr s4 qz=>?_);let(hr,I4):=qz;subst hr;exact J8 (σ3,H3,I4,qn)
 .refine Kb hp (thn (T.item X rfl rfl rfl hc i P4 s3 σ3 H3 X.xe I3 (stat fr3) st3 go) λr s4 qz=>?_);let(u,hr,h4):=qz;subst hr;refine Kb hp (thn h4 λz s5 qz=>?_);let(x,H5,I5,r5,y5,st5,fr5):=qz;have I5':=I5.pinned (stat fr5)<|T.obj _ _ st5;refine Kb hp (thn (hg _ s5 σ3 H5 x u _ I5' r5<|step x H5 y5) λz s6 qz=>?_);let(σ6,H6,I6,q6):=qz;refine Kb hp (thn (hb _ s6 σ6 H6 _ I6 q6) λf s7 q7=>?_);have again:∀ {σ7:St}{H7:Hp},Inv X (P4++jd fp s5.heap) σ7 H7 s7->N σ7 H7->∃m,m<n/\∃i σ' H',Inv X P4 σ' H' s7/\tn i s7.heap/\(∀b∈fp ,H' b=none)/\W i m σ' H':=λ{σ7 H7} I7 n7=>by let(m',hm,w7):=hN σ7 H7 n7;refine(m',hm,i+1,σ7,H7,I7.unpinned,T.keep _ _ _ st5 λb hb o e=>(I7.pin (b ,o)<|Gh _<|Gh _<|fQ hb e).1,λb hb=>?_,w7);let(o,e,d):=T.obj _ _ st5 b hb;exact (I7.pin (b ,o)<|Gh _<|Gh _<|fQ hb e).2.1
  cases f with|next=>let(σ7,H7,I7,n7):=q7;exact again I7 n7|cont=>let(σ7,H7,I7,n7):=q7;exact again I7 n7|brk=>let(σ7,H7,I7,q7):=q7;exact(σ7,H7,I7.unpinned,q7)|ret v=>let(x7,σ7,H7,I7,r7,q7):=q7;exact(x7,σ7,H7,I7.unpinned,r7,q7)
end
end
section
abbrev R2:=V->V->Hp->VK->Prop
def OpR (X:Cx)(f:Jk->Jk->Sem Jk)(r:R2):Prop:=
 ∀ (P4:↑(Jq×Jt)) (s:Js) (σ:St) (H:Hp) (x y:V) (v u:Jk) (Q:VK),Inv X P4 σ H s->RelV x v->RelV y u->r x y H Q->
   Jw (Jx X.prog X.w) X.A (f v u) (EP X P4 σ Q) X.xe s
def UnR (X:Cx)(f:Jk->Sem Jk)(r:V->Hp->VK->Prop):Prop:=
 ∀ (P4:↑(Jq×Jt)) (s:Js) (σ:St) (H:Hp) (x:V) (v:Jk) (Q:VK),Inv X P4 σ H s->RelV x v->r x H Q->
   Jw (Jx X.prog X.w) X.A (f v) (EP X P4 σ Q) X.xe s
def CallR (X:Cx)(f:Jk)(r:↑V->Hp->VK->Prop):Prop:=
 ∀ (P4:↑(Jq×Jt)) (s:Js) (σ:St) (H:Hp) (xs:↑V) (us:↑Jk) (Q:VK),Inv X P4 σ H s->Vals xs us->r xs H Q->
   Jw (Jx X.prog X.w) X.A (call f us) (EP X P4 σ Q) X.xe s
noncomputable def tOp (r:R2)(ta tb:TE):TE:=λσ H Q=>ta σ H λx H1=>tb σ H1 λy H2=>r x y H2 Q
noncomputable def tUn (r:V->Hp->VK->Prop)(ta:TE):TE:=λσ H Q=>ta σ H λx H1=>r x H1 Q
noncomputable def rI (C:Int->Int->Prop)(g:Int->Int->V):R2:=λx y H Q=>∃i j,x=.int i/\y=.int j/\C i j/\Q (g i j) H
noncomputable def rI0 (g:Int->Int->V):R2:=λx y H Q=>∃i j,x=.int i/\y=.int j/\Q (g i j) H
def rU (g:Int->V):V->Hp->VK->Prop:=λx H Q=>∃i,x=.int i/\Q (g i) H
section
variable {X:Cx}{a b:Expr}{ta tb:TE}{pos:JY}
def Ls (ha:PE X a ta)(hb:PE X b tb){R:V->V->Hp->Prop}(I:Inv X P4 σ H s)
  (h:ta σ H λx H1=>tb σ H1 λy H2=>R x y H2){Q:Jk->Js->Prop}{f:Jk->Jk->Sem Jk}
  (hf:∀v u s2 x y H2 ,Inv X P4 σ H2 s2->RelV x v->RelV y u->R x y H2->Jw (Jx X.prog X.w) X.A (f v u) Q X.xe s2):
  Jw (Jx X.prog X.w) X.A (JX a X.env) (λv s₁=>Jw (Jx X.prog X.w) X.A (JX b X.env) (λu s₂=>Jw (Jx X.prog X.w) X.A (f v u) Q X.xe s₂) X.xe s₁) X.xe s:=by
 refine thn (ha P4 s σ H _ I h) λv s1 qz=>?_;let(x,H1,I1,r1,q1):=qz;refine thn (hb P4 s1 σ H1 _ I1 q1) λu s2 qz=>?_;let(y,H2,I2,r2,q2):=qz;exact hf v u s2 x y H2 I2 r1 r2 q2
def Ag (ho:OpR X (Kh op) r)(ha:PE X a ta)(hb:PE X b tb):PE X (.BinOp a op b pos) (tOp r ta tb):=by intro P4 s σ H Q I h;exact wpAny_BinOp (Ls ha hb I h λv u s2 x y H2 I2 rx ry q=>ho P4 s2 σ H2 x y v u Q I2 rx ry q)
def DD {r:V->Hp->VK->Prop}(ho:UnR X (unaryOp op) r)(ha:PE X a ta):PE X (.UnaryOp op a pos) (tUn r ta):=by intro P4 s σ H Q I h;exact UnaryOp_ (thn (ha P4 s σ H _ I h) λv s1 (x,H1,I1,r1,q1)=>ho P4 s1 σ H1 x v Q I1 r1 q1)
def opI {f:Jk->Jk->Sem Jk}{C:Int->Int->Prop}{g:Int->Int->Int}
  (rule:∀ (i j:Int) (t u:Tok) (s:Js) (Q:Jk->Js->Prop) (E:Jk->Js->Prop) ,C i j->Q (.int (g i j) s.toks) {s with toks:=s.toks+1}->Jw (Jx X.prog X.w) X.A (f (.int i t)<|.int j u) Q E s):
  OpR X f (rI C λi j=>.int<|g i j):=by
 intro P4 s σ H x y v u Q I rx ry h;let(i,j,rfl,rfl,hc,q):=h;let(t,rfl):=rx;let(t',rfl):=ry;exact rule i j t t' s _ _ hc (.int<|g i j,H,I.tok _,(_,rfl),q)
def opI0 {f:Jk->Jk->Sem Jk}{g:Int->Int->Int}
  (rule:∀ (i j:Int) (t u:Tok) (s:Js) (Q:Jk->Js->Prop) (E:Jk->Js->Prop) ,Q (.int (g i j) s.toks) {s with toks:=s.toks+1}->Jw (Jx X.prog X.w) X.A (f (.int i t)<|.int j u) Q E s):
  OpR X f (rI0 λi j=>.int<|g i j):=by
 intro P4 s σ H x y v u Q I rx ry h;let(i,j,rfl,rfl,q):=h;let(t,rfl):=rx;let(t',rfl):=ry;exact rule i j t t' s _ _ (.int<|g i j,H,I.tok _,(_,rfl),q)
def NI {f:Jk->Jk->Sem Jk}{g:Int->Int->Bool}
  (rule:∀ (i j:Int) (t u:Tok) (s:Js) (Q:Jk->Js->Prop) (E:Jk->Js->Prop) ,Q (.bool<|g i j) s->Jw (Jx X.prog X.w) X.A (f (.int i t)<|.int j u) Q E s):
  OpR X f (rI0 λi j=>.bl<|g i j):=by
 intro P4 s σ H x y v u Q I rx ry h;let(i,j,rfl,rfl,q):=h;let(t,rfl):=rx;let(t',rfl):=ry;exact rule i j t t' s _ _ (.bl<|g i j,H,I,rfl,q)
def KO (i j:Int):Prop:=0<=j/\j<=1000000/\i.natAbs<2^64
def CMul (i j:Int):Prop:=(-(2^64)<i/\i<2^64)\/(-(2^64)<j/\j<2^64)
def CMul.ok {i j:Int}(h:CMul i j):IntMulOk i j:=by
 rcases h with⟨h1,h2⟩|⟨h1,h2⟩
 exact .of_left<|intBits_le_64 h1 h2;exact .of_right<|intBits_le_64 h1 h2
def NK:OpR X (Kh .Add) (rI0 λi j=>.int<|i+j):=opI0 λJ J J J J J J q=>add_int q
def Bq:OpR X (Kh .Sub) (rI0 λi j=>.int<|i-j):=opI0 λJ J J J J J J q=>sub_int q
def Bu:OpR X (Kh .Mod) (rI (λJ j=>0<j) λi j=>.int<|i%j):=opI λi j J J J J J hc q=>by have h1:(0:Int)<j:=hc;exact mod_int' ∅ (by rw[Int.fmod_eq_emod_of_nonneg i ∅];exact q)
def Bs:OpR X (Kh .Pow) (rI KO λi j=>.int<|i^j.toNat):=opI λJ J J J J J J hc q=>pow_int_small hc.1 hc.2.1 hc.2.2 q
def unI {f:Jk->Sem Jk}{g:Int->Int}
  (rule:∀ (i:Int) (t:Tok) (s:Js) (Q:Jk->Js->Prop) (E:Jk->Js->Prop) ,Q (.int (g i) s.toks) {s with toks:=s.toks+1}->Jw (Jx X.prog X.w) X.A (f<|.int i t) Q E s):
  UnR X f (rU λi=>.int<|g i):=by
 intro P4 s σ H x v Q I rx h;let(i,rfl,q):=h;let(t,rfl):=rx;exact rule i t s _ _ (.int<|g i,H,I.tok _,(_,rfl),q)
def Ax:UnR X (unaryOp .USub) (rU λi=>.int<|-i):=unI λJ J J J J q=>neg_int q
end
noncomputable def O0:V->V->Bool
 |.non,.non=>true|.non,.int _=>true|.int _,.non=>true|.non,.bl _=>true|.bl _,.non=>true|.non,.str _=>true|.str _,.non=>true
 |.int _,.int _=>true|.bl _,.bl _=>true|.str _,.str _=>true|.byt _,.byt _=>true
 |.int _,.str _=>true|.str _,.int _=>true|.bl _,.str _=>true|.str _,.bl _=>true
 |_,_=>false
noncomputable def rEq:R2:=λx y H Q=>O0 x y=true/\Q (.bl<|decide<|x=y) H
noncomputable def rNe:R2:=λx y H Q=>O0 x y=true/\Q (.bl<|!decide (x=y)) H
def rB {i j:Int}:decide (V.int i=V.int j)=(i==j):=by rw[Gv];simp
def xr {i j:Bool}:decide (V.bl i=V.bl j)=(i==j):=by rw[Gv];simp
def rA {i j:Str}:decide (V.str i=V.str j)=(i==j):=by rw[Gv];simp
def rC :decide (V.byt i=V.byt j)=(i.toList==j.toList):=by rw[Gv];cases i;cases j;simp
section
variable {X:Cx}{a b c:Expr}{ta tb:TE}{pos:JY}
def aC {k k':Bool}(I:Inv X P4 σ H s)(q:Q (.bl k) H)(e:k=k'):EP X P4 σ Q (.bool k') s:=by subst e;exact(.bl k,H,I,rfl,q)
def op_eq:OpR X (J4 .Eq) rEq:=by
 intro P4 s σ H x y v u Q I rx ry h;let(hs,q):=h;cases x with
 |non=>
  cases rx;cases y with|non=>cases ry;exact PySem.EqNone.eq_none_none (aC I q ⇑_)|bl j=>cases ry;exact PySem.EqNone.eq_none_bool (aC I q ⇑_)|int j=>let(t',rfl):=ry;exact PySem.EqNone.eq_none_int (aC I q ⇑_)|str j=>let(t',rfl):=ry;exact PySem.EqNone.eq_none_str (aC I q ⇑_)|_=>exact absurd (show false=true from hs) FP
 |bl i=>
  cases rx;cases y with|non=>cases ry;exact PySem.EqNone.eq_bool_none (aC I q ⇑_)|bl j=>cases ry;exact eq_bool (aC I q xr)|str j=>let(t',rfl):=ry;exact PySem.EqMixed.eq_bool_str (aC I q ⇑_)|_=>exact absurd (show false=true from hs) FP
 |int i=>
  let(t,rfl):=rx;cases y with|non=>cases ry;exact PySem.EqNone.eq_int_none (aC I q ⇑_)|int j=>let(t',rfl):=ry;exact eq_int (aC I q rB)|str j=>let(t',rfl):=ry;exact PySem.EqMixed.eq_int_str (aC I q ⇑_)|_=>exact absurd (show false=true from hs) FP
 |str i=>
  let(t,rfl):=rx;cases y with|non=>cases ry;exact PySem.EqNone.eq_str_none (aC I q ⇑_)|bl j=>cases ry;exact PySem.EqMixed.eq_str_bool (aC I q ⇑_)|int j=>let(t',rfl):=ry;exact PySem.EqMixed.eq_str_int (aC I q ⇑_)|str j=>let(t',rfl):=ry;exact eq_str (aC I q rA)|_=>exact absurd (show false=true from hs) FP
 |byt i=>
  let(t,rfl):=rx;cases y with|byt j=>let(t',rfl):=ry;exact PySem.W.eq_bytes (aC I q rC)|_=>exact absurd (show false=true from hs) FP
 |_=>cases y<;>exact absurd (show false=true from hs) FP
def op_ne:OpR X (J4 .NotEq) rNe:=by
 intro P4 s σ H x y v u Q I rx ry h;let(hs,q):=h;cases x with
 |non=>
  cases rx;cases y with|non=>cases ry;exact PySem.EqNone.ne_none_none (aC I q ⇑_)|bl j=>cases ry;exact PySem.EqNone.ne_none_bool (aC I q ⇑_)|int j=>let(t',rfl):=ry;exact PySem.EqNone.ne_none_int (aC I q ⇑_)|str j=>let(t',rfl):=ry;exact PySem.EqNone.ne_none_str (aC I q ⇑_)|_=>exact absurd (show false=true from hs) FP
 |bl i=>
  cases rx;cases y with|non=>cases ry;exact PySem.EqNone.ne_bool_none (aC I q ⇑_)|bl j=>cases ry;exact ne_bool (aC I q<|congrArg not xr)|str j=>let(t',rfl):=ry;exact PySem.EqMixed.ne_bool_str (aC I q ⇑_)|_=>exact absurd (show false=true from hs) FP
 |int i=>
  let(t,rfl):=rx;cases y with|non=>cases ry;exact PySem.EqNone.ne_int_none (aC I q ⇑_)|int j=>let(t',rfl):=ry;exact ne_int (aC I q<|congrArg not rB)|str j=>let(t',rfl):=ry;exact PySem.EqMixed.ne_int_str (aC I q ⇑_)|_=>exact absurd (show false=true from hs) FP
 |str i=>
  let(t,rfl):=rx;cases y with|non=>cases ry;exact PySem.EqNone.ne_str_none (aC I q ⇑_)|bl j=>cases ry;exact PySem.EqMixed.ne_str_bool (aC I q ⇑_)|int j=>let(t',rfl):=ry;exact PySem.EqMixed.ne_str_int (aC I q ⇑_)|str j=>let(t',rfl):=ry;exact ne_str (aC I q<|congrArg not rA)|_=>exact absurd (show false=true from hs) FP
 |byt i=>
  let(t,rfl):=rx;cases y with|byt j=>let(t',rfl):=ry;exact PySem.W.ne_bytes (aC I q<|congrArg not rC)|_=>exact absurd (show false=true from hs) FP
 |_=>cases y<;>exact absurd (show false=true from hs) FP
def DY:OpR X (J4 .Lt) (rI0 λi j=>.bl<|decide<|i<j):=NI λJ J J J J J J q=>lt_int q
def DZ:OpR X (J4 .Gt) (rI0 λi j=>.bl<|decide<|j<i):=NI λJ J J J J J J q=>gt_int q
def D3:OpR X (J4 .GtE) (rI0 λi j=>.bl<|decide<|j<=i):=NI λJ J J J J J J q=>ge_int q
def NP:OpR X (J4 .In) (λx y H Q=>∃i j ,x=.str i/\y=.str j/\Q (.bl<|!(Jl.Str.occurrences j i 0 ⇑j 1).isEmpty) H):=by intro P4 s σ H x y v u Q I rx ry h;let(i,j,rfl,rfl,q):=h;let(t,rfl):=rx;let(t',rfl):=ry;exact in_str<|aC I q rfl
def Bv:OpR X (J4 .Is) (λx y H Q=>y=.non/\Q (.bl<|decide<|x=.non) H):=by
 intro P4 s σ H x y v u Q I rx ry h;let(rfl,q):=h;cases ry;refine is_none_gen<|aC I q ?_;cases x<;>first
  |(cases rx;rfl)
  |(let(t,rfl):=rx;rfl)
def OpR.or {f:Jk->Jk->Sem Jk}(h:OpR X f r)(h':OpR X f r'):OpR X f (λx y H Q=>r x y H Q\/r' x y H Q):=by
 intro P4 s σ H x y v u Q I rx ry q;rcases q with q|q
 exact h P4 s σ H x y v u Q I rx ry q;exact h' P4 s σ H x y v u Q I rx ry q
def BH (b:Expr)(h:op≠.In:=by decide)(h2:op≠.NotIn:=by decide):J5 op b=false:=by
 have e1:(op==CmpOp.In)=false:=by cases op<;>first|rfl|exact absurd rfl h
 have e2:(op==CmpOp.NotIn)=false:=by cases op<;>first|rfl|exact absurd rfl h2
 cases b<;>simp [J5,e1,e2]
def yC (ho:OpR X (J4 op) r)(ha:PE X a ta)(hb:PE X b tb)(hm:J5 op b=false):PE X (.Compare a [op] [b] pos) (tOp r ta tb):=by intro P4 s σ H Q I h;exact wpAny_Compare1 (Ls ha hb I h λv u s2 x y H2 I2 rx ry q=>ho P4 s2 σ H2 x y v u Q I2 rx ry q) hm
noncomputable def tTest (t:TE):TT:=λσ H Q=>t σ H λx H'=>∃k,x=.bl k/\Q k H'
def yk (ho:OpR X (J4 op) r)(ha:PE X a ta)(hb:PE X b tb)(hm:J5 op b=false):PT X (.Compare a [op] [b] pos) (tTest<|tOp r ta tb):=by
 intro P4 s σ H Q I h
 refine wpAny_isTrue_Compare1 (thn (ha P4 s σ H _ I h) λv s1 (x,H1,I1,r1,q1)=>thn (hb P4 s1 σ H1 _ I1 q1) λu s2 (y,H2,I2,r2,q2)=>
  thn (ho P4 s2 σ H2 x y v u _ I2 r1 r2 q2) λc s3 (z,H3,I3,r3,k,e,q3)=>?_) hm
 subst e;cases r3;exact JJ (H3,I3,q3)
def gW:(sizeLine:Nat)<2^63:=by rw[sizeLine_eq];decide
def NL:OpR X (Kh .Add) (λx y H Q=>∃i j ,x=.str i/\y=.str j/\⇑i+⇑j<=sizeLine/\Q (.str<|i++j) H):=by intro P4 s σ H x y v u Q I rx ry h;let(i,j,rfl,rfl,hz,q):=h;let(t,rfl):=rx;let(t',rfl):=ry;exact add_str (λt' tk=>(.str<|i++j,H,I.tok _,(_,rfl),q)) hz
def PM (r:Vals [x] us):∃u,us=[u]/\RelV x u:=by
 cases r with|cons r1 r2=>cases r2;exact(_,rfl,r1)
def PN (r:Vals [x,y] us):∃u w',us=[u,w']/\RelV x u/\RelV y w':=by
 cases r with
 |cons r1 r2=>
  cases r2 with|cons r3 r4=>cases r4;exact(_,_,rfl,r1,r3)
end
end
section
structure ObjM (h:Jp)(x dx C:Jq)(mA:Str->Option Jk):Prop where
 obj:h.get? x=some (Je C dx)
 ns:h.Ns1 dx mA
 ne:dx≠x
set_option tactic.hygienic true in
def tu {h:Jp}{dx:Jq}{mA:Str->Option Jk}(n:h.Ns1 dx mA):∃od,h.get? dx=`od/\∀name,PySem.W.lookIn name od=some (mA name):=by
 let(o,es,ep,ho,hd,hk,_,hm):=n;refine(o,ho,λname=>?_);have e:=hm name;unfold nsFind findBy at e;rw[<-Array.find?_toList]at e;unfold PySem.W.lookIn;rw[hd];dsimp only;split;rename_i y q;rw[q]at e;exact congrArg some e
 .rename_i q;rw[q]at e;have a:es.toList.any (·.refKey)=false:=by rw[HZ];intro y hy;let(z,t,hkey):=hk y<|Array.mem_toList_iff.mp hy;simp [DictEntry.refKey,hkey]
  have a':¬es.toList.any (·.refKey)=true:=by rw[a];exact FP
  rw[gV a'];exact congrArg some e
def ObjM.look {mA:Str->Option Jk}(I:ObjM h x dx C mA):∃od,PySem.W.InstAt h x (Je C dx) C `od/\∀name,PySem.W.lookIn name od=some (mA name):=
 let (od,ho,hl):=tu I.ns
 (od,(I.obj,rfl,rfl,ho),hl)
section
variable {prog:Jn}{w:Jo}{A:Ju}{E:Jk->Js->Prop}{s:Js}{K:Zf}{x dx C f:Jq}{mA:Str->Option Jk}{name:Str}{v:Jk}
def zF {expr:Bool}{Q:Jk->Js->Prop}(X:K.In s.heap)(I:ObjM s.heap x dx C mA)(hg:PySem.W.plainGet K C name=true)(hh:PySem.W.hasDictIn K C=true)
  (ha:Jf K (.ref C) name=`none)(hv:mA name=`v)(hv':PySem.W.handedIn v=true)(h:Q v {s with toks:=s.toks+1}):
  Jw (Jx prog w) A (getAttr (.ref x) name expr) Q E s:=by
 let(od,J,hl):=I.look;exact PySem.W.get_value X J (PySem.W.plainGet_of hg).1 (PySem.W.findObj_own hh ha rfl<|by rw[hl,hv]) hv' h
def wX {Q:Jk×↑Jk->Js->Prop}(X:K.In s.heap)(I:ObjM s.heap x dx C mA)(hg:PySem.W.plainGet K C name=true)
  (hf:Jf K (.ref C) name=some (some<|.ref f))(ht:PySem.W.isFn K (.ref f)=true)(hv:mA name=none)(h:Q (.ref f ,[.ref x]) s):
  Jw (Jx prog w) A (Ki (.ref x) name pl) Q E s:=by
 let(od,J,hl):=I.look;exact PySem.W.method_fn X J (PySem.W.plainGet_of hg).1 (PySem.W.plainGet_of hg).2 hf (beq_iff_eq.mp ht) (by show (PySem.W.lookIn name od).map (·.isSome)=`false;rw[hl,hv];rfl) h
def ya {ns:↑Str}{Q:Unit->Js->Prop}(X:K.In s.heap)(I:ObjM s.heap x dx C mA)
  (hs:Jf K (.ref C) "__setattr__"=some (some<|.builtin "object.__setattr__"))(hp:PySem.W.plainOver K C=true)(ht:PySem.W.takerIn K C name=`none)(hh:PySem.W.hasDictIn K C=true)
  (hw:PySem.Within mA ns)(hsz:⇑ns<=sizeLine)
  (h:∀h' ,ObjM h' x dx C (λy=>if y=name then `v else mA y)->Ga dx s.heap h'->Q () {s with heap:=h',toks:=s.toks+2}):
  Jw (Jx prog w) A (setAttr (.ref x) name v) Q E s:=by
 let(od,J,hl):=I.look;refine PySem.W.set_plain X J hs (PySem.W.osa_open (s:={s with toks:=s.toks+1}) (r:=none) X J hp ht λb=>?_);let(cd,hc,hd'):=PySem.W.any_some hh;have hx:s.heap.get? x=some (.ref C,`dx,.plain,#[]):=I.obj;refine Jy<|JC<|Jy<|Jy<|wpAny_loadPart hx<|Jy<|PySem.W.Looks.here (s:={s with toks:=s.toks+1}) (PySem.W.looks_clsIn X hc) ?_;rw[hd'];refine JC (a:=`dx)<|Jy<|JC<|Jy ?_;refine wpAny_nsSet1 (s:={s with toks:=s.toks+1}) I.ns λh' hn2 hs2=>?_;let(oD,esD,epD,hoD,hdD,hcD):=hn2.count<|PySem.Within.cons name v hw;refine Jy<|wpAny_lookBehind hoD (by rw[hdD];exact pastItsLine_dict<|F1 hcD<|by rw[FA];omega) ?_;exact JC<|h _ ((hs2.2 _<|Ne.symm I.ne).trans I.obj,hn2,I.ne) hs2
def wv {R:Result->Js->Prop}(X:K.In s.heap)(hm:PySem.W.makesIn K C=true)
  (hi:Jf K (.ref C) "__init__"=some (some<|.ref f))(hf:PySem.W.typeIn K (.ref f)=some (.type "function"))
  (h:codeAny (Jx prog w) (A.under<|.builtin "type.__call__" (.ref C::vs,kw)) (.call (.ref f) (.ref (↥s+1)::vs,kw)) (PySem.W.InitBack (↥s+1) R)
    {s with heap:=(s.heap.push Jg).push<|Je C ↥s}):
  codeAny (Jx prog w) A (.call (.ref C) (vs,kw)) R s:=by
 let(hh,g,d,t,os):=s;exact PySem.W.make_core (PySem.W.makes_of X hm) (PySem.W.looks_findIn X hi) (λself=>PySem.W.bind_fn X self hf) (.inl rfl) h
end
noncomputable def Oj (f:Str)(v:V):↑(Str×V)->↑(Str×V)
 |[]=>[(f ,v)]
 |(g ,x)::r=>if g=f then (g ,v)::r else (g ,x)::Oj f v r
theorem hV (f g:Str)(v:V):∀fs:↑(Str×V),(Oj f v fs).lookup g=if g=f then `v else fs.lookup g
 |[]=>by
  show GL g [(f ,v)]=_;by_cases h:g=f;have hb:(g==f)=true:=beq_iff_eq.mpr h;simp only[GL,hb,np h];have hb:(g==f)=false:=beq_eq_false_iff_ne.mpr h;simp only[GL,hb,gV h]
 |(k ,x)::r=>by
  have ih:=hV f g v r;rw[show Oj f v ((k ,x)::r)=(if k=f then (k ,v)::r else (k ,x)::Oj f v r) from rfl];by_cases hk:k=f
  .rw[np hk];by_cases h:g=k;have hb:(g==k)=true:=beq_iff_eq.mpr h;simp only[GL,hb,np<|h.trans hk];have hb:(g==k)=false:=beq_eq_false_iff_ne.mpr h;simp only[GL,hb,gV (λe:g=f=>h<|e.trans hk.symm)]
  .rw[gV hk];by_cases h:g=k;have hb:(g==k)=true:=beq_iff_eq.mpr h;simp only[GL,hb,gV (λe:g=f=>hk<|h.symm.trans e)];have hb:(g==k)=false:=beq_eq_false_iff_ne.mpr h;simp only[GL,hb];exact ih
theorem gX (f:Str)(v:V):∀fs:↑(Str×V),f∈(Oj f v fs).map (·.1)/\∀g,g∈fs.map (·.1)->g∈(Oj f v fs).map (·.1)
 |[]=>(by simp [Oj],λg h=>by simp at h)
 |(k ,x)::r=>by
  let(i1,i2):=gX f v r;rw[show Oj f v ((k ,x)::r)=(if k=f then (k ,v)::r else (k ,x)::Oj f v r) from rfl];by_cases hk:k=f;rw[np hk];subst hk;exact(⇑_,λg h=>by simpa using h)
  .rw[gV hk];refine(?_,λg h=>?_);rw[Fz];exact FX _ i1
   .rw[Fz]at h ⊢;rcases FC.mp h with e|e
    exact FC.mpr<|.inl e;exact FX _<|i2 g e
theorem hZ (f:Str)(v:V):∀fs:↑(Str×V),⇑(Oj f v fs)<=⇑fs+1
 |[]=>by simp [Oj]
 |(k ,x)::r=>by
  have ih:=hZ f v r;rw[show Oj f v ((k ,x)::r)=(if k=f then (k ,v)::r else (k ,x)::Oj f v r) from rfl];by_cases hk:k=f;rw[np hk,FA,FA];omega;rw[gV hk,FA,FA];omega
def RelO.some_of (r:RelO `v o):∃u,o=`u/\RelV v u:=by
 cases o with|none=>exact (show False from r).elim|some u=>exact(u,rfl,r)
def RelO.none_of (r:RelO none o):o=none:=by
 cases o with|none=>rfl|some u=>exact (show False from r).elim
def tY (r:RelV v u):PySem.W.handedIn u=true:=by
 cases v with|non=>cases (show u=Jk.none from r);rfl|bl b=>cases (show u=Jk.bool b from r);rfl|int i=>let(t,e):=(show∃t ,u=Jk.int i t from r);cases e;rfl|str x=>let(t,e):=(show∃t ,u=Jk.str x t from r);cases e;rfl|byt b=>let(t,e):=(show∃t ,u=Jk.bytes b t from r);cases e;rfl|flt b=>let(t,e):=(show∃t ,u=Jk.float b t from r);cases e;rfl|ref a=>cases (show u=Jk.ref a from r);rfl|ty n=>cases (show u=Jk.type n from r);rfl
section
variable {P:Jn}{w:Jo}{H:Hp}{h:Jp}{a C dx:Jq}{fs:↑(Str×V)}
def iA (hok:HOk P w H h)(e:H a=some (.ins C dx fs)):∃mA,ObjM h a dx C mA/\(∀f ,RelO (fs.lookup f)<|mA f)/\PySem.Within mA (fs.map (·.1))/\⇑fs<=1000/\H dx=some (.own a):=by
 let(d,z,ne,ob,mA,n,r,q):=(show ObjOk P w H h a (.ins C dx fs) from hok a _ e)
 exact(mA,(ob,n,ne),r,q,z,d)
end
structure Cls (K:Zf)(C:Jq):Prop where
 pg:PySem.W.plainGet K C Str.empty=true
 hd:PySem.W.hasDictIn K C=true
 po:PySem.W.plainOver K C=true
 sa:Jf K (.ref C) "__setattr__"=some (some<|.builtin "object.__setattr__")
def Cls.get {K:Zf}(c:Cls K C)(f:Str):PySem.W.plainGet K C f=true:=c.pg
def NoAttr (K:Zf)(C:Jq)(f:Str):Prop:=Jf K (.ref C) f=`none
def NoAttr.taker {K:Zf}{f:Str}(n:NoAttr K C f):PySem.W.takerIn K C f=`none:=by unfold PySem.W.takerIn;rw[show Jf K (.ref C) f=`none from n];rfl
structure K0 (K:Zf)(C:Jq)(m:Str)(f:Jq):Prop where
 at_:Jf K (.ref C) m=some (some<|.ref f)
 fn:PySem.W.isFn K (.ref f)=true
 kp:Jh K (.ref f)=true
section
variable {X:Cx}{P4:↑(Jq×Jt)}{σ:St}{H:Hp}{s:Js}{a C dx:Jq}{fs:↑(Str×V)}{f:Str}{v:V}{A:Ju}{E:Jk->Js->Prop}
def jJ {b:Bool}{Q:Jk->Js->Prop}(I:Inv X P4 σ H s)(e:H a=some (.ins C dx fs))(c:Cls X.K C)(n:NoAttr X.K C f)(l:fs.lookup f=`v)
  (h:∀u s' ,Inv X P4 σ H s'->RelV v u->Q u s'):Jw (Jx X.prog X.w) A (getAttr (.ref a) f b) Q E s:=by
 let(mA,O,r,_,_,_):=iA I.hok e;let(u,hu,ru):=RelO.some_of (v:=v) (o:=mA f) (by rw[<-l];exact r f);exact zF I.kIn O (c.get f) c.hd n hu (tY ru)<|h u _ (I.tok _) ru
def jI {m:Str}{Q:Jk×↑Jk->Js->Prop}(I:Inv X P4 σ H s)(e:H a=some (.ins C dx fs))(c:Cls X.K C)(k:K0 X.K C m g)(l:fs.lookup m=none)
  (h:Q (.ref g ,[.ref a]) s):Jw (Jx X.prog X.w) A (Ki (.ref a) m pl) Q E s:=by
 let(mA,O,r,_,_,_):=iA I.hok e;have hn:mA m=none:=RelO.none_of (by rw[<-l];exact r m);exact wX I.kIn O (c.get m) k.at_ k.fn hn h
def iV {Q:Unit->Js->Prop}(I:Inv X P4 σ H s)(e:H a=some (.ins C dx fs))(c:Cls X.K C)(n:NoAttr X.K C f)(hl:⇑fs<1000)(ry:RelV y u)
  (h:∀s' ,Inv X P4 σ (upd H a<|.ins C dx<|Oj f y fs) s'->Q () s'):Jw (Jx X.prog X.w) A (setAttr (.ref a) f u) Q E s:=by
 let(mA,O,r,wi,_,ho):=iA I.hok e;have hz:⇑(fs.map (·.1))<=sizeLine:=by rw[Fv,sizeLine_eq];omega
 refine ya I.kIn O c.sa c.po n.taker c.hd wi hz λh' O' sb=>h _ ?_;have hd:∃o,h'.get? dx=`o:=let (o,_,_,e',_):=O'.ns;(o,e');refine I.write (x:=a) (e:=dx) (by rw[e];exact True.intro) (.inr ho) (λb q hb z=>(sb.2 b hb).trans z) hd ?_;refine(by rw[af O.ne];exact ho,?_,O.ne,O'.obj,_,O'.ns,λg=>?_,λg hg=>?_);have:=hZ f y fs;omega
 .show RelO ((Oj f y fs).lookup g) (if g=f then `u else mA g);rw[hV];by_cases q:g=f;rw[np q,np q];exact ry;rw[gV q,gV q];exact r g
 .by_cases q:g=f;rw[q];exact (gX f y fs).1;refine (gX f y fs).2 g (wi g λz=>hg ?_);show (if g=f then `u else mA g)=none;rw[gV q];exact z
def Inv.made (I:Inv X P4 σ H s):Inv X P4 σ (upd (upd H ↥s (.own<|↥s+1)) (↥s+1)<|.ins C ↥s [])
  {s with heap:=(s.heap.push Jg).push<|Je C ↥s}:=by
 have e1:(s.heap.push Jg).get? ↥s=`Jg:=FM s.heap rfl;have e2:((s.heap.push Jg).push<|Je C ↥s).get? (↥s+1)=some (Je C ↥s):=by
  have:=FM (s.heap.push Jg) (o:=Je C ↥s) rfl
  rwa[Gc]at this
 have e3:(s.heap.push Jg).Ns ↥s (λJ=>none):=(Jg,#[],_,e1,rfl,(λe he=>absurd he ⇑_),λJ=>rfl)
 have I1:=I.laid (a:=↥s) (o:=.own<|↥s+1) (h':=s.heap.push Jg) (t':=s.toks) (λb u q=>Fx _ q) (Fw _) (_,e1);refine I1.laid (a:=↥s+1) (o:=.ins C ↥s []) (t':=s.toks) (λb u q=>Fx _ q) (GV<|Gc _ _) ?_;have ne:↥s≠↥s+1:=FJ<|HF _;refine(by rw[af ne,aB],FU _,ne,e2,λJ=>none,(Jp.Ns1.of_empty e3).at λo q=>Fx _ q,λJ=>True.intro,λy hy=>absurd rfl hy)
def zT {w:Jo}{f:Str}{Q:Jk->Js->Prop}(hb:Kj e f env (JX e env)=JX e env)
  (h:Jw (Jx prog w) A (JX e env) (λo s₁=>Jw (Jx prog w) A (getAttr o f true) Q E s₁) E s):Jw (Jx prog w) A (JX (.Attribute e f pos) env) Q E s:=
 Attribute_any_ h (by rw[arm_eval_Attribute,hb])
end
noncomputable def tFld (K:Zf)(ta:TE)(f:Str):TE:=λσ H Q=>ta σ H λx H1=>∃a C dx fs v,x=.ref a/\H1 a=some (.ins C dx fs)/\Cls K C/\NoAttr K C f/\fs.lookup f=`v/\Q v H1
noncomputable def sFld (K:Zf)(ta tv:TE)(f:Str):TS:=λD σ H=>tv σ H λy H1=>ta σ H1 λx H2=>∃a C dx fs,x=.ref a/\H2 a=some (.ins C dx fs)/\Cls K C/\NoAttr K C f/\⇑fs<1000/\
 D.nx σ (upd H2 a<|.ins C dx<|Oj f y fs)
def InOp (X:Cx)(op:Operator)(rd:V->V->Hp->VK->Prop):Prop:=
 ∀ (P4:↑(Jq×Jt)) (s:Js) (σ:St) (H:Hp) (x y:V) (u v:Jk) (Q:VK),Inv X P4 σ H s->RelV x u->RelV y v->rd x y H Q->Jw (Jx X.prog X.w) X.A (inplaceOp op u v) (EP X P4 σ Q) X.xe s
noncomputable def yf (K:Zf)(ta tv:TE)(rd:V->V->Hp->VK->Prop)(f:Str):TS:=λD σ H=>ta σ H λx H1=>∃a C dx fs v,x=.ref a/\H1 a=some (.ins C dx fs)/\Cls K C/\NoAttr K C f/\fs.lookup f=`v/\
 tv σ H1 λy H2=>rd v y H2 λz H3=>∃dx' fs',H3 a=some (.ins C dx' fs')/\⇑fs'<1000/\D.nx σ (upd H3 a<|.ins C dx'<|Oj f z fs')
section
variable {X:Cx}{o e value:Expr}{f:Str}{pos pos' tpos:JY}{ta tv:TE}
def Be (he:PE X e ta)(hb:Kj e f X.env (JX e X.env)=JX e X.env):PE X (.Attribute e f pos) (tFld X.K ta f):=by intro P4 s σ H Q I h;refine zT hb (thn (he P4 s σ H _ I h) λu s1 qz=>?_);let(x,H1,I1,rx,a,C,dx,fs,v,ex,ea,c,n,l,q):=qz;subst ex;obtain rfl:u=Jk.ref a:=rx;exact jJ I1 ea c n l λu' s2 I2 ru=>(v,H1,I2,ru,q)
def A5 (ha:PE X o ta)(hv:PE X value tv)(hs:swapsWith value (some<|.Attribute o f pos') pos.line X.env=pure false):PS X (.Assign [.Attribute o f pos'] value pos) (sFld X.K ta tv f):=by intro P4 s σ H D I h;refine plainObj_wpAny_Assign_Attribute (thn (hv P4 s σ H _ I h) λu s1 (y,H1,I1,ry,q)=>thn (ha P4 s1 σ H1 _ I1 q) λov s2 qz=>?_) hs;let(x,H2,I2,rx,a,C,dx,fs,ex,ea,c,n,l,q2):=qz;subst ex;obtain rfl:ov=Jk.ref a:=rx;exact iV I2 ea c n l ry λs3 I3=>(σ,_,I3,q2)
def sw {rd:V->V->Hp->VK->Prop}(ha:PE X o ta)(hv:PE X value tv)(hop:InOp X op rd):PS X (.AugAssign (.Attribute o f tpos) op value pos) (yf X.K ta tv rd f):=by intro P4 s σ H D I h;refine wpAny_AugAssign_AttributeAny (thn (ha P4 s σ H _ I h) λov s1 qz=>?_);let(x,H1,I1,rx,a,C,dx,fs,v,ex,ea,c,n,l,q):=qz;subst ex;obtain rfl:ov=Jk.ref a:=rx;refine jJ I1 ea c n l λu s2 I2 ru=>thn (hv P4 s2 σ H1 _ I2 q) λw3 s3 (y,H2,I3,ry,q3)=>thn (hop P4 s3 σ H2 v y u w3 _ I3 ru ry q3) λw4 s4 qz=>?_;let(z,H3,I4,rz,dx',fs',ea',l',q4):=qz;exact iV I4 ea' c n l' rz λs5 I5=>(σ,_,I5,q4)
def rAdd:V->V->Hp->VK->Prop:=λx y H Q=>∃i j,x=.int i/\y=.int j/\Q (.int<|i+j) H
def wQ:InOp X .Add rAdd:=by
 rintro P4 s σ H x y u v Q I rx ry ⟨i,j,rfl,rfl,q⟩
 let(t,rfl):=(show∃t ,u=Jk.int i t from rx)
 let(t',rfl):=(show∃t' ,v=Jk.int j t' from ry)
 exact PyProof.Rows.iadd_int (.int<|i+j,H,I.tok _,(_,rfl),q)
def Am {m:Str}{args:↑Expr}{Q:Jk->Js->Prop}(he:PE X e te)(I:Inv X P4 σ H s)
  (h:te σ H λx H1=>∃a C dx fs g ,x=.ref a/\H1 a=some (.ins C dx fs)/\Cls X.K C/\K0 X.K C m g/\fs.lookup m=none/\
    ∀s1,Inv X P4 σ H1 s1->Jw (Jx X.prog X.w) X.A (callWith pos (.ref g) [.ref a] (JZ pos<|J1 args X.env)<|Kk pos<|Kl [] X.env) Q X.xe s1)
  (ht:JX (.Call (.Attribute e m apos) args [] pos) X.env=(do
   let ov<-JX e X.env
   J6 apos.atName
   let (f ,first)<-J7 [ov] (Ki ov m pl)
   callWith pos f first (JZ pos<|J1 args X.env) (Kk pos<|Kl [] X.env))):
  Jw (Jx X.prog X.w) X.A (JX (.Call (.Attribute e m apos) args [] pos) X.env) Q X.xe s:=by
 refine PySem.W.methodCall_KW (pl:=pl) (thn (he P4 s σ H _ I h) λu s1 qz=>?_) ht;let(x,H1,I1,rx,a,C,dx,fs,g,ex,ea,c,k,l,q):=qz;subst ex;obtain rfl:u=Jk.ref a:=rx;exact jI I1 ea c k l<|q s1 I1
end
section
variable {X:Cx}{P4:↑(Jq×Jt)}{σ:St}{H:Hp}{s:Js}{A:Ju}{E:Jk->Js->Prop}{Q:Jk->Js->Prop}{c:Jk}{b:Bool}
inductive Lk (K:Zf)(H:Hp):V->Jk->Prop where
 |non:Lk K H .non (.type "NoneType")
 |bl (x:Bool):Lk K H (.bl x) (.type "bool")
 |int (i:Int):Lk K H (.int i) (.type "int")
 |str (x:Str):Lk K H (.str x) (.type "str")
 |flt (x:UInt64):Lk K H (.flt x) (.type "float")
 |lst {a:Jq}{xs:↑V} (e:H a=some (.lst xs)):Lk K H (.ref a) (.type "list")
 |frz {a:Jq}{o:Jt}{xs:↑V} (e:H a=some (.frz o<|.lst xs)):Lk K H (.ref a) (.type "list")
 |tup {a:Jq}{xs:↑V} (e:H a=some (.tup xs)):Lk K H (.ref a) (.type "tuple")
 |dK {a:Jq}{kvs:↑(Key×V)} (e:H a=some (.dK kvs)):Lk K H (.ref a) (.type "dict")
 |dT {a:Jq}{kvs:↑(↑Key×V)} (e:H a=some (.dT kvs)):Lk K H (.ref a) (.type "dict")
 |ins {a C dx:Jq}{fs:↑(Str×V)} (e:H a=some (.ins C dx fs)) (cl:Cls K C) (ha:Jf K (.ref C) "__class__"=some (some<|.builtin "object.__class__"))
  (hn:PySem.W.specialIn K (.builtin "object.__class__") "__get__"=some (some<|.builtin "getset_descriptor.__get__")) (htk:PySem.W.takesIn K (.builtin "object.__class__")=`true)
  (hm:PySem.W.mroIn K C (.type "object")=`true):Lk K H (.ref a) (.ref C)
def tQ (I:Inv X P4 σ H s)(rx:RelV x u)(ty:Lk X.K H x t)(e:kitOne X.K t c=`b)(h:∀tk ,Q (.bool b) {s with toks:=tk}):
  Jw (Jx X.prog X.w) A (call (.builtin "isinstance") [u,c]) Q E s:=by
 cases ty with
 |non=>cases (show u=Jk.none from rx);exact Ji PySem.W.kitx_none I.kIn True.intro e (λz=>nomatch z) h
 |bl y=>cases (show u=Jk.bool y from rx);exact Ji PySem.W.kitx_bool I.kIn True.intro e (λz=>nomatch z) h
 |int i=>let(t,q):=(show∃t ,u=Jk.int i t from rx);cases q;exact Ji PySem.W.kitx_int I.kIn True.intro e (λz=>nomatch z) h
 |str y=>let(t,q):=(show∃t ,u=Jk.str y t from rx);cases q;exact Ji PySem.W.kitx_str I.kIn True.intro e (λz=>nomatch z) h
 |flt y=>let(t,q):=(show∃t ,u=Jk.float y t from rx);cases q;exact Ji PySem.W.kitx_float I.kIn True.intro e (λz=>nomatch z) h
 | @lst a xs ea=>
   cases (show u=Jk.ref a from rx);let(_,_,n,_,h1):=(show ObjOk X.prog X.w H s.heap a (.lst xs) from I.hok a _ ea)
   exact Ji PySem.W.kitx_list I.kIn (_,h1,rfl) e (λz=>nomatch z) h
 | @frz a ob xs ea=>
   cases (show u=Jk.ref a from rx);let(_,_,_,n,_,h1):=(show ObjOk X.prog X.w H s.heap a (.frz ob<|.lst xs) from I.hok a _ ea)
   exact Ji PySem.W.kitx_list I.kIn (_,h1,rfl) e (λz=>nomatch z) h
 | @tup a xs ea=>
   cases (show u=Jk.ref a from rx);let(_,_,_,p):=(show ObjOk X.prog X.w H s.heap a (.tup xs) from I.hok a _ ea)
   let(o,h1,h2,_):=p.1;exact Ji PySem.W.kitx_tuple I.kIn (o,h1,h2) e (λz=>nomatch z) h
 | @dK a kvs ea=>
   cases (show u=Jk.ref a from rx);let(_,_,vs,_,p):=(show ObjOk X.prog X.w H s.heap a (.dK kvs) from I.hok a _ ea)
   let(o,es,ep,h1,h2,_):=p;exact Ji PySem.W.kitx_dict I.kIn (o,h1,h2.1) e (λz=>nomatch z) h
 | @dT a kvs ea=>
   cases (show u=Jk.ref a from rx);let(_,_,xs,_,o,es,ep,h1,h2,_):=(show ObjOk X.prog X.w H s.heap a (.dT kvs) from I.hok a _ ea)
   exact Ji PySem.W.kitx_dict I.kIn (o,h1,h2.1) e (λz=>nomatch z) h
 | @ins a C dx fs ea cl ha hn htk hm=>
   cases (show u=Jk.ref a from rx);let(mA,O,_):=iA I.hok ea;let(od,J,_):=O.look;exact Ji (PySem.W.kitx_own (cl.get _) cl.hd ha hn htk hm) I.kIn J e (λz=>nomatch z) h
end
end
section
structure Room (k:Nat)(A:Ju):Prop where
 hd:A.handled=none
 dp:A.depth+3*k+5<recursionLimit
 un:A.units+16*k+200<Jv
def Room.mono {j k:Nat}(r:Room k A)(h:j<=k):Room j A:=(r.hd,by have:=r.dp;omega,by have:=r.un;omega)
theorem Room.deeper {k:Nat}(r:Room (k+1) A)(env:Env):Room k (A.deeper env):=
 (r.hd,by have:=r.dp;show A.depth+1+3*k+5<_;omega,by have:=r.un;show A.units+3+16*k+200<_;omega)
def pE {A:Ju}{C:Jq}{us:↑Jk}{kw:↑(Str×Jk)}:(A.under<|.builtin "type.__call__" (.ref C::us,kw)).depth=A.depth+1:=by first|rfl|simp [Ju.under,Code.weight,Code.isCreation,Code.isGuard,Code.isCaller,Code.frames,Code.isFrame,guardIds]
def pC {A:Ju}{C:Jq}{us:↑Jk}{kw:↑(Str×Jk)}:(A.under<|.builtin "type.__call__" (.ref C::us,kw)).units=A.units+1:=by first|rfl|simp [Ju.under,Code.cUnits,Code.frames,Code.isFrame]
def Room.make {k:Nat}(r:Room (k+1) A)(C:Jq)(us:↑Jk)(kw:↑(Str×Jk)):Room k (A.under<|.builtin "type.__call__" (.ref C::us,kw)):=
 (r.hd,by have:=r.dp;rw[pE];omega,by have:=r.un;rw[pC];omega)
theorem Room.depth {k:Nat}(r:Room k A):A.depth<recursionLimit:=by have:=r.dp;omega
theorem Room.units {k:Nat}(r:Room k A):A.units+64<Jv:=by have:=r.un;omega
noncomputable def tNil:TA:=λJ H Q=>Q [] H
noncomputable def tCons (ta:TE)(tr:TA):TA:=λσ H Q=>ta σ H λx H1=>tr σ H1 λxs H2=>Q (x::xs) H2
section
variable {X:Cx}{e:Expr}{es:↑Expr}{te:TE}{t:TA}{pos:JY}
def NV:PA X [] tNil:=λJ J J J H Q I h=>Calls.spliced_nil ([],H,I,.nil,h)
def yF (ha:PE X e te)(hr:PA X es t)(hs:J1 (e::es) X.env=(false ,JX e X.env)::J1 es X.env:=by rfl):PA X (e::es) (tCons te t):=by intro pos P4 s σ H Q I h;rw[hs];show Jw _ _ (spliced ((false ,JX e X.env)::JZ pos (J1 es X.env))) _ _ s;refine Calls.spliced_cons (thn (ha P4 s σ H _ I h) λu s1 qz=>?_);let(x,H1,I1,r1,q1):=qz;exact thn (hr pos P4 s1 σ H1 _ I1 q1) λus s2 (xs,H2,I2,r2,q2)=>(x::xs,H2,I2,.cons r1 r2,q2)
noncomputable def tTup (t:TA):TE:=λσ H Q=>t σ H λxs H1=>⇑xs<=sizeLine/\∀p,H1 p=none->Q (.ref p) (upd H1 p<|.tup xs)
noncomputable def tLst (t:TA):TE:=λσ H Q=>t σ H λxs H1=>⇑xs<=sizeLine/\∀p,H1 p=none->Q (.ref p) (upd H1 p<|.lst xs)
def vt {x1}(h:PA X es t):PE X (.Tuple es x1 pos) (tTup t):=by intro P4 s σ H Q I hq;refine wpAny_Tuple_spliced (thn (h pos P4 s σ H _ I hq) λus s1 (xs,H1,I1,r,z,q)=>(by rw[<-⇑r];exact z,?_));have hf:H1 ↥s1=none:=I1.hok.fresh<|Fw _;refine(.ref ↥s1,upd H1 ↥s1 (.tup xs),I1.laid (t':=s1.toks) (λb u e=>Fx _ e) (Fw _) ?_,rfl,q _ hf);exact(z,us,r,IsTupD.new _ _)
def Bd (h:PA X es t):PE X (.List es pos) (tLst t):=by intro P4 s σ H Q I hq;refine wpAny_List_spliced (thn (h pos P4 s σ H _ I hq) λus s1 (xs,H1,I1,r,z,q)=>(by rw[<-⇑r];exact z,?_));have hf:H1 ↥s1=none:=I1.hok.fresh<|Fw _;refine(.ref ↥s1,upd H1 ↥s1 (.lst xs),I1.laid (t':=s1.toks) (λb u e=>Fx _ e) (Fw _) ?_,rfl,q _ hf);exact(z,us,0,r,FM _ rfl)
end
abbrev Sp:=↑V->Hp->VK->XK->Prop
abbrev CXT:=↑Env->Hp->Js->XK->Jk->Js->Prop
structure Env0 (P:Jn)(w:Jo)(K:Zf)(mg:Str->Option Jk)(base:Jp)(A:Ju)(outer:↑Env)(s:Js)(H:Hp):Prop where
 frames:A.frames=`outer
 mod:Mod K mg base
 bs:∀b o,base.get? b=`o->s.heap.get? b=`o/\H b=none
 bsz:base.objs.size<=↥s
 funs:s.heap.FunFrames base outer
 frf:∀b∈frs outer,H b=none
 hok:HOk P w H s.heap
 bare:JV s.gens
def CE (outer:↑Env)(P:Jn)(w:Jo)(H:Hp)(s:Js)(Q:VK)(u:Jk)(s':Js):Prop:=
 ∃v H',s'.os=s.os/\JV s'.gens/\Un (frs outer) [] H H' s.heap s'.heap/\HOk P w H' s'.heap/\RelV v u/\Q v H'
def CR (CX:CXT)(outer:↑Env)(P:Jn)(w:Jo)(H:Hp)(s:Js)(Q:VK)(E:XK)(r:Result)(s':Js):Prop:=
 match r with|.ok (.ret u)=>CE outer P w H s Q u s'|.ok _=>False|.error e=>CX outer H s E e s'
structure FnOk (P:Jn)(w:Jo)(K:Zf)(mg:Str->Option Jk)(base:Jp)(CX:CXT)(k:Nat)(f:Jq)(fd:Km)(ps:↑Str)(sp:Sp):Prop where
 len:∀vs H Q E,sp vs H Q E->⇑vs=⇑ps
 run:∀ (A:Ju) (outer:↑Env) (s:Js) (H:Hp) (args:Args) (us:↑Jk) (vs:↑V) (Q:VK) (E:XK),Room k A->Env0 P w K mg base A outer s H->BindsTo s fd args (ps.zip us)->Vals vs us->sp vs H Q E->
  codeAny (Jx P w) A (.call (.ref f) args) (CR CX outer P w H s Q E) s
def FnOk.imp {w:Jo}{K:Zf}{mg:Str->Option Jk}{k:Nat}{ps:↑Str}(F:FnOk P w K mg base CX k f fd ps sp)
  (h:∀vs H Q E ,sp' vs H Q E->sp vs H Q E):FnOk P w K mg base CX k f fd ps sp':=
 (λvs H Q E q=>F.len vs H Q E<|h _ _ _ _ q,λA outer s H args us vs Q E hr he hb hv hs=>F.run A outer s H args us vs Q E hr he hb hv<|h _ _ _ _ hs)
def Env0.make {w:Jo}{K:Zf}{mg:Str->Option Jk}(e:Env0 P w K mg base A outer s H)(C:Jq)(us:↑Jk)(kw:↑(Str×Jk)):
 Env0 P w K mg base (A.under<|.builtin "type.__call__" (.ref C::us,kw)) outer s H:=(by first|exact e.frames|(simpa [Ju.under,Code.envs,Code.isFrame,pushEnvs] using e.frames),e.mod,e.bs,e.bsz,e.funs,e.frf,e.hok,e.bare)
section
variable {X:Cx}{P4:↑(Jq×Jt)}{σ:St}{H:Hp}{s s':Js}
def Inv.env0 (I:Inv X P4 σ H s):Env0 X.prog X.w X.K X.mg X.base X.A X.stack s H:=
 (I.ok.frames,I.ok.mod,I.bs,F1 I.ok.bsz I.sz,I.stack,I.stkFree,I.hok,I.bare)
def Inv.after (I:Inv X P4 σ H s)(h:CE X.stack X.prog X.w H s Q u s'):EP X P4 σ Q u s':=by let(v,H',os,bare,un,hok,r,q):=h;let(hh,g,d,t,os'):=s';obtain rfl:os'=s.os:=os;exact(v,H',I.call (h':=hh) (g':=g) (d':=d) (t':=t) (ch:=[]) un hok bare (λb z=>absurd z ⇑_),r,q)
end
noncomputable def tCall (sp:Sp)(dvs:↑V)(E:XK)(t:TA):TE:=λσ H Q=>t σ H λvs H1=>sp (vs++dvs) H1 Q E
noncomputable def tMeth (C:Jq)(m:Str)(sp:Sp)(dvs:↑V)(E:XK)(ta:TE)(t:TA):TE:=λσ H Q=>ta σ H λx H1=>∃a dx fs,x=.ref a/\H1 a=some (.ins C dx fs)/\fs.lookup m=none/\
 t σ H1 λvs H2=>sp (x::(vs++dvs)) H2 Q E
noncomputable def tMake (C:Jq)(sp:Sp)(dvs:↑V)(E:XK)(t:TA):TE:=λσ H Q=>t σ H λvs H1=>∀x dx,H1 x=none->H1 dx=none->dx≠x->
 sp (.ref x::(vs++dvs)) (upd (upd H1 dx<|.own x) x<|.ins C dx []) (λv H2=>v=.non/\Q (.ref x) H2) E
def Binds (K:Zf)(fd:Km)(ps:↑Str)(ds:↑Jk):Prop:=
 ∀ (s:Js) (us:↑Jk),K.In s.heap->⇑(us++ds)=⇑ps->BindsTo s fd (us,[]) (ps.zip<|us++ds)
def Binds.all {K:Zf}{ps:↑Str}(h:∀us:↑Jk ,⇑us=⇑ps->bindArgs fd (us,[])=pure (ps.zip us)):Binds K fd ps []:=λs us J hl=>by rw[F5]at hl ⊢;exact .of_eq<|h us hl
def hE (CX:CXT)(X:Cx)(E:XK):Prop:=∀ (P4:↑(Jq×Jt)) (σ:St) (H:Hp) (s:Js) (e:Jk) (s':Js),Inv X P4 σ H s->CX X.stack H s E e s'->X.xe e s'
section
variable {X:Cx}{CX:CXT}{k:Nat}{f C:Jq}{fd:Km}{ps:↑Str}{sp:Sp}{dvs:↑V}{ds:↑Jk}{E:XK}{x m:Str}{p pos apos:JY}{e o:Expr}{es:↑Expr}{ta:TE}{t:TA}
def uS (F:FnOk X.prog X.w X.K X.mg X.base CX k f fd ps sp)(hr:Room k X.A)(hb:Binds X.K fd ps ds)(hd:Vals dvs ds)(hx:hE CX X E)
  (I:Inv X P4 σ H s)(r:Vals vs us)(h:sp (vs++dvs) H Q E):Jw (Jx X.prog X.w) X.A (call (.ref f) us) (EP X P4 σ Q) X.xe s:=by
 have r2:Vals (vs++dvs) (us++ds):=r.append hd;have hl:⇑(us++ds)=⇑ps:=by rw[<-⇑r2];exact F.len _ _ _ _ h
 refine wpAny_call (Ko (F.run X.A X.stack s H (us,[]) (us++ds) (vs++dvs) Q E hr I.env0 (hb s us I.kIn hl) r2 h) λr s' hq=>?_);cases r with
 |error e=>exact hx P4 σ H s e s' I hq
 |ok fl=>
  cases fl with|ret u=>exact I.after hq|next=>exact False.elim hq|brk=>exact False.elim hq|cont=>exact False.elim hq
def qF (F:FnOk X.prog X.w X.K X.mg X.base CX k f fd ps sp)(hr:Room k X.A)(hg:Gl X x)(hm:X.mg x=some (.ref f))(hk:Jh X.K (.ref f)=true)(hb:Binds X.K fd ps ds)(hd:Vals dvs ds)(hx:hE CX X E)
  (ha:PA X (e::es) t)(hdb:(x==("__debug__":Str))=false:=by decide)(he:J1 (e::es) X.env=(false ,JX e X.env)::J1 es X.env:=by rfl)(hpl:(JZ pos<|J1 es X.env).any (·.1)=false:=by rfl):
  PE X (.Call (.Name x p) (e::es) [] pos) (tCall sp dvs E t):=by
 intro P4 s σ H Q I h;refine Kq<|lP I hg hm ?_ hdb;refine PySem.W.callWith_K (h₀:=X.base) I.ok.mod.kin hk (thn (ha pos P4 s σ H _ I h) λus s1 (vs,H1,I1,r,q)=>(I1.kIn,?_)) he hpl;exact uS F hr hb hd hx I1 r q
def yx (he:PE X o ta)(c:Cls X.K C)(hm:K0 X.K C m f)(F:FnOk X.prog X.w X.K X.mg X.base CX k f fd ps sp)(hr:Room k X.A)(hb:Binds X.K fd ps ds)(hd:Vals dvs ds)(hx:hE CX X E)(ha:PA X (e::es) t)
  (hst:J1 (e::es) X.env=(false ,JX e X.env)::J1 es X.env:=by rfl)(hpl:(JZ pos<|J1 es X.env).any (·.1)=false:=by rfl)
  (ht:JX (.Call (.Attribute o m apos) (e::es) [] pos) X.env=(do
   let ov<-JX o X.env
   J6 apos.atName
   let (f ,first)<-J7 [ov] (Ki ov m pl)
   callWith pos f first (JZ pos<|J1 (e::es) X.env) (Kk pos<|Kl [] X.env)):=by rfl):
  PE X (.Call (.Attribute o m apos) (e::es) [] pos) (tMeth C m sp dvs E ta t):=by
 intro P4 s σ H Q I h;refine PySem.W.methodCall_KW (pl:=pl) (thn (he P4 s σ H _ I h) λu s1 qz=>?_) ht;let(x,H1,I1,rx,a,dx,fs,ex,ea,l,q):=qz;subst ex;obtain rfl:u=Jk.ref a:=rx;refine jI I1 ea c hm l ?_;refine PySem.W.callWith_K (first:=[.ref a]) (h₀:=X.base) I.ok.mod.kin hm.kp (thn (ha pos P4 s1 σ H1 _ I1 q) λus s2 (vs,H2,I2,r,q2)=>(I2.kIn,?_)) hst hpl;exact uS (us:=.ref a::us) (vs:=.ref a::vs) F hr hb hd hx I2 (.cons rfl r) q2
structure Mk (K:Zf)(C f:Jq):Prop where
 makes:PySem.W.makesIn K C=true
 init:Jf K (.ref C) "__init__"=some (some<|.ref f)
 fn:PySem.W.isFn K (.ref f)=true
 kp:Jh K (.ref C)=true
def uR (M:Mk X.K C f)(F:FnOk X.prog X.w X.K X.mg X.base CX k f fd ps sp)(hr:Room (k+1) X.A)(hb:Binds X.K fd ps ds)(hd:Vals dvs ds)
  (hx:hE CX X E)(I:Inv X P4 σ H s)(r:Vals vs us)
  (h:∀x dx ,H x=none->H dx=none->dx≠x->sp (.ref x::(vs++dvs)) (upd (upd H dx<|.own x) x<|.ins C dx []) (λv H2=>v=.non/\Q (.ref x) H2) E):
  Jw (Jx X.prog X.w) X.A (call (.ref C) us) (EP X P4 σ Q) X.xe s:=by
 have hq:=h (↥s+1) ↥s (I.hok.fresh<|Gj _) (I.hok.fresh<|Fw _) (FJ<|HF _);have I2:=Inv.made (C:=C) I;have r2:Vals (V.ref (↥s+1)::(vs++dvs)) (Jk.ref (↥s+1)::(us++ds)):=.cons rfl<|r.append hd;have hl:⇑(Jk.ref (↥s+1)::us++ds)=⇑ps:=by have e:=⇑r2;rw[F.len _ _ _ _ hq]at e;exact e.symm
 refine wpAny_call (wv (f:=f) I.kIn M.makes M.init (beq_iff_eq.mp M.fn) (Ko (F.run _ X.stack _ _ (Jk.ref (↥s+1)::us,[]) (Jk.ref (↥s+1)::(us++ds)) _ _ E (hr.make C us [])
  (I2.env0.make C us []) (hb _ (Jk.ref (↥s+1)::us) I2.kIn hl) r2 hq) λr s' hq'=>?_))
 cases r with
 |error e=>exact hx P4 σ _ _ e s' I2 hq'
 |ok fl=>
  cases fl with
  |ret u=>
   let(v,H',I3,rv,ev,q3):=I2.after hq';subst ev;exact(rv,(V.ref<|↥s+1,H',I3,rfl,q3))
  |next=>exact False.elim hq'
  |brk=>exact False.elim hq'
  |cont=>exact False.elim hq'
def yy (M:Mk X.K C f)(F:FnOk X.prog X.w X.K X.mg X.base CX k f fd ps sp)(hr:Room (k+1) X.A)(hg:Gl X x)(hm:X.mg x=some (.ref C))(hb:Binds X.K fd ps ds)(hd:Vals dvs ds)(hx:hE CX X E)
  (ha:PA X (e::es) t)(hdb:(x==("__debug__":Str))=false:=by decide)(he:J1 (e::es) X.env=(false ,JX e X.env)::J1 es X.env:=by rfl)(hpl:(JZ pos<|J1 es X.env).any (·.1)=false:=by rfl):
  PE X (.Call (.Name x p) (e::es) [] pos) (tMake C sp dvs E t):=by
 intro P4 s σ H Q I h;refine Kq<|lP I hg hm ?_ hdb;refine PySem.W.callWith_K (h₀:=X.base) I.ok.mod.kin M.kp (thn (ha pos P4 s σ H _ I h) λus s1 (vs,H1,I1,r,q)=>(I1.kIn,?_)) he hpl;exact uR M F hr hb hd hx I1 r q
end
structure KW (N P:↑Str)(sc:JU):Prop where
 kind:sc.kind=.function
 co:sc.isCoroutine=false
 gen:sc.isGenerator=false
 nd:N.Nodup
 pre:N.take P.length=P
 par:∀x∈P,sc.names.lookup x=some .local \/sc.names.lookup x=some .cell
 nofree:∀y∈sc.names,y.2≠.free
theorem kZ {kindOf:Str->Option Ks}{x:Str}:∀ {binds:↑(Str×Jk)}{m:Str->Option Jk},(∀v ,(x ,v)∉binds)->bindL kindOf binds m x=m x
 |[],_,_=>rfl
 |(n ,v)::r,m,h=>by
  unfold bindL;rw[kZ λw hw=>h w<|FX _ hw];split
  .have:x≠n:=by rintro rfl;exact h v FQ
   simp [this]
  rfl
theorem k7 {kindOf:Str->Option Ks}{x:Str}:∀ {binds:↑(Str×Jk)}{m:Str->Option Jk},(∀v ,(x ,v)∉binds)->bindC kindOf binds m x=m x
 |[],_,_=>rfl
 |(n ,v)::r,m,h=>by
  unfold bindC;rw[k7 λw hw=>h w<|FX _ hw];split;rfl
  .have:x≠n:=by rintro rfl;exact h v FQ
   simp [this]
theorem k6 {kindOf:Str->Option Ks}{x:Str}:∀ {P:↑Str}{vs:↑Jk}{i:Nat}{m:Str->Option Jk},P.Nodup->P[i]?=`x->vs[i]?=`v->kindOf x=some .local ->
  bindL kindOf (P.zip vs) m x=`v
 |[],_,_,_,_,h,_,_=>by simp at h
 |_::_,[],_,_,_,_,h,_=>by simp at h
 |p::P,w::vs,0,m,nd,h1,h2,hk=>by simp at h1 h2;subst h1;subst h2;show bindL kindOf ((p ,w)::P.zip vs) m p=_;unfold bindL;rw[kZ λv hv=>(Gk.mp nd).1 (HG hv).1,np hk];simp
 |p::P,w::vs,i+1,m,nd,h1,h2,hk=>by show bindL kindOf ((p ,w)::P.zip vs) m x=_;unfold bindL;exact k6 (i:=i) (Gk.mp nd).2 (by simpa using h1) (by simpa using h2) hk
theorem lf {kindOf:Str->Option Ks}{x:Str}:∀ {P:↑Str}{vs:↑Jk}{i:Nat}{m:Str->Option Jk},P.Nodup->P[i]?=`x->vs[i]?=`v->kindOf x≠some .local ->
  bindC kindOf (P.zip vs) m x=`v
 |[],_,_,_,_,h,_,_=>by simp at h
 |_::_,[],_,_,_,_,h,_=>by simp at h
 |p::P,w::vs,0,m,nd,h1,h2,hk=>by simp at h1 h2;subst h1;subst h2;show bindC kindOf ((p ,w)::P.zip vs) m p=_;unfold bindC;rw[k7 λv hv=>(Gk.mp nd).1 (HG hv).1,gV hk];simp
 |p::P,w::vs,i+1,m,nd,h1,h2,hk=>by show bindC kindOf ((p ,w)::P.zip vs) m x=_;unfold bindC;exact lf (i:=i) (Gk.mp nd).2 (by simpa using h1) (by simpa using h2) hk
noncomputable def Pq (N:↑Str)(vs:↑V):St:=vs.map some++List.replicate (N.length-⇑vs) none
noncomputable def LO (CX:CXT)(P:Jn)(w:Jo)(K:Zf)(mg:Str->Option Jk)(base:Jp)(N:↑Str)(qual:Str)(scope:JU)(f:Jq)(cd:Jk)(A:Ju)(outer:↑Env)(s:Js)(H:Hp)(E:XK):Cx where
 prog:=P
 w:=w
 K:=K
 mg:=mg
 base:=base
 A:=A.deeper<|Kt qual scope ↥s f cd
 N:=N
 s₀:=s
 H₀:=H
 env:=Kt qual scope ↥s f cd
 outer:=outer
 stack:=Kt qual scope ↥s f cd::outer
 ex:=[]
 calm:=true
 fn:=λJ=>true
 pn:=[]
 xe:=λe s'=>Jw (Jx P w) (A.deeper<|Kt qual scope ↥s f cd) (leaving (Kt qual scope ↥s f cd) e) (λJ s''=>CX outer H s E e s'') (λe' s''=>CX outer H s E e' s'') s'
def oo {sc:JU}{n:Nat}{x:Str}(h:sc.names.lookup x=some .cell):∃c,(cellsFrom n sc.names []).lookup x=`c:=by have q:=PySem.W.cellsFrom_some sc.names n []<|.inl h;exact H0.mp q
def tU {w:Jo}{K:Zf}{mg:Str->Option Jk}{N ps:↑Str}{qual:Str}
  (S:KW N ps scope)(hd:A.handled=none)(e0:Env0 P w K mg base A outer s H)(hl:⇑vs=⇑ps)(r:Vals vs us)
  (x:InCallC s ↥s (bindL (Kt qual scope ↥s f cd).kindOf (ps.zip us) λJ=>none) (cellsFrom (↥s+1) scope.names []) (bindC (Kt qual scope ↥s f cd).kindOf (ps.zip us) λJ=>none) s1):
  Inv (LO CX P w K mg base N qual scope f cd A outer s H E) [] (Pq N vs) H s1:=by
 have hpl:⇑ps<=N.length:=by have:=congrArg List.length S.pre;rw[Gm]at this;omega
 let(h1,tk,rfl,hk):=x.done;have noA:∀b:Jq,b ∉(LO CX P w K mg base N qual scope f cd A outer s H E).ex:=λb z=>absurd (show b∈([]:↑Jq) from z) ⇑_
 refine((e0.mod,S.kind,rfl,rfl,Fw _,λy z c h1 h2=>?_,λy hy=>?_,λy c J h=>?_,λJ=>hd,Ju.frames_deeper e0.frames,.inr (rfl,rfl),λb z=>absurd z<|noA b,e0.bs,e0.bsz,λb J J=>noA b,λb z=>absurd z<|noA b,e0.funs,e0.frf),
  rfl,e0.bare,Un.kept hk,(_,x.toInCall.ns,λi y v h1 h2 h3=>?_),λy c h=>(_,x.cell y c h),e0.hok.fresh<|Fw _,λy c h=>?_,λp hp=>absurd (show p∈([]:↑(Jq×Jt)) from hp) ⇑_,e0.hok.kept hk,?_)
 exact name_of_addr x.apart (PySem.mem_of_lookup h1)<|PySem.mem_of_lookup h2
 .have hy:scope.names.lookup y=some .cell\/scope.names.lookup y=some .free:=hy;rcases hy with hy|hy
  exact oo hy;exact absurd rfl<|S.nofree _<|PySem.mem_of_lookup hy
 exact HX<|x.above y c<|PySem.mem_of_lookup h
 .have hi:i<⇑vs:=by
   unfold Pq at h2;by_cases hi:i<⇑vs;exact hi;rw[Gz<|by simpa using hi]at h2;rw[H9]at h2;split at h2<;>cases h2
  have ha:vs[i]?=`v:=by
   unfold Pq at h2;rw[F2 (by simpa using hi),FB]at h2;cases e:vs[i]? with|none=>rw[e]at h2;cases h2|some a=>rw[e]at h2;cases h2;rfl
  let(u,hu,rv):=r.get ha;have hp:ps[i]?=`y:=by rw[<-S.pre,Ia ∅];exact h1
  have ndP:ps.Nodup:=by rw[<-S.pre];exact S.nd.sublist<|List.take_sublist _ _
  refine(u,rv,?_);rcases S.par y (FK hp) with k|k
  exact .inl (k,k6 ndP hp hu k);let(c,e):=oo (n:=↥s+1) k;refine .inr (.inl k,c,e,?_);have q:=x.cell y c e;rw[lf ndP hp hu<|by show scope.names.lookup y≠_;rw[k];decide]at q;exact q
 exact e0.hok.fresh<|HX<|x.above y c<|PySem.mem_of_lookup h;unfold Pq;show _=N.length;rw[FH,Fv,GW];omega
def Ew {w:Jo}{K:Zf}{mg:Str->Option Jk}{k:Nat}{name qual:Str}{dV kV doc pm cdv ct oc:Jk}
  {N ps:↑Str}(lk:K.lookup f=some (oc,od,.func<|fnOf name qual params body scope dV kV doc pm an cdv ct,osl))(hcd:codeIn K cdv qual=true)(S:KW N ps scope)
  (len:∀vs H Q E ,sp vs H Q E->⇑vs=⇑ps)
  (hbody:∀ (A:Ju) (outer:↑Env) (s:Js) (H:Hp) (vs:↑V) (Q:VK) (E:XK) ,Room k (A.deeper<|Kt qual scope ↥s f cdv)->sp vs H Q E->
   ∃t,PSs (LO CX P w K mg base N qual scope f cdv A outer s H E) body t/\t {nx:=λz H'=>Q .non H',rt:=Q} (Pq N vs) H):
  FnOk P w K mg base CX (k+1) f (fnOf name qual params body scope dV kV doc pm an cdv ct) ps sp:=by
 refine(len,λA outer s H args us vs Q E hr e0 hb r hsp=>?_);have hl:=len _ _ _ _ hsp;have KX:K.In s.heap:=e0.mod.kin.keeps λb o e=>(e0.bs b o e).1;have lim:s.heap.NoLimit:=e0.mod.nolimit.keeps λb o e=>(e0.bs b o e).1;have hkind:∀y∈ps.zip us,scope.names.lookup y.1=some .local \/(scope.names.lookup y.1=some .cell/\((cellsFrom (↥s+1) scope.names []).lookup y.1).isSome=true):=λ(n,v) hy=>by
  rcases S.par n (HG hy).1 with q|q
  exact .inl q;exact .inr (q,PySem.W.cellsFrom_some _ _ _<|.inl q)
 refine codeAny_call_function hr.depth (KX _ _ lk) rfl S.co S.gen rfl (PySem.W.codeRec_of KX hcd)<|hb _ _ _ _ ?_;refine wpAny_newFunctionEnv_cells S.kind hkind λenv he s1 x=>?_;subst he;refine(lim.keeps x.toInCall.keep,codeAny_func ?_);let(t,ht,hq):=hbody A outer s H vs Q E (hr.deeper _) hsp;have I:Inv (LO CX P w K mg base N qual scope f cdv A outer s H E) [] (Pq N vs) H s1:=tU S hr.hd e0 hl r x;refine J3 (ht [] s1 (Pq N vs) H _ I hq) (λfl s' hs=>?_) λe s' hs=>hs;have fin:∀ {σ':St}{H':Hp}{v:V}{u:Jk},Inv (LO CX P w K mg base N qual scope f cdv A outer s H E) [] σ' H' s'->RelV v u->Q v H'->CE outer P w H s Q u s':=
  λ{σ' H' v u} J rv q=>(v,H',J.os,J.bare,J.base,J.hok,rv,q)
 cases fl with
 |ret u=>
  let(v,σ',H',J,rv,q):=hs;exact fin J rv q
 |next=>
  let(σ',H',J,q):=hs;exact fin (v:=V.non) (u:=Jk.none) J rfl q
 |brk=>
  let(_,_,_,q):=hs;exact False.elim q
 |cont=>
  let(_,_,_,q):=hs;exact False.elim q
end
section
section
variable {X:Cx}{x:Str}{p pos:JY}{e:Expr}{es:↑Expr}{t:TA}{id T:String}{r:↑V->Hp->VK->Prop}
noncomputable def tCB (r:↑V->Hp->VK->Prop)(t:TA):TE:=λσ H Q=>t σ H λvs H1=>r vs H1 Q
def nh (hc:CallR X (.builtin id) r)(hg:Gl X x)(hm:X.mg x=none)(hv:JR x=some (.builtin id))(ha:PA X (e::es) t)(hn:x≠"__name__":=by decide)(hdb:(x==("__debug__":Str))=false:=by decide)
  (he:J1 (e::es) X.env=(false ,JX e X.env)::J1 es X.env:=by rfl)(hpl:(JZ pos<|J1 es X.env).any (·.1)=false:=by rfl):PE X (.Call (.Name x p) (e::es) [] pos) (tCB r t):=by
 intro P4 s σ H Q I h;refine Kq<|bu I hg hm hv ?_ hn hdb;exact PyProof.Rows.callWith_builtin1 (thn (ha pos P4 s σ H _ I h) λus s1 (vs,H1,I1,r1,q1)=>hc P4 s1 σ H1 vs us Q I1 r1 q1) he hpl
def gP (hc:CallR X (.type T) r)(hg:Gl X x)(hm:X.mg x=none)(hv:JR x=some (.type T))(ha:PA X (e::es) t)(hn:x≠"__name__":=by decide)(hdb:(x==("__debug__":Str))=false:=by decide)
  (he:J1 (e::es) X.env=(false ,JX e X.env)::J1 es X.env:=by rfl)(hpl:(JZ pos<|J1 es X.env).any (·.1)=false:=by rfl):PE X (.Call (.Name x p) (e::es) [] pos) (tCB r t):=by
 intro P4 s σ H Q I h;refine Kq<|bu I hg hm hv ?_ hn hdb;exact PyProof.Rows.callWith_type1 (thn (ha pos P4 s σ H _ I h) λus s1 (vs,H1,I1,r1,q1)=>hc P4 s1 σ H1 vs us Q I1 r1 q1) he hpl
end
end
end L2
namespace HT
open PySem PyProof.Rows
noncomputable def lexLt:↑Int->↑Int->Bool|[],[]=>false|[],_::_=>true|_::_,[]=>false|x::xs,y::ys=>if x=y then lexLt xs ys else decide (x<y)
def pH (x y:Int)(xs ys:↑Int):lexLt (x::xs) (y::ys)=if x=y then lexLt xs ys else decide (x<y):=rfl
def j5:lexLt [] []=false:=rfl
def jB (y:Int)(ys:↑Int):lexLt [] (y::ys)=true:=rfl
def jC (x:Int)(xs:↑Int):lexLt (x::xs) []=false:=rfl
def xf (A:Ju)(s:Js)(a:Int)(t:Tok)(c:Int)(u:Tok):∃e,SeqAt.EqAt A s (.int a t) (.int c u) e/\(e=true↔a=c):=
 ((a==c),SeqAt.EqAt.int_int a t c u,⇑_)
def u4 (A:Ju)(s:Js)(a:Int)(t:Tok)(c:Int)(u:Tok)(prog:Jn)(w:Jo)(E:Jk->Js->Prop)(Q:Jk->Js->Prop)(h:Q (.bool<|decide<|a<c) s):
  Jw (Jx prog w) A (richCompare .Lt (.int a t)<|.int c u) Q E s:=
 (PyProof.Rows.lt_int h:Jw (Jx prog w) A (J4 .Lt (.int a t)<|.int c u) Q E s)
section
open PySem.SeqAt
open PySem.AutoSeq1 (wpAny_loadPart')
open PySem.MeetsSeq PySem.MeetsSeq2 PySem.MeetsSeq3
def jY (l b:Jq)(items items2:Array Jk)(n n2:Nat)(dd dd2:Option Jq)(sl sl2:Array (Option Jk))(ns ms:↑Int)(hi:IntsAre items.toList ns)(hj:IntsAre items2.toList ms):
  Meets (Jl.«tuple.__lt__» ([.ref l,.ref b],[]))
   (λJ R s=>s.heap.get? l=some {cls:=.type "tuple",dict:=dd,data:=.seq items n,slots:=sl}/\s.heap.get? b=some {cls:=.type "tuple",dict:=dd2,data:=.seq items2 n2,slots:=sl2}/\
    R (.ok<|.ret<|.bool<|lexLt ns ms) s):=
 .of_wp λprog w A R s h=>by
  let(hp,g,d,tk,os):=s;let(hl,hb,h):=h;have f2:=AutoSeq1.sub_tuple_tuple;have z1:items.size=⇑ns:=by rw[<-⇑hi];simp
  have z2:items2.size=⇑ms:=by rw[<-⇑hj];simp
  wp_walk using wpAny_loadPart' hl,wpAny_loadPart' hb,wpAny_forIn_list _ (λrest b s'=>b.1=none/\s'=(hp,g,d,tk,os)/\∃ (vs ws:↑Jk) (ns' ms':↑Int) ,rest=vs.zip ws/\
   IntsAre vs ns'/\IntsAre ws ms'/\⇑ns'+items2.size=⇑ms'+items.size/\R (.ok<|.ret<|.bool<|lexLt ns' ms') (hp,g,d,tk,os)) _
  case turn=>
   rintro⟨y,x⟩ rest b s' ⟨hb',rfl,vs,ws,ns',ms',hz,hvi,hwi,hlen,hR⟩
   cases hvi with
   |nil=>rw[List.zip_nil_left]at hz;cases hz
   |cons a t hvi'=>
    cases hwi with
    |nil=>rw[HW]at hz;cases hz
    |cons c u hwi'=>
     rw[HE]at hz;injection hz with hyx hrest
     injection hyx with hy hx
     subst hy hx;rw[pH]at hR;simp only[FA]at hlen;let(e,he,hiff):=xf A.in1 (hp,g,d,tk,os) a t c u
     refine Jy<|he prog w _ _ ?_;cases e with
     |true=>
      rw[np<|hiff.mp rfl]at hR
      wp_walk
      exact(rfl,rfl,_,_,_,_,hrest,hvi',hwi',∅,hR)
     |false=>
      rw[gV<|λq=>absurd (hiff.mpr q) FP]at hR;have hri:=u4 A.in1 (hp,g,d,tk,os) a t c u prog w
      wp_walk using hri
      exact(_,rfl,by simpa using hR)
  case fin=>
   rintro⟨b1,b2⟩ s' ⟨hb',rfl,vs,ws,ns',ms',hz,hvi,hwi,hlen,hR⟩
   simp only at hb';subst hb';have hv:lexLt ns' ms'=decide (items.size<items2.size):=by
    cases hvi with
    |nil=>
     cases hwi with
     |nil=>
      simp only[GM]at hlen;rw[j5];exact (s0 ∅).symm
     |cons c u hw=>
      simp only[GM,FA]at hlen;rw[jB];exact (CF ∅).symm
    |cons a t hv=>
     cases hwi with
     |nil=>
      simp only[GM,FA]at hlen;rw[jC];exact (s0 ∅).symm
     |cons c u hw=>
      rw[HE]at hz;cases hz
   rw[hv]at hR
   wp_walk
   exact(_,rfl,by simpa [Jl.Tuple.tupleCompareSizes] using hR)
  case h=>
   exact(rfl,rfl,items.toList,items2.toList,ns,ms,rfl,hi,hj,∅,h)
end
section
variable {prog:Jn}{w:Jo}{A:Ju}{E:Jk->Js->Prop}{s:Js}
def lt_tupInts {Q:Jk->Js->Prop}(hl:IsTup s.heap l items)(hb:IsTup s.heap b items2)(hi:IntsAre items.toList ns)(hj:IntsAre items2.toList ms)
  (hu:A.units<Jv)(h:Q (.bool<|lexLt ns ms) s):Jw (Jx prog w) A (J4 .Lt (.ref l)<|.ref b) Q E s:=by
 let((cls,dd,data,sl),ho,hc,n,hd):=id hl;let((cls2,dd2,data2,sl2),ho2,hc2,n2,hd2):=id hb;simp only at hc hd hc2 hd2;subst hc hd hc2 hd2;exact richCompare_meets_room (op:=.Lt) (_,ho,rfl) (_,ho2,rfl) PySem.F.slot_tuple_lt PySem.F.entry_tuple_lt (PySem.F.args_tuple_lt_2 _ _) (jY l b items items2 n n2 dd dd2 sl sl2 ns ms hi hj)
  (ho,ho2,show Jk.bool (lexLt ns ms)≠Jk.notImplemented/\Q (.bool<|lexLt ns ms) s from((λx=>nomatch x),h)) hu
def cat_tup {Q:Jk->Js->Prop}(ht:IsTup s.heap t vs.toArray)(hb:IsTup s.heap b ws.toArray)(hv:vs≠ [])
  (h1:ws=[]->Q (.ref t) s)(h2:ws≠ []->Q (.ref ↥s) {s with heap:=s.heap.push {cls:=.type "tuple",data:=.seq (vs++ws).toArray}})
  (hsz:⇑vs+⇑ws<=sizeLine):Jw (Jx prog w) A (Kh .Add (.ref t)<|.ref b) Q E s:=by
 let((cls,dd,data,sl),ho,hc,n,hd):=id ht;let((cls2,dd2,data2,sl2),ho2,hc2,n2,hd2):=id hb;simp only at hc hd hc2 hd2;subst hc hd hc2 hd2;have e:vs.toArray++ws.toArray=(vs++ws).toArray:=⇑_;by_cases hw:ws=[]
 .exact concat_meets (_,ho,rfl) (_,ho2,rfl) noFill_tuple_add seq_tuple_add PySem.F.slot_tuple_add PySem.F.entry_tuple_add (PySem.F.args_tuple_add_2 _ _)
   (tuple_addW1 t b vs.toArray ws.toArray n n2 dd dd2 sl sl2 (by simpa using hv)<|by simp [hw]) (ho,ho2,h1 hw)
 .refine concat_meets (_,ho,rfl) (_,ho2,rfl) noFill_tuple_add seq_tuple_add PySem.F.slot_tuple_add PySem.F.entry_tuple_add (PySem.F.args_tuple_add_2 _ _)
   (tuple_addW2 t b vs.toArray ws.toArray n n2 dd dd2 sl sl2 (by simpa using hv) (by simpa using hw)<|by rw[FI,FI];exact hsz) (ho,ho2,?_)
  rw[e];exact h2 hw
noncomputable def sIx (n d:Nat):Option Int->Nat|none=>d|some v=>if v<0 then (v+(n:Int)).toNat else min v.toNat n
def AT (n d:Nat)(hd:d<=n)(o:Option Int):sIx n d o<=n:=by
 cases o with
 |none=>exact hd
 |some v=>
  show (if v<0 then (v+(n:Int)).toNat else min v.toNat n)<=n;by_cases hv:v<0;rw[np hv];omega;rw[gV hv];exact Nat.min_le_right _ _
def rG (v:Int)(n d:Nat):(if v<0 then max (v+(n:Int)) 0 else min v (n:Int))=((sIx n d `v:Nat):Int):=by
 show (if v<0 then max (v+(n:Int)) 0 else min v (n:Int))=(((if v<0 then (v+(n:Int)).toNat else min v.toNat n):Nat):Int);by_cases hv:v<0;simp only[np hv];omega;simp only[gV hv];omega
def p4 (lo hi:Option Int)(n:Nat):Jl.Slice.sliceAdjust lo hi 1 (n:Int)=(((sIx n 0 lo:Nat):Int) ,((sIx n n hi:Nat):Int)):=by
 have h1:¬((1:Int)<0):=∅;unfold Jl.Slice.sliceAdjust;simp only[h1,if_false];refine Prod.ext ?_ ?_
 .cases lo with|none=>rfl|some v=>exact rG v n 0
 .cases hi with|none=>rfl|some v=>exact rG v n n
def oY (i j:Nat):Jl.Slice.slicePlaces (i:Int) (j:Int) 1=j-i:=by unfold Jl.Slice.slicePlaces;have h1:(1:Int)>0:=∅;simp only[h1,if_true,Int.ediv_one];split<;>omega
def iU {Q:Option Int->Js->Prop}(p:IsPart v o)(h:Q o s):Jw (Jx prog w) A (Jl.Slice.slicePartIndex v) Q E s:=by
 cases p with|none=>exact slicePart_none h|int i t=>exact slicePart_int h
def gJ {vl vu:Jk}{lo hi:Option Int}{n:Nat}{Q:Int×Int×Nat->Js->Prop}(hs:s.heap.IsSliceOf sl vl vu .none)(pl:IsPart vl lo)(pu:IsPart vu hi)
  (h:Q (((sIx n 0 lo:Nat):Int) ,1,sIx n n hi-sIx n 0 lo) s):Jw (Jx prog w) A (Jl.Slice.sliceApplied (.ref sl)<|pure (n:Int)) Q E s:=by
 let(os,hos,hcs,hds):=id hs;unfold Jl.Slice.sliceApplied Jl.Slice.sliceFields;refine Jy<|Jy<|Ku hos hds (x:=vl) rfl<|Jy<|Ku hos hds (x:=vu) rfl<|Jy<|Ku hos hds (x:=.none) rfl<|JC ?_;refine Jy<|slicePart_none ?_;show Jw _ _ (if ((1:Int)==0)=true then _ else _) _ _ s;rw[gV ↥_];refine Jy<|iU pl<|Jy<|iU pu<|Jy<|JC ?_;show Jw _ _ (match Jl.Slice.sliceAdjust lo hi 1 (n:Int) with|(lo ,hi)=>pure (lo ,(1:Int),Jl.Slice.slicePlaces lo hi 1)) _ _ s;rw[p4 lo hi n];show Jw _ _ (pure (((sIx n 0 lo:Nat):Int) ,(1:Int),Jl.Slice.slicePlaces ((sIx n 0 lo:Nat):Int) ((sIx n n hi:Nat):Int) 1)) _ _ s;rw[oY];exact JC h
def vk (xs:Array Jk)(i k:Nat):((List.range k).filterMap λ(m:Nat)=>xs[((i:Int)+(m:Int)*1).toNat]?).toArray=((xs.toList.drop i).take k).toArray:=by
 have e:(λ(m:Nat)=>xs[((i:Int)+(m:Int)*1).toNat]?)=λm=>xs[i+m]?:=by funext m;have:((i:Int)+(m:Int)*1).toNat=i+m:=∅;rw[this]
 rw[e];have:=pick_run xs i k;rw[List.filterMap_map]at this;have e2:((λx=>xs[x]?)∘λx=>i+x)=λm=>xs[i+m]?:=rfl;rw[e2]at this;rw[this]
def getItem_tuple_cut {vl vu:Jk}{lo hi:Option Int}{Q:Jk->Js->Prop}(ht:IsTup s.heap t items)(hs:s.heap.IsSliceOf sl vl vu .none)(pl:IsPart vl lo)(pu:IsPart vu hi)
  (hw:¬(sIx items.size 0 lo=0/\sIx items.size items.size hi=items.size))
  (h:Q (.ref ↥s) {s with heap:=s.heap.push {cls:=.type "tuple",data:=.seq ((items.toList.drop<|sIx items.size 0 lo).take<|sIx items.size items.size hi-sIx items.size 0 lo).toArray}})
  (hsz:items.size<=sizeLine):Jw (Jx prog w) A (getItem (.ref t)<|.ref sl) Q E s:=by
 have htake:sizeOk (.seq ((items.toList.drop<|sIx items.size 0 lo).take<|sIx items.size items.size hi-sIx items.size 0 lo).toArray):=by show ((items.toList.drop<|sIx items.size 0 lo).take<|sIx items.size items.size hi-sIx items.size 0 lo).toArray.size<=sizeLine;rw[FI,Gm,Hq,F6];omega
 have hj:sIx items.size items.size hi<=items.size:=AT _ _ (Fw _) hi;let(os,hos,hcs,hds):=id hs;have hTs:s.TypeIs (.ref sl) "slice":=(os,hos,hcs)
 unfold getItem
 try with_reducible refine JH ?_
 first|refine Jy (JC ?_)|skip
 refine Jy<|wpAny_sequenceKey ht.typeIs ↥_ ?_
 refine Jy (wpAny_callSpecial?_slot (name:=Str.ofString "__getitem__") ht.typeIs PyProof.Rows.slot_tuple_getitem
  (JB PyProof.Rows.slot_tuple_getitem ht.typeIs entry_tuple_getitem ?_<|args_tuple_getitem _ _))
 show Jw _ _ (Jl.Tuple.tupleItemsOf (.ref t)>>=_) _ _ s;refine Jy<|tupleItemsOf_ ht ?_;refine Jy<|wpAny_typeOf hTs ?_;rw[np ↥_];refine Jy<|gJ hs pl pu ?_;have hno:¬((((sIx items.size 0 lo:Nat):Int)==0 && (1:Int)==1 && (sIx items.size items.size hi-sIx items.size 0 lo)==items.size)=true):=by intro q;rw[Gd,Gd]at q;have q1:((sIx items.size 0 lo:Nat):Int)=0:=eq_of_beq q.1.1;have q2:sIx items.size items.size hi-sIx items.size 0 lo=items.size:=eq_of_beq q.2;exact hw (∅,∅)
 show Jw _ _ (if (((sIx items.size 0 lo:Nat):Int)==0 && (1:Int)==1 && (sIx items.size items.size hi-sIx items.size 0 lo)==items.size)=true then _ else _) _ _ s;rw[gV hno,vk]
 first
  |exact Jy (m:=Jl.Tuple.tupleExact _)<|Kv (JC (_,rfl,JC h)) htake
  |exact Jy (m:=Jl.Tuple.tupleExact _)<|Kv (Jy<|JC<|JC (_,rfl,JC h)) htake
  |exact Jy<|Jy (m:=Jl.Tuple.tupleExact _)<|Kv (JC<|JC (_,rfl,JC h)) htake
  |exact Jy<|Jy (m:=Jl.Tuple.tupleExact _)<|Kv (JC (_,rfl,JC h)) htake
end
end HT
namespace L2
open PySem PySem.Spec PyProof.Rows
abbrev TO:=St->Hp->(Option Int->Hp->Prop)->Prop
def PO (X:Cx)(e:Option Expr)(t:TO):Prop:=
 ∀ (P4:↑(Jq×Jt)) (s:Js) (σ:St) (H:Hp) (Q:Option Int->Hp->Prop),Inv X P4 σ H s->t σ H Q->
   Jw (Jx X.prog X.w) X.A (evalPart e X.env) (λu s'=>∃o H' ,Inv X P4 σ H' s'/\IsPart u o/\Q o H') X.xe s
noncomputable def xU:TO:=λJ H Q=>Q none H
noncomputable def tPart (t:TE):TO:=λσ H Q=>t σ H λx H1=>∃i,x=.int i/\Q `i H1
section
variable {X:Cx}{e:Expr}{te:TE}{lo hi:Option Expr}{tl th:TO}{pos p2:JY}
def Oc:PO X none xU:=by intro P4 s σ H Q I h;rw[evalPart_none];exact JC (none,H,I,.none,h)
def yq (h:PE X e te):PO X `e (tPart te):=by intro P4 s σ H Q I hw;rw[evalPart_some];refine thn (h P4 s σ H _ I hw) λu s1 qz=>?_;let(x,H1,I1,r1,q1):=qz;let(i,rfl,q):=q1;let(t,rfl):=r1;exact(`i,H1,I1,.int i t,q)
def SlR (X:Cx)(r:V->Option Int->Option Int->Hp->VK->Prop):Prop:=
 ∀ (P4:↑(Jq×Jt)) (s:Js) (σ:St) (H:Hp) (x:V) (v vl vu:Jk) (lo hi:Option Int) (sl:Jq) (Q:VK),Inv X P4 σ H s->RelV x v->s.heap.IsSliceOf sl vl vu .none->IsPart vl lo->IsPart vu hi->r x lo hi H Q->
   ∃T id,typeLookup (.type T) "__getitem__"=pure (some<|.builtin id)/\s.TypeIs v T/\Jw (Jx X.prog X.w) X.A (getItem v<|.ref sl) (EP X P4 σ Q) X.xe s
def SlR.or {r r':V->Option Int->Option Int->Hp->VK->Prop}(h:SlR X r)(h':SlR X r'):SlR X (λx lo hi H Q=>r x lo hi H Q\/r' x lo hi H Q):=by
 intro P4 s σ H x v vl vu lo hi sl Q I rx hs pl pu q;rcases q with q|q
 exact h P4 s σ H x v vl vu lo hi sl Q I rx hs pl pu q;exact h' P4 s σ H x v vl vu lo hi sl Q I rx hs pl pu q
noncomputable def tSl (r:V->Option Int->Option Int->Hp->VK->Prop)(te:TE)(tl th:TO):TE:=λσ H Q=>te σ H λx H1=>tl σ H1 λl H2=>th σ H2 λu H3=>r x l u H3 Q
def vw {r:V->Option Int->Option Int->Hp->VK->Prop}(hr:SlR X r)(he:PE X e te)(hl:PO X lo tl)(hu:PO X hi th):PE X (.Subscript e (.Slice lo hi none p2) pos) (tSl r te tl th):=by intro P4 s σ H Q I h;refine Subscript_ (thn (he P4 s σ H _ I h) λv s1 qz=>?_);let(x,H1,I1,r1,q1):=qz;refine wpAny_Slice (thn (hl P4 s1 σ H1 _ I1 q1) λvl s2 (l,H2,I2,pl,q2)=>thn (hu P4 s2 σ H2 _ I2 q2) λvu s3 qz=>?_);let(u,H3,I3,pu,q3):=qz;rw[evalPart_none];refine JC ?_;have I4:Inv X P4 σ H3 {s3 with heap:=s3.heap.push {cls:=.type "slice",data:=.fields #[vl,vu,.none]}}:=I3.kept (t':=s3.toks) λb ob q=>Fx _ q;let(T,id,hT,ht,hg):=hr P4 {s3 with heap:=s3.heap.push {cls:=.type "slice",data:=.fields #[vl,vu,.none]}} σ H3 x v vl vu l u ↥s3 Q I4 r1 (Jp.IsSliceOf.new ..) pl pu q3;show Jw (Jx X.prog X.w) X.A (subscriptTail e (.Slice lo hi none p2) v<|.ref ↥s3) (EP X P4 σ Q) X.xe {s3 with heap:=s3.heap.push {cls:=.type "slice",data:=.fields #[vl,vu,.none]}};exact tail_any (ops:=[.ref ↥s3,v]) ht hT hg (by with_unfolding_all rfl)
noncomputable def LK (xs:↑V)(lo hi:Option Int):↑V:=(xs.drop<|HT.sIx ⇑xs 0 lo).take<|HT.sIx ⇑xs ⇑xs hi-HT.sIx ⇑xs 0 lo
def ie (xs:↑V)(lo hi:Option Int):⇑(LK xs lo hi)<=⇑xs:=by unfold LK;rw[Gm,Hq];omega
def rSlT (K:Zf):V->Option Int->Option Int->Hp->VK->Prop:=λx lo hi H Q=>∃a xs,x=.ref a/\SqT K H a xs/\
 ¬(HT.sIx ⇑xs 0 lo=0/\HT.sIx ⇑xs ⇑xs hi=⇑xs)/\∀p,H p=none->Q (.ref p) (upd H p<|.tup<|LK xs lo hi)
def Pe:SlR X (rSlT X.K):=by
 intro P4 s σ H x v vl vu lo hi sl Q I rx hs pl pu h;let(a,xs,rfl,hx,hw,q):=h;cases rx;let(its,r,ht,hz):=I.tuple hx;have hlen:its.toArray.size=⇑xs:=by rw[FI];exact r.length.symm
 refine("tuple",_,PyProof.Rows.slot_tuple_getitem.lookup,ht.typeIs,?_);refine HT.getItem_tuple_cut ht hs pl pu (by rw[hlen];exact hw) ?_ (by rw[hlen];exact hz);rw[hlen];refine(.ref ↥s,_,I.laid (t':=s.toks) (o:=.tup<|LK xs lo hi) (λb ob q=>Fx _ q) (Fw _) ?_,rfl,q _<|I.hok.fresh<|Fw _);exact(F1 (ie xs lo hi) hz,_,(r.drop<|HT.sIx ⇑xs 0 lo).take<|HT.sIx ⇑xs ⇑xs hi-HT.sIx ⇑xs 0 lo,IsTupD.new _ _)
noncomputable def Oq (K:Zf):R2:=λx y H Q=>∃a b xs ys,x=.ref a/\y=.ref b/\SqT K H a xs/\SqT K H b ys/\xs≠ []/\⇑xs+⇑ys<=sizeLine/\
 (ys=[]->Q (.ref a) H)/\(ys≠ []->∀p ,H p=none->Q (.ref p) (upd H p<|.tup<|xs++ys))
def Vals.nil_iff (r:Vals xs us):us=[]↔xs=[]:=by
 cases r with|nil=>simp|cons _ _=>simp
def NN:OpR X (Kh .Add) (Oq X.K):=by intro P4 s σ H x y v u Q I rx ry h;let(a,b,xs,ys,rfl,rfl,ha,hb,hx,hz,q1,q2):=h;cases rx;cases ry;let(its,r1,p1,_):=I.tuple ha;let(its2,r2,p2,_):=I.tuple hb;refine HT.cat_tup p1 p2 (λz=>hx<|r1.nil_iff.mp z) (λz=>(.ref a,H,I,rfl,q1<|r2.nil_iff.mp z)) (λz=>?_) (by rw[<-⇑r1,<-⇑r2];exact hz);refine(.ref ↥s,_,I.laid (t':=s.toks) (o:=.tup<|xs++ys) (λb ob q=>Fx _ q) (Fw _) ?_,rfl,q2 (λw=>z<|r2.nil_iff.mpr w) _<|I.hok.fresh<|Fw _);exact(by rw[FH];exact hz,_,r1.append r2,IsTupD.new _ _)
end
section
noncomputable def ixN (n:Nat)(i:Int):Option Nat:=if 0<=i then (if i<n then some i.toNat else none) else if -(n:Int)<=i then some (i+n).toNat else none
noncomputable def atI {α:Type}(xs:↑α)(i:Int):Option α:=(ixN ⇑xs i).bind λj=>xs[j]?
def lU {n:Nat}{i:Int}{j:Nat}(h:ixN n i=`j):seqIndex? i n=`j/\j<n/\ -(n:Int)<=i/\i<n:=by
 unfold ixN at h;by_cases h0:0<=i
 .rw[np h0]at h;by_cases h1:i<n;rw[np h1]at h;have e:i.toNat=j:=Option.some.inj h;exact(by rw[seqIndex_of h0 h1,e],∅,∅,h1);rw[gV h1]at h;cases h
 .rw[gV h0]at h;by_cases h1: -(n:Int)<=i;rw[np h1]at h;have e:(i+n).toNat=j:=Option.some.inj h;exact(by rw[seqIndex_neg ∅ h1,e],∅,h1,∅);rw[gV h1]at h;cases h
def mG {α:Type}{xs:↑α}{i:Int}{v:α}(h:atI xs i=`v):∃j,seqIndex? i ⇑xs=`j/\xs[j]?=`v/\j<⇑xs/\ -(⇑xs:Int)<=i/\i<⇑xs:=by
 unfold atI at h;cases e:ixN ⇑xs i with
 |none=>rw[e]at h;cases h
 |some j=>
  rw[e]at h;let(h1,h2,h3,h4):=lU e;exact(j,h1,h,h2,h3,h4)
def dB {α:Type}{xs:↑α}{j:Nat}{v:α}(h:xs[j]?=`v):atI xs (j:Int)=`v:=by
 have hj:j<⇑xs:=(FD.mp h).1;have e:ixN ⇑xs (j:Int)=`j:=by unfold ixN;rw[np ∅,np ∅];simp
 unfold atI;rw[e];exact h
def iI (b:Expr):Prop:=∀o i,subscripted b false o i=operate [o,i] (getItem o i)
def IxR (X:Cx)(r:R2):Prop:=
 ∀ (value slice:Expr) (P4:↑(Jq×Jt)) (s:Js) (σ:St) (H:Hp) (x y:V) (v u:Jk) (Q:VK),Inv X P4 σ H s->RelV x v->RelV y u->r x y H Q->
   subscripted slice false v u=operate [v,u] (getItem v u)->Jw (Jx X.prog X.w) X.A (subscriptTail value slice v u) (EP X P4 σ Q) X.xe s
def MtR (X:Cx)(id:String)(r:V->↑V->Hp->VK->Prop):Prop:=
 ∀ (P4:↑(Jq×Jt)) (s:Js) (σ:St) (H:Hp) (x:V) (xs:↑V) (v:Jk) (us:↑Jk) (Q:VK),Inv X P4 σ H s->RelV x v->Vals xs us->r x xs H Q->
   Jw (Jx X.prog X.w) X.A (call (.builtin id) (v::us)) (EP X P4 σ Q) X.xe s
section
variable {X:Cx}{a b:Expr}{ta tb:TE}{pos:JY}
def IxR.or (h:IxR X r)(h':IxR X r'):IxR X (λx y H Q=>r x y H Q\/r' x y H Q):=by
 intro value slice P4 s σ H x y v u Q I rx ry q hs;rcases q with q|q
 exact h value slice P4 s σ H x y v u Q I rx ry q hs;exact h' value slice P4 s σ H x y v u Q I rx ry q hs
def Ah (hr:IxR X r)(ha:PE X a ta)(hb:PE X b tb)(hs:iI b):PE X (.Subscript a b pos) (tOp r ta tb):=by intro P4 s σ H Q I h;exact Subscript_ (Ls ha hb I h λv u s2 x y H2 I2 rx ry q=>hr a b P4 s2 σ H2 x y v u Q I2 rx ry q<|hs _ _)
noncomputable def rIxL (K:Zf):R2:=λx y H Q=>∃p xs i v,x=.ref p/\y=.int i/\SqL K H p xs/\atI xs i=`v/\Q v H
noncomputable def rIxT (K:Zf):R2:=λx y H Q=>∃p xs i v,x=.ref p/\y=.int i/\SqT K H p xs/\atI xs i=`v/\Q v H
noncomputable def rIxS:R2:=λx y H Q=>∃z i c,x=.str z/\y=.int i/\⇑z<=sizeLine/\atI z.cps.toList i=`c/\Q (.str ⟨#[c]⟩) H
def MI:IxR X (rIxL X.K):=by
 intro value slice P4 s σ H x y v u Q I rx ry h hs;let(p,xs,i,z,rfl,rfl,hq,he,q):=h;cases rx;let(t,rfl):=ry;let(its,r,pl,hz):=I.list hq;let(j,h1,h2,h3,h4,h5):=mG he;let(w,ew,rw'):=r.get h2;have hl:=⇑r;have hn:=gW;have fin:EP X P4 σ Q w s:=(z,H,I,rw',q)
 by_cases h0:0<=i
 .have hj:i.toNat=j:=by rw[seqIndex_of h0 h5]at h1;exact Option.some.inj h1
  exact item_listR pl.isList h0 ∅ (by rw[hj];simpa using ew) fin hs
 .have hj:(i+(its.toArray.size:Int)).toNat=j:=by rw[seqIndex_neg ∅ h4]at h1;rw[FI,<-hl];exact Option.some.inj h1
  exact subscriptTail_builtinR (x:=w) pl.isList.typeIs slot_list_getitem.lookup
   (wpAny_getItem_list_neg (Q:=λr s'=>r=w/\EP X P4 σ Q r s') pl.isList ∅ (by rw[FI]<;>omega) ∅ (by rw[hj];simpa using ew) (rfl,fin)) hs
def MK:IxR X (rIxT X.K):=by
 intro value slice P4 s σ H x y v u Q I rx ry h hs;let(p,xs,i,z,rfl,rfl,hq,he,q):=h;cases rx;let(t,rfl):=ry;let(its,r,pl,hz):=I.tuple hq;let(j,h1,h2,h3,h4,h5):=mG he;let(w,ew,rw'):=r.get h2;have hl:=⇑r;have hn:=gW;have fin:EP X P4 σ Q w s:=(z,H,I,rw',q)
 exact subscriptTail_builtinR (x:=w) pl.typeIs slot_tuple_getitem.lookup
  (getItem_tuple (j:=j) (Q:=λr s'=>r=w/\EP X P4 σ Q r s') pl ∅ ∅ (by rw[FI,<-hl];exact h1) (by simpa using ew) (rfl,fin)) hs
def CN:IxR X rIxS:=by
 intro value slice P4 s σ H x y v u Q I rx ry h hs;let(z,i,c,rfl,rfl,hz,he,q):=h;let(t,rfl):=rx;let(t',rfl):=ry;let(j,h1,h2,h3,h4,h5):=mG he;have hl:⇑z.cps.toList=⇑z:=by simp [Str.length]
 rw[hl]at h1 h4 h5;have hn:=gW
 exact tail_any (typeIs_str s z t) slot_str_getitem.lookup (getItem_str (c:=c) (by
  have e1:decide (i< -(2^63:Int))=false:=s0 ∅;have e2:decide (i≥2^63)=false:=s0 ∅
  rw[e1,e2,Bool.or_false]) (by rw[h1];simpa using h2) (.str ⟨#[c]⟩,H,I.tok _,(_,rfl),q)) hs
noncomputable def rIx (K:Zf):R2:=λx y H Q=>rIxL K x y H Q\/rIxT K x y H Q\/rIxS x y H Q
def MJ:IxR X (rIx X.K):=MI.or<|MK.or CN
def pB (its:↑Jk)(n j:Nat)(u:Jk):Jt.mapSeq (·.setIfInBounds j u) {cls:=.type "list",data:=.seq its.toArray n}={cls:=.type "list",data:=.seq (its.set j u).toArray n}:=by simp [Jt.mapSeq]
theorem Inv.lst {P4:↑(Jq×Jt)}{σ:St}{H:Hp}{s:Js}{p:Jq}{xs:↑V}(I:Inv X P4 σ H s)(h:H p=some (.lst xs)):
  ∃ (its:↑Jk) (n:Nat),Vals xs its/\s.heap.get? p=some {cls:=.type "list",data:=.seq its.toArray n}/\⇑xs<=sizeLine:=by
 let(z,its,n,r,e):=I.hok p _ h;exact(its,n,r,e,z)
def Inv.lstUpd {P4:↑(Jq×Jt)}{σ:St}{H:Hp}{s:Js}{p:Jq}{xs ys:↑V}{its its':↑Jk}{n n':Nat}{f:Jt->Jt}(I:Inv X P4 σ H s)(h:H p=some (.lst xs))
  (ho:s.heap.get? p=some {cls:=.type "list",data:=.seq its.toArray n})(hf:f {cls:=.type "list",data:=.seq its.toArray n}={cls:=.type "list",data:=.seq its'.toArray n'})(r:Vals ys its')(hz:⇑ys<=sizeLine)(t:Nat):
  Inv X P4 σ (upd H p<|.lst ys) {s with heap:=s.heap.update p f,toks:=t}:=by
 have e:(s.heap.update p f).get? p=some {cls:=.type "list",data:=.seq its'.toArray n'}:=by rw[Ib f ho (by rw[hf]<;>rfl),hf]
 refine I.write (x:=p) (e:=p) (by rw[h];trivial) (.inl rfl) (λb u hb q=>(Ic _ _<|Ne.symm hb).trans q) (_,e) ?_;exact(hz,its',n',r,e)
def Ov:V->V->V->Hp->(Hp->Prop)->Prop:=λo i v H Q=>∃p xs k j,o=.ref p/\i=.int k/\H p=some (.lst xs)/\ixN ⇑xs k=`j/\Q (upd H p<|.lst<|xs.set j v)
def O8:PSet X Ov:=by
 intro P4 s σ H o i v ov iv u Q I ro ri rv h;let(p,xs,k,j,rfl,rfl,hp,hj,q):=h;cases ro;let(t,rfl):=ri;let(its,n,r,ho,hz):=I.lst hp;let(h1,h2,h3,h4):=lU hj;have hl:=⇑r;have hn:=gW;have I':Inv X P4 σ (upd H p<|.lst<|xs.set j v) {s with heap:=s.heap.update p (Jt.mapSeq (·.setIfInBounds j u))}:=
  I.lstUpd hp ho (pB its n j u) (r.set rv j) (by rw[F3];exact hz) s.toks
 by_cases h0:0<=k
 .have hk:k.toNat=j:=by rw[seqIndex_of h0 h4]at h1;exact Option.some.inj h1
  exact PySem.W.ki_setAt ho h0 ∅ (by rw[FI,<-hl];exact h4) (by rw[hk];exact(_,I',q))
 .have hk:(k+(its.toArray.size:Int)).toNat=j:=by rw[seqIndex_neg ∅ h3]at h1;rw[FI,<-hl];exact Option.some.inj h1
  exact PySem.W.ki_setBack ho ∅ (by rw[FI,<-hl];exact h3) ∅ (by rw[hk];exact(_,I',q))
def lj (lo hi:Option Int)(n:Nat):(Kw lo hi none n).1=((HT.sIx n 0 lo:Nat):Int)/\(Kw lo hi none n).2.1=((HT.sIx n n hi:Nat):Int)/\(Kw lo hi none n).2.2=1:=by
 refine(?_,?_,rfl)
 .cases lo with
  |none=>simp [Kw,HT.sIx]
  |some i=>
   simp only[Kw,HT.sIx,Ie,show (1:Int)>0 by decide,if_true];by_cases h:i<0;simp only[h,if_true]<;>omega;simp only[h,if_false]<;>omega
 .cases hi with
  |none=>simp [Kw,HT.sIx]
  |some i=>
   simp only[Kw,HT.sIx,Ie,show (1:Int)>0 by decide,if_true];by_cases h:i<0;simp only[h,if_true]<;>omega;simp only[h,if_false]<;>omega
def jZ (its:↑Jk)(lo hi:Option Int):slicePick its.toArray lo hi none=((its.drop<|HT.sIx ⇑its 0 lo).take<|HT.sIx ⇑its ⇑its hi-HT.sIx ⇑its 0 lo).toArray:=by let(h1,h2,h3):=lj lo hi its.toArray.size;unfold slicePick;rw[h1,h2,h3];simp only[sliceRange_one,pick_run,FI]<;>rfl
def rSlL (K:Zf):V->Option Int->Option Int->Hp->VK->Prop:=λx lo hi H Q=>∃a xs,x=.ref a/\SqL K H a xs/\∀p,H p=none->Q (.ref p) (upd H p<|.lst<|LK xs lo hi)
def x8:SlR X (rSlL X.K):=by intro P4 s σ H x v vl vu lo hi sl Q I rx hs pl pu h;let(a,xs,rfl,hx,q):=h;cases rx;let(its,r,ht,hz):=I.list hx;have hlen:=⇑r;refine("list",_,slot_list_getitem.lookup,ht.isList.typeIs,?_);refine wpAny_getItem_list_slice ht.isList hs pl pu .none ⇑_ ?_ (by rw[FI]<;>omega);rw[jZ,<-hlen];refine(.ref ↥s,_,I.laid (t':=s.toks) (o:=.lst<|LK xs lo hi) (λb ob q=>Fx _ q) (Fw _) ?_,rfl,q _<|I.hok.fresh<|Fw _);exact(F1 (ie xs lo hi) hz,_,0,(r.drop<|HT.sIx ⇑xs 0 lo).take<|HT.sIx ⇑xs ⇑xs hi-HT.sIx ⇑xs 0 lo,FM _ rfl)
noncomputable def Mc:V->Bool|.non=>true|.bl _=>true|.int _=>true|.str _=>true|_=>false
noncomputable def eqV:V->V->Bool|.non,.non=>true|.bl a,.bl b=>a==b|.bl a,.int b=>(if a then 1 else 0)==b|.int a,.bl b=>a==(if b then 1 else 0)|.int a,.int b=>a==b|.str a,.str b=>a==b|_,_=>false
def CV (ry:RelV y u)(rx:RelV x v)(fy:Mc y=true)(fx:Mc x=true):SeqAt.EqAt A s u v (eqV y x):=by
 cases y with
 |non=>
  cases ry;cases x with|non=>cases rx;exact SeqAt.EqAt.same _|bl b=>cases rx;exact SeqAt.EqAt.none_bool b|int b=>let(t,rfl):=rx;exact SeqAt.EqAt.none_int b t|str b=>let(t,rfl):=rx;exact SeqAt.EqAt.none_str b t|_=>exact absurd (show false=true from fx) FP
 |bl a=>
  cases ry;cases x with|non=>cases rx;exact SeqAt.EqAt.bool_none a|bl b=>cases rx;exact SeqAt.EqAt.bool_bool a b|int b=>let(t,rfl):=rx;exact SeqAt.EqAt.bool_int a b t|str b=>let(t,rfl):=rx;exact SeqAt.EqAt.bool_str a b t|_=>exact absurd (show false=true from fx) FP
 |int a=>
  let(t',rfl):=ry;cases x with|non=>cases rx;exact SeqAt.EqAt.int_none a t'|bl b=>cases rx;exact SeqAt.EqAt.int_bool a t' b|int b=>let(t,rfl):=rx;exact SeqAt.EqAt.int_int a t' b t|str b=>let(t,rfl):=rx;exact SeqAt.EqAt.int_str a t' b t|_=>exact absurd (show false=true from fx) FP
 |str a=>
  let(t',rfl):=ry;cases x with|non=>cases rx;exact SeqAt.EqAt.str_none a t'|bl b=>cases rx;exact SeqAt.EqAt.str_bool a t' b|int b=>let(t,rfl):=rx;exact SeqAt.EqAt.str_int a t' b t|str b=>let(t,rfl):=rx;exact SeqAt.EqAt.str_str a t' b t|_=>exact absurd (show false=true from fx) FP
 |_=>exact absurd (show false=true from fy) FP
noncomputable def eqU (x:V)(u:Jk):Bool:=match u with|.none=>eqV .non x|.bool b=>eqV (.bl b) x|.int i _=>eqV (.int i) x|.str z _=>eqV (.str z) x|_=>false
def w9 (r:RelV y u)(f:Mc y=true):eqU x u=eqV y x:=by
 cases y with|non=>cases r;rfl|bl b=>cases r;rfl|int i=>let(t,rfl):=r;rfl|str z=>let(t,rfl):=r;rfl|_=>exact absurd (show false=true from f) FP
theorem gC :∀ {xs:↑V}{us:↑Jk},Vals xs us->xs.all Mc=true->us.any (eqU x)=xs.any λy=>eqV y x|_,_,.nil,_=>rfl|y::xs,u::us,.cons r t,f=>by rw[GX,Gd]at f;rw[GH,GH,w9 r f.1,gC t f.2]
theorem eS (rx:RelV x v)(fx:Mc x=true):∀ {xs:↑V}{us:↑Jk},Vals xs us->xs.all Mc=true->∀u∈us,SeqAt.EqAt A s u v (eqU x u)
 |_,_,.nil,_=>λu hu=>by cases hu
 |y::xs,u::us,.cons r t,f=>λu' hu=>by
  rw[GX,Gd]at f;rcases FC.mp hu with rfl|hu
  rw[w9 r f.1];exact CV r rx f.1 fx;exact eS rx fx t f.2 u' hu
noncomputable def inV (x:V)(xs:↑V):Bool:=xs.any λy=>eqV y x
noncomputable def rIn (K:Zf)(neg:Bool):R2:=λx y H Q=>∃p xs,y=.ref p/\(SqL K H p xs\/SqT K H p xs)/\Mc x=true/\xs.all Mc=true/\Q (.bl<|if neg then !inV x xs else inV x xs) H
def NO:OpR X (J4 .In) (rIn X.K false):=by
 intro P4 s σ H x y v u Q I rx ry h;let(p,xs,rfl,hq,fx,fs,q):=h;cases ry;rcases hq with hq|hq
 let(its,r,pl,hz):=I.list hq;refine SeqAt.in_listAt (eqU x) pl.isList (λw hw=>eS rx fx r fs w<|by simpa using hw) (.bl _,H,I,rfl,?_);rw[show its.toArray.any (eqU x)=its.any (eqU x) by simp,gC r fs];exact q;let(its,r,pl,hz):=I.tuple hq;refine SeqAt.in_tupleAt (eqU x) pl (λw hw=>eS rx fx r fs w<|by simpa using hw) (.bl _,H,I,rfl,?_);rw[show its.toArray.any (eqU x)=its.any (eqU x) by simp,gC r fs];exact q
def NS:OpR X (J4 .NotIn) (rIn X.K true):=by
 intro P4 s σ H x y v u Q I rx ry h;let(p,xs,rfl,hq,fx,fs,q):=h;cases ry;rcases hq with hq|hq
 let(its,r,pl,hz):=I.list hq;refine SeqAt.notIn_listAt (eqU x) pl.isList (λw hw=>eS rx fx r fs w<|by simpa using hw) (.bl _,H,I,rfl,?_);rw[show its.toArray.any (eqU x)=its.any (eqU x) by simp,gC r fs];exact q;let(its,r,pl,hz):=I.tuple hq;refine SeqAt.notIn_tupleAt (eqU x) pl (λw hw=>eS rx fx r fs w<|by simpa using hw) (.bl _,H,I,rfl,?_);rw[show its.toArray.any (eqU x)=its.any (eqU x) by simp,gC r fs];exact q
def NT:OpR X (J4 .NotIn) (λx y H Q=>∃i j ,x=.str i/\y=.str j/\Q (.bl<|!(!(Jl.Str.occurrences j i 0 ⇑j 1).isEmpty)) H):=by intro P4 s σ H x y v u Q I rx ry h;let(i,j,rfl,rfl,q):=h;let(t,rfl):=rx;let(t',rfl):=ry;exact notIn_str (.bl _,H,I,rfl,q)
def mw:CallR X (.builtin "len") (λxs H Q=>∃p ys ,xs=[.ref p]/\(SqL X.K H p ys\/SqT X.K H p ys)/\Q (.int ⇑ys) H):=by
 intro P4 s σ H xs us Q I r h;let(p,ys,rfl,hq,q):=h;let(u,rfl,rx):=PM r;cases rx;have hn:=gW;rcases hq with hq|hq
 let(its,r',pl,hz):=I.list hq;have hlen:=⇑r';exact Calls.call_len_list pl.isList (by simp only[FI]<;>omega) (.int ⇑ys,H,I.tok _,(s.toks+1,by rw[FI,hlen]),q);let(its,r',pl,hz):=I.tuple hq;have hlen:=⇑r';exact len_tuple pl (by simp only[FI]<;>omega) (.int ⇑ys,H,I.tok _,(s.toks+1,by rw[FI,hlen]),q)
def Ly:CallR X (.builtin "len") (λxs H Q=>∃z ,xs=[.str z]/\⇑z<=sizeLine/\Q (.int ⇑z) H):=by intro P4 s σ H xs us Q I r h;let(z,rfl,hz,q):=h;let(u,rfl,t,rfl):=PM r;have hn:=gW;exact len_str ∅ (.int ⇑z,H,I.tok _,(_,rfl),q)
def CallR.or {r r':↑V->Hp->VK->Prop}(h:CallR X f r)(h':CallR X f r'):CallR X f (λxs H Q=>r xs H Q\/r' xs H Q):=by
 intro P4 s σ H xs us Q I rs q;rcases q with q|q
 exact h P4 s σ H xs us Q I rs q;exact h' P4 s σ H xs us Q I rs q
def mr:CallR X (.type "list") (λxs H Q=>∃p ys ,xs=[.ref p]/\(SqL X.K H p ys\/SqT X.K H p ys)/\∀l,H l=none->Q (.ref l) (upd H l<|.lst ys)):=by
 intro P4 s σ H xs us Q I r h;let(p,ys,rfl,hq,q):=h;let(u,rfl,rx):=PM r;cases rx;have fin:∀ (its:↑Jk),Vals ys its->⇑ys<=sizeLine->∀ (h':Jp) (c':Nat),(∀b o' ,s.heap.get? b=`o'->h'.get? b=`o')->
   h'.get? ↥s=some {cls:=.type "list",dict:=none,data:=.seq its.toArray c',slots:= #[]}->EP X P4 σ Q (.ref ↥s) {s with heap:=h'}:=λits r' hz h' c' kp e=>
  (.ref ↥s,_,I.laid (t':=s.toks) kp (Fw _) (show ObjOk X.prog X.w _ h' _ (.lst ys) from(hz,its,c',r',e)),rfl,q _<|I.hok.fresh<|Fw _)
 rcases hq with hq|hq
 let(its,r',pl,hz):=I.list hq;have hlen:=⇑r';let(o,ho,hc,n,hd):=pl.isList;exact call_list_seq p (.inl rfl) ho hc hd (λh' c' kp e=>fin its r' hz h' c' kp e) (by simp only[FI]<;>omega);let(its,r',pl,hz):=I.tuple hq;have hlen:=⇑r';let(o,ho,hc,n,hd):=pl;exact call_list_seq p (.inr rfl) ho hc hd (λh' c' kp e=>fin its r' hz h' c' kp e) (by simp only[FI]<;>omega)
def j7:CallR X (.type "tuple") (λxs H Q=>∃p ys ,xs=[.ref p]/\((SqL X.K H p ys/\∀l ,H l=none->Q (.ref l) (upd H l<|.tup ys))\/(SqT X.K H p ys/\Q (.ref p) H))):=by
 intro P4 s σ H xs us Q I r h;let(p,ys,rfl,h):=h;let(u,rfl,rx):=PM r;cases rx;rcases h with⟨hq,q⟩|⟨hq,q⟩
 .let(its,r',pl,hz):=I.list hq;have hlen:=⇑r';refine call_tuple_list pl.isList (λh' kp=>?_) (by simp only[FI]<;>omega);have I1:Inv X P4 σ H {s with heap:=h'}:=I.kept (t':=s.toks) kp;have I2:Inv X P4 σ (upd H h'.objs.size<|.tup ys) {s with heap:=h'.push {cls:=.type "tuple",data:=.seq its.toArray}}:=
   I1.laid (t':=s.toks) (λb o e=>Fx _ e) (Fw _) (show ObjOk X.prog X.w _ _ _ (.tup ys) from(hz,its,r',IsTupD.new _ _))
  exact(.ref h'.objs.size,_,I2,rfl,q _<|I1.hok.fresh<|Fw _)
 let(its,r',pl,hz):=I.tuple hq;exact call_tuple_same pl (.ref p,H,I,rfl,q)
def tyV (K:Zf)(T:String)(x:V)(H:Hp):Prop:=match x with
 |.str _=>T="str"
 |.int _=>T="int"
 |.ref p=>(T="list"/\∃xs ,SqL K H p xs)\/(T="tuple"/\∃o ,K.lookup p=`o/\o.cls=.type "tuple"/\o.dict=none)\/
  (T="dict"/\((∃kvs ,H p=some (.dK kvs))\/ ∃kvs ,H p=some (.dT kvs)))\/(T="set"/\∃S n ,H p=some (.set S n))
 |_=>False
def Ay (I:Inv X P4 σ H s)(r:RelV x v)(ty:tyV X.K T x H):
  s.TypeIs v T/\∀a,v=.ref a->∃ob,s.heap.get? a=`ob/\ob.dict=none:=by
 cases x with
 |str z=>
  let(t,rfl):=r;cases (show T="str" from ty);exact(typeIs_str s z t,λJ e=>nomatch e)
 |int i=>
  let(t,rfl):=r;cases (show T="int" from ty);exact(typeIs_int s i t,λJ e=>nomatch e)
 |ref p=>
  cases r;rcases ty with⟨rfl,xs,hq⟩|⟨rfl,o,hk,hc,hd⟩|⟨rfl,hk⟩|⟨rfl,S,n,hk⟩
  let(its,_,pl,_):=I.list hq;refine(pl.isList.typeIs,λa e=>?_);cases e;let(o,n,e,c,hd,_):=pl;exact(o,e,hd);refine((o,I.kIn p o hk,hc),λa e=>?_);cases e;exact(o,I.kIn _ o hk,hd)
  .have z:∃o,s.heap.get? p=`o/\o.ExactDict:=by
    rcases hk with⟨kvs,hk⟩|⟨kvs,hk⟩
    let(_,_,_,_,o,_,_,e,ex,_):=I.hok p _ hk;exact(o,e,ex);let(_,_,_,_,o,_,_,e,ex,_):=I.hok p _ hk;exact(o,e,ex)
   let(o,e,ex):=z;refine((o,e,ex.1),λa e2=>?_);cases e2;exact(o,e,ex.2.1)
  let(o,_,_,_,e,ex,_):=I.hok p _ hk;refine((o,e,ex.1),λa e2=>?_);cases e2;exact(o,e,ex.2.1)
 |_=>exact False.elim ty
noncomputable def tBM (K:Zf)(T:String)(r:V->↑V->Hp->VK->Prop)(to:TE)(t:TA):TE:=λσ H Q=>to σ H λx H1=>tyV K T x H1/\t σ H1 λxs H2=>r x xs H2 Q
variable {o e:Expr}{es:↑Expr}{to:TE}{t:TA}{name:Str}{apos cpos:JY}{T id:String}{r:V->↑V->Hp->VK->Prop}
def vE (pa:PlainAttrs T)(slot:Slot T name id)(hty:typeOf (.builtin id)=pure (.type "method_descriptor"))(hm:MtR X id r)(ho:PE X o to)(ha:PA X (e::es) t)
  (hbase:Kj o name X.env (JX o X.env)=JX o X.env:=by rfl)
  (hfew:((JZ cpos<|J1 (e::es) X.env).all (λx=>!x.1)&&(Kk cpos<|Kl [] X.env).all (λx=>x.1.isSome)
   && decide (⇑(e::es)+⇑([]:↑Kr)+(if ([]:↑Kr).isEmpty then 0 else 1)<30))=true:=by rfl)
  (hline:(apos.endLine==cpos.line)=true:=by rfl)(hs:J1 (e::es) X.env=(false ,JX e X.env)::J1 es X.env:=by rfl)(hplain:(JZ cpos<|J1 es X.env).any (·.1)=false:=by rfl):
  PE X (.Call (.Attribute o name apos) (e::es) [] cpos) (tBM X.K T r to t):=by
 intro P4 s σ H Q I h;refine wpAny_Call_method_late hbase hfew hline rfl (thn (ho P4 s σ H _ I h) λv s1 qz=>?_);let(x,H1,I1,r1,ty,q1):=qz;let(h1,h2):=Ay I1 r1 ty;refine(T,id,pa,slot,hty,h1,h2,?_);have hA:=ha cpos P4 s1 σ H1 _ I1 q1;rw[hs]at hA ⊢;refine Calls.callWith_builtin (by show (false||(JZ cpos<|J1 es X.env).any (·.1))=false;rw[hplain]<;>rfl)<|Calls.evalArgs_plain ?_;exact thn hA λus s2 (vs,H2,I2,r2,q2)=>hm P4 s2 σ H2 x vs v us Q I2 r1 r2 q2
end
end
section
def MtM (X:Cx)(id:String)(r:V->↑V->Hp->VK->Prop):Prop:=
 ∀ (P4:↑(Jq×Jt)) (s:Js) (σ:St) (H:Hp) (x:V) (xs:↑V) (v:Jk) (us:↑Jk) (Q:VK),Inv X P4 σ H s->RelV x v->Vals xs us->r x xs H Q->
   Jw (Jx X.prog X.w) X.A (call (.builtin id) (v::us)) (EP X P4 σ Q) X.xe s
def Vals.one:∀ {x:V}{us:↑Jk},Vals [x] us->∃u,us=[u]/\RelV x u
 :=by
 intro x us h;cases h with|cons r q=>cases q;exact(_,rfl,r)
def Vals.two:∀ {x y:V}{us:↑Jk},Vals [x,y] us->∃u v,us=[u,v]/\RelV x u/\RelV y v
 :=by
 intro x y us h;cases h with
 |cons r q=>
  cases q with|cons q z=>cases z;exact(_,_,rfl,r,q)
theorem Vals.eraseIdx:∀ {xs:↑V}{us:↑Jk} (i:Nat),Vals xs us->Vals (xs.eraseIdx i) (us.eraseIdx i)|_,_,_,.nil=>.nil|_,_,0,.cons _ t=>t|_,_,i+1,.cons r t=>.cons r<|Vals.eraseIdx i t
theorem Vals.rep (h:Vals xs us):∀k:Nat,Vals (List.replicate k xs).flatten (List.replicate k us).flatten|0=>.nil|k+1=>by rw[GY,GY,G9,G9];exact Vals.append h<|Vals.rep h k
theorem kM {α:Type}:∀ (l:↑α) (i:Nat),⇑(l.eraseIdx i)<=⇑l|[],_=>Fw _|_::_,0=>Gj _|_::r,i+1=>Nat.succ_le_succ<|kM r i
theorem kO (its:↑Jk):∀ (k:Nat) (acc:↑Jk),
  Ig (λx1 x2=>x1++x2) acc.toArray (List.replicate k its.toArray)=(acc++(List.replicate k its).flatten).toArray
 |0,acc=>⇑_
 |k+1,acc=>by
  have e:acc.toArray++its.toArray=(acc++its).toArray:=⇑_;have e2:(acc++its)++(List.replicate k its).flatten=acc++(List.replicate (k+1) its).flatten:=by rw[GY,G9,FZ]
  rw[<-e2,<-kO its k (acc++its),<-e,GY,GA]
section
variable {X:Cx}{P4:↑(Jq×Jt)}{σ:St}{H:Hp}{s:Js}{l:Jq}{xs ys:↑V}
def Inv.lset {its its':↑Jk}{n:Nat}{f:Array Jk->Array Jk}{t':Nat}(I:Inv X P4 σ H s)(hH:H l=some (.lst xs))
  (e:s.heap.get? l=some {cls:=.type "list",data:=.seq its.toArray n})(hf:f its.toArray=its'.toArray)(hv:Vals ys its')(hz:⇑ys<=sizeLine):
  Inv X P4 σ (upd H l<|.lst ys) {s with heap:=s.heap.update l<|Jt.mapSeq f,toks:=t'}:=by
 have q:=PySem.IsL.update e f;rw[hf]at q;refine I.write (x:=l) (e:=l) (by rw[hH];exact trivial) (.inl rfl) (λb' u hb hu=>(Ic s.heap (Jt.mapSeq f)<|Ne.symm hb).trans hu) (_,q) ?_;exact(hz,its',_,hv,q)
def Inv.lnew {t':Nat}(I:Inv X P4 σ H s)(hv:Vals ys its)(hz:⇑ys<=sizeLine):
  Inv X P4 σ (upd H ↥s (.lst ys)) {s with heap:=s.heap.push {cls:=.type "list",data:=.seq its.toArray},toks:=t'}:=
 I.laid (λJ J q=>Fx _ q) (Fw _) (hz,its,0,hv,FM _ rfl)
theorem Inv.fresh (I:Inv X P4 σ H s):H ↥s=none:=I.hok.fresh<|Fw _
def Inv.lstM (I:Inv X P4 σ H s)(hH:H l=some (.lst xs)):⇑xs<=sizeLine/\∃ (its:↑Jk) (n:Nat),Vals xs its/\⇑xs=⇑its/\s.heap.get? l=some {cls:=.type "list",data:=.seq its.toArray n}:=by let(z,its,n,r,e):=I.hok l _ hH;exact(z,its,n,r,⇑r,e)
def nA {n:Nat}(h:n<=sizeLine):Jl.List.listTooLong n=false:=by unfold Jl.List.listTooLong;exact s0 ∅
end
section
variable {X:Cx}
def yi:V->↑V->Hp->VK->Prop:=λx vs H Q=>∃l xs y,x=.ref l/\vs=[y]/\H l=some (.lst xs)/\⇑xs<sizeLine/\Q .non (upd H l<|.lst<|xs++[y])
def sR:MtM X "list.append" yi:=by intro P4 s σ H x vs v us Q I rx rv h;let(l,xs,y,rfl,rfl,hH,hz,q):=h;cases rx;let(u,rfl,ru):=rv.one;let(z,its,n,r,hl,e):=I.lstM hH;refine Kx F.slot_list_append (_,e,rfl) F.entry_list_append (F.args_list_append_2 _ _) (PySem.list_append l its.toArray n u<|by rw[FI];omega) (e,?_);refine(.non,_,I.lset (its':=its++[u]) hH e ⇑_ (r.append<|.cons ru .nil) ?_,rfl,q);rw[FH,Hr];omega
def yh:V->↑V->Hp->VK->Prop:=λx vs H Q=>∃l b xs zs,x=.ref l/\vs=[.ref b]/\H l=some (.lst xs)/\H b=some (.lst zs)/\⇑xs+⇑zs<=sizeLine/\Q .non (upd H l<|.lst<|xs++zs)
def sQ:MtM X "list.extend" yh:=by
 intro P4 s σ H x vs v us Q I rx rv h;let(l,b,xs,zs,rfl,rfl,hH,hB,hz,q):=h;cases rx;let(u,rfl,ru):=rv.one;cases ru;let(z,its,n,r,hl,e):=I.lstM hH;let(z2,its2,n2,r2,hl2,e2):=I.lstM hB;have hsz:its.toArray.size+its2.toArray.size<=sizeLine:=by rw[FI,FI];omega
 have hlong:¬(!its.toArray.isEmpty && Jl.List.listTooLong (its.toArray.size+its2.toArray.size))=true:=by rw[nA hsz,Bool.and_false];exact FP
 refine Kx F.slot_list_extend (_,e,rfl) F.entry_list_extend (F.args_list_extend_2 _ _)
  (AutoSeq1.list_extend_list_list_0 l its.toArray n b its2.toArray n2 hlong (by rw[FI];omega) ∅) (e,e2,?_)
 refine(.non,_,I.lset (its':=its++its2) hH e ⇑_ (r.append r2) ?_,rfl,q);rw[FH];omega
def AX:V->↑V->Hp->VK->Prop:=λx vs H Q=>∃l xs i k y,x=.ref l/\vs=[.int i]/\H l=some (.lst xs)/\ -(2^63)<=i/\i<2^63/\seqIndex? i ⇑xs=`k/\xs[k]?=`y/\Q y (upd H l<|.lst<|xs.eraseIdx k)
def v4:MtM X "list.pop" AX:=by
 intro P4 s σ H x vs v us Q I rx rv h;let(l,xs,i,k,y,rfl,rfl,hH,h1,h2,hk,hy,q):=h;cases rx;let(u,rfl,ru):=rv.one;let(t,rfl):=ru;let(z,its,n,r,hl,e):=I.lstM hH;let(w,hw,rw'):=r.get hy;refine Kx F.slot_list_pop (_,e,rfl) F.entry_list_pop (F.args_list_pop_2 _ _)
  (MeetsSeq.list_pop_at l its.toArray n i t k w (fitsIndex_both h1 h2) (by rw[FI,<-hl];exact hk) (by rw[<-Gb];exact hw)<|by rw[FI];omega) (e,?_)
 refine(y,_,I.lset (its':=its.eraseIdx k) hH e ?_ (r.eraseIdx k) ?_,rw',q);show its.toArray.eraseIdxIfInBounds k=(its.eraseIdx k).toArray;rw[List.eraseIdxIfInBounds_toArray];have:=kM xs k;omega
noncomputable def rCat:R2:=λx y H Q=>∃l b xs zs,x=.ref l/\y=.ref b/\H l=some (.lst xs)/\H b=some (.lst zs)/\⇑xs+⇑zs<=sizeLine/\∀p,H p=none->Q (.ref p) (upd H p<|.lst<|xs++zs)
def vP:OpR X (Kh .Add) rCat:=by intro P4 s σ H x y v u Q I rx ry h;let(l,b,xs,zs,rfl,rfl,hH,hB,hz,q):=h;cases rx;cases ry;let(z,its,n,r,hl,e):=I.lstM hH;let(z2,its2,n2,r2,hl2,e2):=I.lstM hB;refine PySem.P.add_list e e2 ?_ (by rw[FI,FI];omega);have ea:its.toArray++its2.toArray=(its++its2).toArray:=⇑_;rw[ea];exact(.ref _,_,I.lnew (t':=s.toks) (r.append r2) (by rw[FH];omega),rfl,q _ I.fresh)
noncomputable def rRep:R2:=λx y H Q=>∃l k xs,x=.ref l/\y=.int k/\H l=some (.lst xs)/\ -(2^63)<=k/\k<2^63/\⇑xs*k.toNat<=sizeLine/\
 ∀p,H p=none->Q (.ref p) (upd H p<|.lst (List.replicate k.toNat xs).flatten)
def zq {α:Type}(xs:↑α)(k:Nat):(List.replicate k xs).flatten.length=k*⇑xs:=by
 induction k with|zero=>simp|succ k ih=>rw[GY,G9,FH,ih,Nat.succ_mul,Gy]
def Br:OpR X (Kh .Mult) rRep:=by
 intro P4 s σ H x y v u Q I rx ry h;let(l,k,xs,rfl,rfl,hH,h1,h2,hz,q):=h;cases rx;let(t,rfl):=ry;let(z,its,n,r,hl,e):=I.lstM hH;have hlen:its.toArray.size*k.toNat<=sizeLine:=by rw[FI,<-hl];exact hz
 have hcap:¬its.toArray.size*k.toNat>(2^63-1) / 8:=by have:(sizeLine:Nat)<=(2^63-1) / 8:=↥_;omega
 have hfit:¬(!Jl.List.listFitsIndex k)=true:=by rw[fitsIndex_both h1 h2];exact FP
 have hlong:¬Jl.List.listTooLong (its.toArray.size*k.toNat)=true:=by rw[nA hlen];exact FP
 have hnew:Ig (λx1 x2=>x1++x2) #[] (List.replicate (if its.toArray.isEmpty=true then 0 else k.toNat) its.toArray)=(List.replicate k.toNat its).flatten.toArray:=by
  have f0:∀m:Nat,Ig (λx1 x2=>x1++x2) #[] (List.replicate m its.toArray)=(List.replicate m its).flatten.toArray:=λm=>by have:=kO its m [];rw[Ge]at this;exact this
  rw[f0];cases its with|nil=>simp|cons a r'=>rw[gV ⇑_]
 refine wpAny_binaryOp_repeat_ref (T:="list") (U:="int") ↥_ (_,e,rfl) (λs'=>typeIs_int s' k t) noFill_list_mul F.fills_int_mul F.slot_int_rmul repeat_list F.slot_int_index.lookup
  (Kx F.slot_int_rmul (typeIs_int s k t) F.entry_int_rmul (F.args_int_rmul_2 _ _) (int___rmul___int_list k t l its.toArray n)
   (e,rfl,(_,e,rfl),Kx F.slot_list_mul (_,e,rfl) F.entry_list_mul (F.args_list_mul_2 _ _) (AutoListH.list___mul___list_int_3 l its.toArray n k t hfit hcap hlong) (e,?_)))
 rw[hnew];exact(.ref _,_,I.lnew (t':=s.toks) (r.rep k.toNat) (by rw[zq,Nat.mul_comm];exact hz),rfl,q _ I.fresh)
end
end
section
section
variable {κ:Type} [DecidableEq κ]
noncomputable def PL (kvs:↑(κ×V))(k:κ):Option V:=(kvs.find? λkv=>decide<|kv.1=k).map (·.2)
noncomputable def Om (kvs:↑(κ×V))(k:κ)(v:V):↑(κ×V):=
 if (kvs.any λkv=>decide<|kv.1=k)=true then kvs.map (λkv=>if kv.1=k then (kv.1 ,v) else kv) else kvs++[(k ,v)]
def fU {p:κ×V}{r:↑(κ×V)}{k:κ}(e:p.1=k):PL (p::r) k=some p.2:=by simp [PL,GN,e]
def fV {p:κ×V}{r:↑(κ×V)}{k:κ}(e:¬p.1=k):PL (p::r) k=PL r k:=by simp [PL,GN,e]
theorem iO (k:κ):∀kvs:↑(κ×V),(kvs.any λkv=>decide<|kv.1=k)=(PL kvs k).isSome
 |[]=>rfl
 |p::r=>by
  rw[GH];by_cases e:p.1=k;simp only[fU e,CF e,Bool.true_or,Option.isSome_some];rw[fV e,s0 e,Bool.false_or];exact iO k r
def di (kvs:↑(κ×V))(k:κ)(v:V):⇑(Om kvs k v)<=⇑kvs+1:=by
 unfold Om;split;rw[Fv];omega;rw[FH,FA,GM];omega
def RelO.isSome_eq (r:RelO o u):o.isSome=u.isSome:=by
 cases o with
 |none=>cases u with|none=>rfl|some _=>exact (show False from r).elim
 |some _=>cases u with|none=>exact (show False from r).elim|some _=>rfl
theorem RelO.getD (r:RelO o u)(rd:RelV d d'):RelV (o.getD d) (u.getD d'):=by
 cases o with
 |none=>cases u with|none=>exact rd|some _=>exact (show False from r).elim
 |some _=>cases u with|none=>exact (show False from r).elim|some _=>exact r
def KV.val (r:KV kvs vs)(k:κ):RelO (PL kvs k) (valueAt vs k):=by
 unfold KV at r
 induction r with
 |nil=>exact True.intro
 | @cons p q ps qs h t ih=>
   let(h1,h2):=h;by_cases e:p.1=k
   .have e':q.1=k:=h1.symm.trans e;have b:valueAt (q::qs) k=some q.2:=by simp [valueAt,GN,e']
    rw[fU e,b];exact h2
   .have e':¬q.1=k:=λz=>e<|h1.trans z;have b:valueAt (q::qs) k=valueAt qs k:=by simp [valueAt,GN,e']
    rw[fV e,b];exact ih
theorem KV.any (r:KV kvs vs)(k:κ):(kvs.any λkv=>decide<|kv.1=k)=vs.any λkv=>decide (kv.1=k):=by
 unfold KV at r
 induction r with|nil=>rfl|cons h t ih=>rw[GH,GH,ih,h.1]
def KV.repl (r:KV kvs vs)(k:κ)(ry:RelV y u):
  KV (kvs.map λkv=>if kv.1=k then (kv.1 ,y) else kv) (vs.map λkv=>if kv.1=k then (kv.1 ,u) else kv):=by
 unfold KV at r ⊢
 induction r with
 |nil=>exact .nil
 | @cons p q ps qs h t ih=>
   rw[Fz,Fz];refine .cons ?_ ih;let(h1,h2):=h;by_cases e:p.1=k;rw[np e,np<|h1.symm.trans e];exact(h1,ry);rw[gV e,gV<|λz=>e<|h1.trans z];exact(h1,h2)
def KV.put (r:KV kvs vs)(k:κ)(ry:RelV y u):KV (Om kvs k y) (stored vs k u):=by
 unfold Om stored;rw[r.any k];by_cases e:(vs.any λkv=>decide<|kv.1=k)=true;rw[np e,np e];exact r.repl k ry;rw[gV e,gV e];exact Paired.snoc r (rfl,ry)
theorem KV.length (r:KV kvs vs):⇑kvs=⇑vs:=Paired.length r
end
def jE {w:Jo}(r:RelV (kV k) u):(aS P w).is k u=true:=by
 cases k with|inl i=>let(t,e):=(show∃t ,u=Jk.int i t from r);subst e;exact nE P w i t|inr x=>let(t,e):=(show∃t ,u=Jk.str x t from r);subst e;exact nD P w x t
theorem gZ {w:Jo}:∀ {ks:↑Key}{us:↑Jk},Vals (ks.map kV) us->ItemsAre (aS P w) ks us
 |[],_,r=>by rw[GB]at r;cases r;exact .nil
 |k::ks,_,r=>by
  rw[Fz]at r;cases r with|cons h t=>exact .cons (jE h)<|gZ t
abbrev KT (H:Hp):↑(↑Key×V)->↑(↑Key×Jq×Jk)->Prop:=Paired λp q=>p.1=q.1/\H q.2.1=some (.tup<|p.1.map kV)/\RelV p.2 q.2.2
def KT.val (r:KT H kvs xs)(k:↑Key):RelO (PL kvs k) ((Ky xs k).map (·.2)):=by
 induction r with
 |nil=>exact True.intro
 | @cons p q ps qs h t ih=>
   let(h1,_,h2):=h;by_cases e:p.1=k
   .have e':q.1=k:=h1.symm.trans e;have b:Ky (q::qs) k=some q.2:=by simp [Ky,GN,e']
    rw[fU e,b];exact h2
   .have e':¬q.1=k:=λz=>e<|h1.trans z;have b:Ky (q::qs) k=Ky qs k:=by simp [Ky,GN,e']
    rw[fV e,b];exact ih
def KT.repl (r:KT H kvs xs)(k:↑Key)(ry:RelV y u):
  KT H (kvs.map λkv=>if kv.1=k then (kv.1 ,y) else kv) (xs.map<|putAt k u):=by
 induction r with
 |nil=>exact .nil
 | @cons p q ps qs h t ih=>
   rw[Fz,Fz];refine .cons ?_ ih;let(h1,h2,h3):=h;unfold putAt;by_cases e:p.1=k;rw[np e,np<|h1.symm.trans e];exact(h1,h2,ry);rw[gV e,gV<|λz=>e<|h1.trans z];exact(h1,h2,h3)
def KT.put (r:KT H kvs xs)(k:↑Key)(hb:H b=some (.tup<|k.map kV))(ry:RelV y u):
  KT H (Om kvs k y) (storedH xs k b u):=by
 have e:(kvs.any λkv=>decide<|kv.1=k)=(Ky xs k).isSome:=by rw[iO,(r.val k).isSome_eq,GZ]
 unfold Om storedH;rw[e];by_cases q:(Ky xs k).isSome=true;rw[np q,np q];exact r.repl k ry;rw[gV q,gV q];exact Paired.snoc r (rfl,hb,ry)
def KT.keeps (r:KT H kvs xs)(ht:∀b ys ,H b=some (.tup ys)->H' b=some (.tup ys)):KT H' kvs xs:=
 Paired.mapP r λJ J z=>(z.1,ht _ _ z.2.1,z.2.2)
section
variable {P:Jn}{w:Jo}{H:Hp}{h:Jp}{a:Jq}
def uY (ok:HOk P w H h)(e:Rd H a u):ObjOk P w H h a u:=e.ok ok
def jP (ok:HOk P w H h)(e:Rd H a (.dK kvs)):⇑kvs<=sizeLine/\(a==JM)=false/\∃vs,KV kvs vs/\h.DictOf (aS P w) a vs:=
 show ObjOk P w H h a (.dK kvs) from uY ok e
def ED (ok:HOk P w H h)(e:H a=some (.dK kvs)):⇑kvs<=sizeLine/\(a==JM)=false/\∃vs,KV kvs vs/\h.DictOf (aS P w) a vs:=jP ok<|.inl e
def gY (ok:HOk P w H h)(e:H a=some (.tup<|ks.map kV)):(JN<|aS P w).is h ks a:=by
 let(_,its,r,(o,h1,h2,n,h3),_):=(show ObjOk P w H h a (.tup<|ks.map kV) from ok a _ e)
 exact(o,its.toArray,n,h1,h2,h3,by simpa using gZ r)
def fH (ok:HOk P w H h)(e:Rd H a (.dT kvs)):⇑kvs<=sizeLine/\(a==JM)=false/\
  ∃xs,KT H kvs xs/\h.DictOfH (JN<|aS P w) a xs:=by
 let(z,y,xs,r,o,es,ep,h1,h2,h3,h4,h5):=(show ObjOk P w H h a (.dT kvs) from uY ok e)
 refine(z,y,xs,r,o,es,ep,h1,h2,h3,h4,λx hx=>?_,h5);have all:∀ {l:↑(↑Key×V)}{m:↑(↑Key×Jq×Jk)},KT H l m->∀x∈m,(JN<|aS P w).is h x.1 x.2.1:=by
  intro l m q
  induction q with
  |nil=>intro x hx;exact nomatch hx
  | @cons p q ps qs hq t ih=>
    intro x hx;rcases FC.mp hx with e|hx
    subst e;exact gY ok (by rw[<-hq.1];exact hq.2.1);exact ih x hx
 exact all r x hx
def EC (ok:HOk P w H h)(e:H a=some (.dT kvs)):⇑kvs<=sizeLine/\(a==JM)=false/\
 ∃xs,KT H kvs xs/\h.DictOfH (JN<|aS P w) a xs:=fH ok<|.inl e
end
def KQ (H:Hp)(a:Jq)(y:V)(r:Option V):Prop:=
 (∃kvs k ,Rd H a (.dK kvs)/\y=kV k/\r=PL kvs k)\/ ∃kvs k b,Rd H a (.dT kvs)/\y=.ref b/\H b=some (.tup<|k.map kV)/\r=PL kvs k
def DPut (H:Hp)(a:Jq)(y v:V)(H':Hp):Prop:=
 (∃kvs k ,H a=some (.dK kvs)/\y=kV k/\⇑kvs<sizeLine/\H'=upd H a (.dK<|Om kvs k v))\/
 ∃kvs k b,H a=some (.dT kvs)/\y=.ref b/\H b=some (.tup<|k.map kV)/\⇑kvs<sizeLine/\H'=upd H a (.dT<|Om kvs k v)
section
variable {X:Cx}{P4:↑(Jq×Jt)}{σ:St}{H:Hp}{s:Js}{a:Jq}{y v:V}{u r:Jk}{o:Option V}{A:Ju}{E:Jk->Js->Prop}
def Inv.big (I:Inv X P4 σ H s):JM<↥s:=by have h:JP<↥s:=(I.mod.glob.keeps I.bk).lt;exact HH ↥_ h
def t9 {Q:Jk->Js->Prop}(hu:A.units+1<Jv)(I:Inv X P4 σ H s)(g:KQ H a y `v)(ry:RelV y u)(h:∀w' s' ,Inv X P4 σ H s'->RelV v w'->Q w' s'):
  Jw (Jx X.prog X.w) A (getItem (.ref a) u) Q E s:=by
 rcases g with⟨kvs,k,e,ey,l⟩|⟨kvs,k,b,e,ey,eb,l⟩
 subst ey;let(z,hd,vs,rel,dd):=jP I.hok e;let(w',hw,rw'):=RelO.some_of (v:=v) (o:=valueAt vs k) (by rw[l];exact rel.val k);exact wpAny_getItem_of (jE ry) dd.mapOf hw<|h w' _ (I.tok _) rw';subst ey;cases (show u=Jk.ref b from ry);let(z,hd,xs,rel,dd):=fH I.hok e;let(w',hw,rw'):=RelO.some_of (v:=v) (o:=(Ky xs k).map (·.2)) (by rw[l];exact rel.val k);let(p,hp,hp2):=FE.mp hw;refine wpAny_getItem_heap (Kz hu) (gY I.hok eb) dd hp ?_;rw[hp2];exact h w' _ (I.tok _) rw'
def Fk {Q:Jk->Js->Prop}(hu:A.units+1<Jv)(I:Inv X P4 σ H s)(g:KQ H a y o)(ry:RelV y u)(h:∀s' ,Inv X P4 σ H s'->Q (.bool o.isSome) s'):
  Jw (Jx X.prog X.w) A (J4 .In u<|.ref a) Q E s:=by
 rcases g with⟨kvs,k,e,ey,l⟩|⟨kvs,k,b,e,ey,eb,l⟩
 subst ey;let(z,hd,vs,rel,dd):=jP I.hok e;refine wpAny_in_of (jE ry) hd dd.mapOf ?_;rw[<-(rel.val k).isSome_eq,<-l];exact h _<|I.tok _;subst ey;cases (show u=Jk.ref b from ry);let(z,hd,xs,rel,dd):=fH I.hok e;refine wpAny_in_heap (Kz hu) (gY I.hok eb) hd dd ?_;have q:=(rel.val k).isSome_eq;rw[GZ]at q;rw[<-q,<-l];exact h _<|I.tok _
def zJ {Q:Jk->Js->Prop}(hu:A.units+1<Jv)(I:Inv X P4 σ H s)(g:KQ H a y o)(ry:RelV y u)(h:∀s' ,Inv X P4 σ H s'->Q (.bool<|!o.isSome) s'):
  Jw (Jx X.prog X.w) A (J4 .NotIn u<|.ref a) Q E s:=by
 rcases g with⟨kvs,k,e,ey,l⟩|⟨kvs,k,b,e,ey,eb,l⟩
 subst ey;let(z,hd,vs,rel,dd):=jP I.hok e;refine wpAny_notIn_of (jE ry) hd dd.mapOf ?_;rw[<-(rel.val k).isSome_eq,<-l];exact h _<|I.tok _;subst ey;cases (show u=Jk.ref b from ry);let(z,hd,xs,rel,dd):=fH I.hok e;refine wpAny_notIn_heap (Kz hu) (gY I.hok eb) hd dd ?_;have q:=(rel.val k).isSome_eq;rw[GZ]at q;rw[<-q,<-l];exact h _<|I.tok _
def mi {t':Nat}(I:Inv X P4 σ H s)(mu:Mut (H a))(hs:Ga a s.heap h')(he:∃q ,h'.get? a=`q)(new:ObjOk X.prog X.w (upd H a ob) h' a ob):
  Inv X P4 σ (upd H a ob) {s with heap:=h',toks:=t'}:=
 I.write (x:=a) (e:=a) mu (.inl rfl) (λb q hb z=>(hs.2 b hb).trans z) he new
def xp {w:Jo}(z:⇑kvs<=sizeLine)(hd:(a==JM)=false)(rel:KV kvs vs)(dd:h'.DictOf (aS P w) a vs):
 ObjOk P w H' h' a (.dK kvs):=(z,hd,vs,rel,dd)
def t8 {Q:Unit->Js->Prop}(hu:A.units+1<Jv)(I:Inv X P4 σ H s)(g:DPut H a y v H')(ry:RelV y u)(rv:RelV v r)(h:∀s' ,Inv X P4 σ H' s'->Q () s'):
  Jw (Jx X.prog X.w) A (setItem (.ref a) u r) Q E s:=by
 rcases g with⟨kvs,k,e,ey,l,eH⟩|⟨kvs,k,b,e,ey,eb,l,eH⟩
 .subst ey eH;let(z,hd,vs,rel,dd):=ED I.hok e;have hz:⇑vs<=sizeLine:=by rw[<-⇑rel];exact z
  have hl:⇑(Om kvs k v)<=sizeLine:=by have:=di kvs k v;omega
  refine wpAny_setItem_pairs (hsz:=hz) (jE ry) dd λh' dd' hs=>h _ ?_;have he:∃q,h'.get? a=`q:=let (q,_,_,hq,_):=dd';(q,hq);exact mi I (by rw[e];exact True.intro) hs he<|xp hl hd (rel.put k rv) dd'
 .subst ey eH;cases (show u=Jk.ref b from ry);let(z,hd,xs,rel,dd):=EC I.hok e;have hz:⇑xs<=sizeLine:=by rw[<-Paired.length rel];exact z
  have hl:⇑(Om kvs k v)<=sizeLine:=by have:=di kvs k v;omega
  refine wpAny_setItem_heap (hsz:=hz) (Kz hu) (gY I.hok eb) dd λh' dd' hs=>h _ ?_;let(q,es,ep,hq,h2,h3,h4,_,h5):=dd';refine mi I (by rw[e];exact True.intro) hs (q,hq) (hl,hd,_,(rel.put k eb rv).keeps λc ys ec=>?_,q,es,ep,hq,h2,h3,h4,h5);rw[af<|D7 ec e<|λz=>nomatch z];exact ec
end
def oh (I:Inv X P4 σ H s)(g:KQ H a y o):s.TypeIs (.ref a) "dict":=by
 rcases g with⟨kvs,k,e,_,_⟩|⟨kvs,k,b,e,_,_,_⟩
 let(_,_,vs,_,dd):=jP I.hok e;exact dd.typeIs;let(_,_,xs,_,dd):=fH I.hok e;exact dd.typeIs
def xq {w:Jo}(h:Jp)(hb:JM<h.objs.size):ObjOk P w H (h.push {cls:=.type "dict",data:=.dict #[]}) h.objs.size (.dK []):=
 (FU _,beq_eq_false_iff_ne.mpr<|Ne.symm<|FJ hb,[],.nil,Jp.DictOf.new h)
def xm {w:Jo}(h:Jp)(hb:JM<h.objs.size):ObjOk P w H (h.push {cls:=.type "dict",data:=.dict #[]}) h.objs.size (.dT []):=
 (FU _,beq_eq_false_iff_ne.mpr<|Ne.symm<|FJ hb,[],.nil,_,#[],0,FM _ rfl,(rfl,rfl,rfl),rfl,rfl,Ha)
noncomputable def AJ:TE:=λJ H Q=>∀p,H p=none->Q (.ref p) (upd H p<|.dK [])
noncomputable def AH:TE:=λJ H Q=>∀p,H p=none->Q (.ref p) (upd H p<|.dT [])
section
variable {X:Cx}{pos:JY}
def NY:PE X (.Dict [] [] pos) AJ:=λP4 s σ H Q I h=>
 wpAny_Dict_empty (.ref ↥s,_,I.laid (a:=↥s) (o:=.dK []) (t':=s.toks) (λJ J q=>Fx _ q) (Fw _)<|xq s.heap I.big,rfl,h _<|I.hok.fresh<|Fw _)
def NZ:PE X (.Dict [] [] pos) AH:=λP4 s σ H Q I h=>
 wpAny_Dict_empty (.ref ↥s,_,I.laid (a:=↥s) (o:=.dT []) (t':=s.toks) (λJ J q=>Fx _ q) (Fw _)<|xm s.heap I.big,rfl,h _<|I.hok.fresh<|Fw _)
end
noncomputable def dS (kvs more:↑(Key×V)):↑(Key×V):=more.foldl (λacc kv=>Om acc kv.1 kv.2) kvs
structure M1 (X:Cx)(o:Expr)(m:Str)(apos:JY)(e:Expr)(cpos:JY):Prop where
 base:Kj o m X.env (JX o X.env)=JX o X.env
 few:((JZ cpos<|J1 [e] X.env).all (λx=>!x.1)&&(Kk cpos<|Kl [] X.env).all (λx=>x.1.isSome)
  && decide (⇑([e]:↑Expr)+⇑([]:↑Kr)+(if ([]:↑Kr).isEmpty then 0 else 1)<30))=true
 line:(apos.endLine==cpos.line)=true
 trees:JZ cpos (J1 [e] X.env)=[(false ,JX e X.env)]
structure M2 (X:Cx)(o:Expr)(m:Str)(apos:JY)(e f:Expr)(cpos:JY):Prop where
 base:Kj o m X.env (JX o X.env)=JX o X.env
 few:((JZ cpos<|J1 [e,f] X.env).all (λx=>!x.1)&&(Kk cpos<|Kl [] X.env).all (λx=>x.1.isSome)
  && decide (⇑([e,f]:↑Expr)+⇑([]:↑Kr)+(if ([]:↑Kr).isEmpty then 0 else 1)<30))=true
 line:(apos.endLine==cpos.line)=true
 trees:JZ cpos (J1 [e,f] X.env)=[(false ,JX e X.env),(false ,JX f X.env)]
def IsD (H:Hp)(a:Jq):Prop:=(∃kvs ,Rd H a<|.dK kvs)\/ ∃kvs,Rd H a<|.dT kvs
def pN (I:Inv X P4 σ H s)(d:IsD H a):
  s.TypeIs (.ref a) "dict"/\(∀b ,Jk.ref a=.ref b->∃ob,s.heap.get? b=`ob/\ob.dict=none)/\(a==JM)=false:=by
 rcases d with⟨kvs,e⟩|⟨kvs,e⟩
 let(_,hd,vs,_,dd):=jP I.hok e;refine(dd.typeIs,λb q=>?_,hd);cases q;let(ob,_,_,h1,h2,_):=dd;exact(ob,h1,h2.2.1);let(_,hd,xs,_,dd):=fH I.hok e;refine(dd.typeIs,λb q=>?_,hd);cases q;let(ob,_,_,h1,h2,_):=dd;exact(ob,h1,h2.2.1)
section
variable {X:Cx}{P4:↑(Jq×Jt)}{σ:St}{H:Hp}{s:Js}{a:Jq}{y:V}{u:Jk}{o:Option V}{A:Ju}{E:Jk->Js->Prop}
def C2 {Q:Jk->Js->Prop}(hu:A.units+1<Jv)(I:Inv X P4 σ H s)(g:KQ H a y o)(ry:RelV y u)(h:∀w' s' ,Inv X P4 σ H s'->RelV (o.getD .non) w'->Q w' s'):
  Jw (Jx X.prog X.w) A (call (.builtin "dict.get") [.ref a,u]) Q E s:=by
 rcases g with⟨kvs,k,e,ey,l⟩|⟨kvs,k,b,e,ey,eb,l⟩
 subst ey;let(z,hd,vs,rel,dd):=jP I.hok e;refine call_meetsIn PySem.F.slot_dict_get dd.typeIs PySem.F.entry_dict_get (PySem.F.args_dict_get_2 _ _) (meets_dict_get (aS X.prog X.w) a (jE ry) hd) (_,dd.mapOf,h _ _ (I.tok _) ?_);rw[l];exact (rel.val k).getD rfl;subst ey;cases (show u=Jk.ref b from ry);let(z,hd,xs,rel,dd):=fH I.hok e;refine call_meetsIn PySem.F.slot_dict_get dd.typeIs PySem.F.entry_dict_get (PySem.F.args_dict_get_2 _ _) (meetsH_dict_get (JN<|aS X.prog X.w) a b hd) (Kz hu,k,xs,gY I.hok eb,dd,h _ _ (I.tok _) ?_);rw[l];exact (rel.val k).getD rfl
end
noncomputable def AM (td ty:TE):TE:=λσ H Q=>td σ H λx H1=>∃a,x=.ref a/\IsD H1 a/\ty σ H1 λy H2=>∃o,KQ H2 a y o/\Q (o.getD .non) H2
section
variable {X:Cx}{o e:Expr}{apos cpos:JY}{td ty:TE}
def vD (hu:X.A.units+1<Jv)(ho:PE X o td)(he:PE X e ty)(m:M1 X o "get" apos e cpos):PE X (.Call (.Attribute o "get" apos) [e] [] cpos) (AM td ty):=by intro P4 s σ H Q I h;refine wpAny_Call_method m.base m.few m.line PySem.F.plainAttrs_dict PySem.F.slot_dict_get PySem.F.type_dict_get (thn (ho P4 s σ H _ I h) λu s1 qz=>?_);let(x,H1,I1,rx,a,ex,d,q1):=qz;subst ex;obtain rfl:u=Jk.ref a:=rx;let(t1,t2,_):=pN I1 d;refine(t1,t2,?_);rw[m.trees];refine Calls.callWith_builtin rfl (Calls.evalArgs_plain<|Calls.spliced_cons<|thn (he P4 s1 σ H1 _ I1 q1) λiv s2 (y,H2,I2,ry,ov,g,q2)=>Calls.spliced_nil ?_);exact C2 hu I2 g ry λw' s3 I3 rw'=>(_,H2,I3,rw',q2)
end
end
end L2
namespace Att
open PySem PySem.W PySem.Calls PyProof.Rows
def im :∀ (ns:↑Int) (vs:↑Jk),WellAll P h vs (ns.map WData.int)->IntsAre vs ns:=by
 intro ns
 induction ns with
 |nil=>
  intro vs w;rw[GB]at w;cases w;exact .nil
 |cons n ns ih=>
  intro vs w;rw[Fz]at w;cases w with
  |cons a b=>
   cases a;exact .cons _ _<|ih _ b
def sg {l:OpenLaw}{n:Nat}(hn:l.most=`n){P:Params}{h:Jp}{args:↑WData}{vals:↑Jk}
  (hpre:l.row.toRowW.claim.pre args=true)(hwl:WellAll P h vals args):
  ∃a vs ns,vals=[Jk.ref a]/\args=[WData.list<|ns.map WData.int]/\h.get? a=some {cls:=.type "list",data:=.seq vs.toArray}/\IntsAre vs ns/\⇑ns<=n:=by
 have hsh:WShape.hasAll [] args [.list .int]=true:=(pre_splitW hpre).1;have hc:l.pre.holds [] {args:=args}=true:=(pre_splitW hpre).2;let(d,r,rfl,h1,h2):=hasAllW_cons hsh;obtain rfl:=hasAllW_nil h2;let(xs,rfl,h3):=hasW_list h1;let(ns,rfl):=items_int h3;have hlen:⇑ns<=n:=by
  unfold OpenLaw.pre at hc;have h4:(WTm.not<|.lt (.lit<|.int (n:Int))<|.len<|.arg 0).holds [] {args:=[.list<|ns.map .int]}=true:=by have h4:=(holds_andW hc).1;rw[hn]at h4;exact h4
  have h5:=condW_of h4<|w_not<|w_lt w_lit<|w_len_list<|w_arg rfl;rw[Fv]at h5;refine Nat.le_of_not_lt λq=>?_;have q':(n:Int)<((⇑ns:Nat):Int):=∅
  first
   |(rw[CF q']at h5;exact absurd h5 ↥_)
   |(simp at h5;omega)
 cases hwl with
 |cons w1 w2=>
  cases w2;cases w1 with|list ho hall=>exact(_,_,ns,rfl,rfl,ho,im ns _ hall,hlen)
def sA (l:OpenLaw)(args:↑WData):l.row.toRowW.claim.post args (.bool true) args=true:=
 postW_of (r:=l.row.toRowW) (X:=(true==true))
  (show WShape.has [] (.bool true) .bool=true by first|rfl|decide|simp [WShape.has,WShape.arms,WShape.armsAll])
  (show (WTm.eq .res<|.lit<|.bool true).value [] {args:=args,res:=some<|.bool true,after:=args}=some (.bool<|true==true) from w_eq_bool (w_res rfl) w_lit) rfl
def attach_call {l:OpenLaw}{n:Nat}{q:Jn}{loose:↑Str}{XP:(Str->Option Jk)->Jp->Prop}{YP:Jo->Jp->Prop}{d:DefRec}
  (hn:l.most=`n)(hdf:d.params.defaults=[])
  (call:∀ (w:Jo) (s₀ s₁:Js) (mg mb:Str->Option Jk) (fa:Jq) (o:Jt) (pm cd doc:Jk) (a:Jq) (vs:↑Jk) (ns:↑Int) ,
   Ground q loose [] XP w s₀ mg mb s₁.heap->YP w s₁.heap->
   s₁.heap.get? fa=`o->o.data=.func (docDef d.name d.params d.body d.scope pm cd doc)->s₁.heap.CodeRec cd d.name->mg d.name=some (.ref fa)->
   s₁.heap.get? a=some {cls:=.type "list",data:=.seq vs.toArray}->IntsAre vs ns->⇑ns<=n->s₁.gens= #[]->
   codeAny (Jx l.prog w) callerA (.call (.ref fa) ([.ref a],[])) (λr s'=>r=.ok (.ret<|.bool true)/\OldK s₁.heap s'.heap/\s'.os=s₁.os/\JV s'.gens) s₁):
  WalkO q loose XP YP l.row.toRowW d [] (λf vs=>PySem.call f vs):=by
 intro w s₀ s₁ mg mb G Y fa o pm cd doc dV kV ho hd hcd hD hmg hg args vals as hpre hlay hrd hwl hlo;obtain rfl:dV=.none:=Dflts.none hD hdf;obtain rfl:kV=.none:=Dflts.noKw hD;let(a,vs,ns,rfl,rfl,hobj,hints,hlen):=sg hn hpre hwl;refine enter_call (Ko (call w s₀ s₁ mg mb fa o pm cd doc a vs ns G Y ho (fd_plain hd) hcd hmg hobj hints hlen hg) λr s' hq=>?_);let(rfl,h2,h3,h4):=hq;exact(.inl (.bool true,.bool true,[],rfl,λJ=>rfl,.bool true,sA l _,λJ=>(List.Pairwise.nil,λJ hm=>(nomatch hm))),h2,h3,h4)
section
end
end Att
namespace L2
open PySem PySem.Spec PyProof.Rows
theorem gE:∀ {vs:↑Jk}{ns:↑Int},IntsAre vs ns->Vals (ns.map V.int) vs|_,_,.nil=>.nil|_,_,.cons n t h=>.cons (t,rfl)<|gE h
def K7 (H:Hp):Prop:=∀b,H b=none\/ ∃o xs,H b=some (.frz o<|.lst xs)
def wF {w:Jo}{K:Zf}{mg mb:Str->Option Jk}{k:Nat}{x:Str}
  (KX:K.In s₁.heap)(hns:s₁.heap.Ns JP mg)(hb:s₁.heap.Ns builtinsNs mb)(hbb:∀x:Str ,x≠"__name__"->mb x=JR x)(hlim:s₁.heap.NoLimit)(hg:s₁.gens= #[])
  (ha:s₁.heap.get? a=some {cls:=.type "list",data:=.seq vs.toArray})(hi:IntsAre vs ns)(hl:⇑ns<=sizeLine)(hr:Room k callerA)
  (F:∀base:Jp ,K.In base->base.Ns JP mg->FnOk P w K mg base CX k fa fd [x] sp)(hbind:∀ (s:Js) (u:Jk) ,BindsTo s fd ([u],[]) [(x ,u)])
  (hsp:∀H:Hp ,K7 H->SqL K H a (ns.map V.int)->sp [.ref a] H (λv J=>v=.bl true) λJ J J=>False)
  (hCX:∀H e s' ,CX [] H s₁ (λJ J J=>False) e s'->False):
  codeAny (Jx P w) callerA (.call (.ref fa) ([.ref a],[])) (λr s'=>r=.ok (.ret<|.bool true)/\OldK s₁.heap s'.heap/\s'.os=s₁.os/\JV s'.gens) s₁:=by
 have rv:=gE hi;have lenV:=⇑hi;have core:∀H:Hp,K7 H->SqL K H a (ns.map V.int)->HOk P w H s₁.heap->(∀b ,H b≠none->b=a)->(H a≠none->K.lookup a=none)->
   codeAny (Jx P w) callerA (.call (.ref fa) ([.ref a],[])) (λr s'=>r=.ok (.ret<|.bool true)/\OldK s₁.heap s'.heap/\s'.os=s₁.os/\JV s'.gens) s₁:=by
  intro H hO hS hok hA hK;have base_of:∀ {b:Jq}{o:Jt},s₁.heap.get? b=`o->H b=none->(Mq s₁.heap H).get? b=`o:=λe n=>wT e n;have noA:∀ {b:Jq}{o:Jt}{es:Array DictEntry}{ep:Nat},s₁.heap.get? b=`o->o.data=.dict es ep->H b=none:=λ{b o es ep} e d=>by
   cases q:H b with
   |none=>rfl
   |some u=>
    have e':b=a:=hA b (by rw[q];simp);subst e';rw[ha]at e;cases e;have d':Data.seq vs.toArray _=Data.dict es ep:=d;cases d'
  have nsK:∀ {b:Jq}{m:Str->Option Jk},s₁.heap.Ns b m->(Mq s₁.heap H).Ns b m:=λ{b m} (o,es,ep,e,d,r)=>(o,es,ep,base_of e<|noA e d,d,r)
  have hKb:K.In (Mq s₁.heap H):=λb o e=>base_of (KX b o e) (by
   cases q:H b with
   |none=>rfl
   |some u=>
    have e':b=a:=hA b (by rw[q];simp);subst e'
    rw[hK<|by rw[q];simp]at e;cases e)
  have hM:Mod K mg (Mq s₁.heap H):=(hKb,nsK hns,(mb,nsK hb,hbb),let (mc,h1,h2):=hlim;(mc,nsK h1,h2))
  have e0:Env0 P w K mg (Mq s₁.heap H) callerA [] s₁ H:=(rfl,hM,λb o e=>yQ e,GV<|tX _ _,trivial,λb hb=>absurd (show b∈([]:↑Jq) from hb) ⇑_,hok,.of_eq hg)
  refine Ko ((F _ hKb<|nsK hns).run callerA [] s₁ H ([.ref a],[]) [.ref a] [.ref a] _ _ hr e0 (hbind s₁<|.ref a) (.cons rfl .nil)<|hsp H hO hS) λr s' h=>?_;cases r with
  |error e=>exact (hCX H e s' h).elim
  |ok fl=>
   cases fl with
   |next=>exact False.elim h
   |brk=>exact False.elim h
   |cont=>exact False.elim h
   |ret u=>
    let(v,H',os,bare,un,hok',r',q):=h;have q':v=.bl true:=q;subst q';obtain rfl:u=Jk.bool true:=r';refine(rfl,OldK.of_keep λb o e=>?_,os,bare);cases q:H b with
    |none=>exact un.keep b o e q (by intro z;exact absurd (show b∈([]:↑Jq) from z) ⇑_) ⇑_
    |some u=>
     rcases hO b with z|⟨ob,xs,z⟩
     rw[q]at z;cases z;have z2:=un.frzs b ob _ z;let(e1,_):=hok b _ z;let(e2,_):=hok' b _ z2;rw[e]at e1;cases e1;exact e2
 cases hk:K.lookup a with
 |some o=>
  have e:=KX a o hk;rw[ha]at e;cases e;refine core (λJ=>none) (λJ=>.inl rfl) (.inr (_,vs.toArray,_,hk,rfl,rfl,rfl,by rw[FI,lenV];exact hl,by simpa using rv)) (λb u z=>by have z':(none:Option HO)=`u:=z;cases z') (λb z=>absurd rfl z) λz=>absurd rfl z
 |none=>
  refine core (λb=>if b=a then some (.frz {cls:=.type "list",data:=.seq vs.toArray} (.lst<|ns.map V.int)) else none) (λb=>?_) (.inl<|.inr ({cls:=.type "list",data:=.seq vs.toArray},np rfl)) (λb u z=>?_) (λb z=>?_) λJ=>hk
  .by_cases hb:b=a;exact .inr (_,_,np hb);exact .inl<|gV hb
  .by_cases hb:b=a;have z':=(np hb).symm.trans z;cases z';subst hb;exact(ha,by rw[Fv];exact hl,vs,_,rv,ha);have z':=(gV hb).symm.trans z;cases z'
  .by_cases hb:b=a;exact hb;exact absurd (gV hb) z
section
def walk_of {l:PySem.W.OpenLaw}{n k:Nat}{q:Jn}{loose:↑Str}{XP:(Str->Option Jk)->Jp->Prop}{YP:Jo->Jp->Prop}{d:DefRec}{K:Params->Zf}{CX:Jo->CXT}{sp:Jo->Sp}{x:Str}
  (hn:l.most=`n)(hn2:n<=sizeLine)(hdf:d.params.defaults=[])(hr:Room k callerA)
  (hY:∀ (w:Jo) (h:Jp) ,YP w h->(K w.params).In h)
  (F:∀ (w:Jo) (mg:Str->Option Jk) (fa:Jq) (h:Jp) ,(K w.params).In h->h.Ns JP mg->mg d.name=some (.ref fa)->
    ∃fd:Km,(∀ (s:Js) (u:Jk) ,BindsTo s fd ([u],[]) [(x ,u)])/\
     ∀base:Jp,(K w.params).In base->base.Ns JP mg->FnOk l.prog w (K w.params) mg base (CX w) k fa fd [x] (sp w))
  (hsp:∀ (w:Jo) (H:Hp) (a:Jq) (ns:↑Int) ,⇑ns<=n->K7 H->SqL (K w.params) H a (ns.map V.int)->sp w [.ref a] H (λv J=>v=.bl true) λJ J J=>False)
  (hCX:∀ (w:Jo) (H:Hp) (s:Js) (e:Jk) (s':Js) ,CX w [] H s (λJ J J=>False) e s'->False):
  PySem.W.WalkO q loose XP YP l.row.toRowW d [] (λf vs=>PySem.call f vs):=by
 refine Att.attach_call hn hdf λw s₀ s₁ mg mb fa o pm cd doc a vs ns G Y ho hd hcd hmg hobj hints hlen hg=>?_;have KX:=hY w _ Y;let(fd,hb,hF):=F w mg fa _ KX G.T.g hmg;exact wF KX G.T.g G.T.b G.T.builtins G.T.nolimit hg hobj hints (F1 hlen hn2) hr hF hb (λH hO hS=>hsp w H a ns hlen hO hS) λH e s'=>hCX w H s₁ e s'
end
section
noncomputable def gg (s:J2)(j:Nat):J2:=match s with|.ClassDef _ _ _ body _ _ _ _ _ _ _=>body.getD j (.Pass (0,0,0,0))|_=>.Pass (0,0,0,0)
noncomputable def bC (s:J2):Arguments:=match s with
 |.FunctionDef _ a _ _ _ _ _ _ _ _=>a
 |_=>{posonlyargs:=[],args:=[],vararg:=none,kwonlyargs:=[],kw_defaults:=[],kwarg:=none,defaults:=[]}
noncomputable def aF (s:J2):↑J2:=match s with
 |.FunctionDef _ _ b _ _ _ _ _ _ _=>b
 |_=>[]
noncomputable def ab (s:J2):JU:=match s with
 |.FunctionDef _ _ _ _ _ _ sc _ _ _=>sc
 |_=>{kind:=.function,names:=[],isGenerator:=false,isCoroutine:=false}
abbrev CX0:CXT:=λJ J J J J J=>False
abbrev E0:XK:=λJ J J=>False
def NX :hE CX0 X E0:=λJ J J J J J J h=>h.elim
structure Fun (K:Zf)(x qual:Str)(st:J2)(f:Jq)(fd:Km):Prop where
 ex:∃ (oc:Jk) (od:Option Jq) (kV doc pm:Jk) (an:Option Jq) (cdv ct:Jk) (osl:Array (Option Jk)),
  fd=fnOf x qual (bC st) (aF st) (ab st) .none kV doc pm an cdv ct/\K.lookup f=some (oc,od,.func fd,osl)/\codeIn K cdv qual=true
 kp:Jh K (.ref f)=true
section
variable {P:Jn}{w:Jo}{K:Zf}{mg:Str->Option Jk}{base:Jp}
def Fun.ok {x qual:Str}{st:J2}{N ps:↑Str}{k:Nat}(F:Fun K x qual st f fd)(S:KW N ps (ab st))(len:∀vs H Q E ,sp vs H Q E->⇑vs=⇑ps)
  (hbody:∀ (cdv:Jk) (A:Ju) (outer:↑Env) (s:Js) (H:Hp) (vs:↑V) (Q:VK) (E:XK) ,Room k (A.deeper<|Kt qual (ab st) ↥s f cdv)->sp vs H Q E->
   ∃t,PSs (LO CX0 P w K mg base N qual (ab st) f cdv A outer s H E).nox (aF st) t/\t {nx:=λJ H'=>Q .non H',rt:=Q} (Pq N vs) H):FnOk P w K mg base CX0 (k+1) f fd ps sp:=by
 let(oc,od,kV,doc,pm,an,cdv,ct,osl,rfl,lk,hcd):=F.ex;refine Ew lk hcd S len λA outer s H vs Q E hr hsp=>?_;let(t,h,q):=hbody cdv A outer s H vs Q E hr hsp;exact(t,h.nox,q)
def Fun.binds {x qual:Str}{st:J2}{ps:↑Str}(F:Fun K x qual st f fd)
  (h:∀ (kV doc pm:Jk) (an:Option Jq) (cdv ct:Jk) (us:↑Jk) ,⇑us=⇑ps->bindArgs (fnOf x qual (bC st) (aF st) (ab st) .none kV doc pm an cdv ct) (us,[])=pure (ps.zip us)):Binds K fd ps []:=by
 let(oc,od,kV,doc,pm,an,cdv,ct,osl,rfl,lk,hcd):=F.ex;exact .all<|h kV doc pm an cdv ct
def wY {x qual:Str}{st:J2}{kV doc pm cdv ct:Jk}(l:K.lookup f=some (oc,od,.func<|fnOf x qual (bC st) (aF st) (ab st) .none kV doc pm an cdv ct,osl))
 (c:codeIn K cdv qual=true)(k:Jh K (.ref f)=true):Fun K x qual st f (fnOf x qual (bC st) (aF st) (ab st) .none kV doc pm an cdv ct):=((oc,od,kV,doc,pm,an,cdv,ct,osl,rfl,l,c),k)
end
def qY {k:Nat}(hr:Room k A):A.units+1<Jv:=F9 (Ii (by decide:1<=64) _) hr.units
section
variable {X:Cx}
def pv (i:Nat){x:Str}(hN:X.N[i]?=`x:=by rfl)(hv:Vis X.env.scope x:=by trace_state)(hd:(x==("__debug__":Str))=false:=by decide)
 (hcd:(x==("__classdict__":Str))=false:=by decide):PE X (.Name x pos) (Px i):=Bb hN hv hd hcd
end
def ME {A B:Prop}(h:B):if false=true then A else B:=by rw[gV FP];exact h
def MF {A B:Prop}(h:A):if true=true then A else B:=by rw[np rfl];exact h
end
section
theorem jK {α β:Type}{f:α->β->Sem (ForInStep β)}(g:α->β->β):∀ (l:↑α) (c:β),(∀x∈l ,∀c,f x c=pure (.yield<|g x c))->forIn l c f=pure (l.foldl (λc x=>g x c) c)|[],_,_=>rfl|x::l,c,h=>by rw[Gf,h x FQ,pure_bind];exact jK g l (g x c) λy hy=>h y<|FX _ hy
noncomputable def bN (env:Env)(p:Str×Ks)(cs:↑(Str×Jq)):↑(Str×Jq):=if (p.2==Ks.free)=true then (p.1 ,(env.cells.lookup p.1).getD 0)::cs else cs
noncomputable def LF (scope:JU)(env:Env):↑(Str×Jq):=scope.names.foldl (λc x=>bN env x c) []
def pQ (h:∀p∈scope.names ,p.2=.free->∃c,env.cells.lookup p.1=`c):closureFor scope env=pure (LF scope env):=by
 unfold LF;simp only[closureFor];rw[jK<|bN env];rfl
 .intro x hx c;let(n,k):=x;by_cases hk:k=.free;subst hk;let(a,ha):=h _ hx rfl;have ha:env.cells.lookup n=`a:=ha;simp [bN,cellOf,ha]
  .have:(k==Ks.free)=false:=by simpa using hk
   simp [bN,this]
set_option tactic.hygienic true in
theorem jR (env:Env):∀ (l:↑(Str×Ks)) (c:↑(Str×Jq)),(∀p∈l ,p.2=.free->∃a,env.cells.lookup p.1=`a)->
  (∀y a ,c.lookup y=`a->env.cells.lookup y=`a)->∀y a,(l.foldl (λc x=>bN env x c) c).lookup y=`a->env.cells.lookup y=`a
 |[],_,_,h,y,a,e=>h y a e
 |(n ,k)::r,c,hf,h,y,a,e=>by
  refine jR env r (bN env (n ,k) c) (λp hp=>hf p<|FX _ hp) (λz b q=>?_) y a e;unfold bN at q;split at q
  .rename_i hk;let(d,hd):=hf (n ,k) FQ (by simpa using hk);have hd:env.cells.lookup n=`d:=hd;rw[GC]at q;split at q
   .rename_i hz;have:z=n:=by simpa using hz
    subst this;rw[hd]at q ⊢;simpa using q
   exact h z b q
  exact h z b q
theorem om (env:Env):∀ (l:↑(Str×Ks)) (c:↑(Str×Jq)) (y:Str),(∃a ,c.lookup y=`a)->∃a,(l.foldl (λc x=>bN env x c) c).lookup y=`a
 |[],_,_,h=>h
 |(n ,k)::r,c,y,h=>by
  refine om env r _ y ?_;show∃a,(bN env (n ,k) c).lookup y=`a;unfold bN;split
  .rw[GC];split;exact(_,rfl);exact h
  exact h
theorem rF (env:Env):∀ (l:↑(Str×Ks)) (c:↑(Str×Jq)) (y:Str),(y ,Ks.free)∈l->∃a,(l.foldl (λc x=>bN env x c) c).lookup y=`a
 |(n ,k)::r,c,y,h=>by
  rcases FC.mp h with e|h
  let(rfl,rfl):=Prod.mk.inj e;refine om env r _ y ((env.cells.lookup y).getD 0,?_);show (bN env (y ,.free) c).lookup y=_;unfold bN;rw[np (by rfl),GC];simp;exact rF env r _ y h
structure CScope (X:Cx)(ls:↑Str)(scope:JU):Prop where
 kind:scope.kind=.function
 nocell:∀y∈scope.names,y.2≠.cell
 names:∀y∈scope.names,y.2=.local ->scope.names.lookup y.1=some .local
 loc:∀y,scope.names.lookup y=some .local ->y∈ls
 free:∀y∈scope.names,y.2=.free->X.env.kindOf y.1=some .cell\/X.env.kindOf y.1=some .free
 noq:∀y∈ls,∀k,scope.names.lookup ⟨#[63]++y.cps⟩≠`k
noncomputable def hid (ls:↑Str)(y:Str):Str:=if ls.contains y then⟨#[63]++y.cps⟩ else y
noncomputable def cxC (X:Cx)(ls:↑Str)(scope:JU)(C:Jq)(s2:Js)(H2:Hp)(fp:↑Jq):Cx where
 prog:=X.prog
 w:=X.w
 K:=X.K
 mg:=X.mg
 base:=X.base
 A:=X.A
 N:=ls++X.N.map (hid ls)
 s₀:=s2
 H₀:=H2
 env:=compEnvC scope (LF scope X.env) C X.env
 outer:=X.stack
 stack:=X.stack
 ex:=fp
 calm:=X.calm
 fn:=λJ=>false
 pn:=[]
 xe:=λJ J=>False
theorem bE {env:Env}{y:Str}:∀ {names:↑(Str×Ks)}{k:Ks},(names.map λ(n ,k)=>if (k==Ks.free && env.scope.kind==.function && env.kindOf n==some .cell) then (n ,Ks.cell) else (n ,k)).lookup y=`k->
  names.lookup y=`k\/(names.lookup y=some .free/\k=.cell)
 |[],_,h=>by simp at h
 |(n ,j)::r,k,h=>by
  have ih:= @bE env y r k
  replace h:GL y ((if (j==Ks.free && env.scope.kind==.function && env.kindOf n==some .cell)=true then (n ,Ks.cell) else (n ,j))::(r.map λ(n ,k)=>if (k==Ks.free && env.scope.kind==.function && env.kindOf n==some .cell) then (n ,Ks.cell) else (n ,k)))=`k:=h
  by_cases hc:(j==Ks.free && env.scope.kind==.function && env.kindOf n==some .cell)=true
  .rw[np hc,GC]at h;rw[GC];cases hx:y==n with
   |true=>
    rw[hx]at h;simp only[Gd]at hc;have hj:j=.free:=by simpa using hc.1.1
    subst hj;have h:some Ks.cell=`k:=h;cases h;exact .inr (rfl,rfl)
   |false=>
    rw[hx]at h;exact ih h
  .rw[gV hc,GC]at h;rw[GC];cases hx:y==n with|true=>rw[hx]at h;exact .inl h|false=>rw[hx]at h;exact ih h
noncomputable def Mr (N ls:↑Str)(σ:St):Bool:=true
def tV {ls:↑Str}{h1:Jp}{m:Str->Option Jk}{tk:Nat}
  (I:Inv X P4 σ H2 s2)(S:CScope X ls scope)(hh:Mr X.N ls σ=true)(f2:∀b∈fp ,KY X P4 H2 b)(ho:∀b∈fp ,∃o,s2.heap.get? b=`o)(hC:↥s2<=C)(hn:h1.Ns C m)
  (old:∀b o ,s2.heap.get? b=`o->h1.get? b=`o):
  Inv (cxC X ls scope C s2 H2 fp) [] (List.replicate ⇑ls none++σ) H2 {s2 with heap:=h1,toks:=tk}:=by
 have cf:∀p∈scope.names,p.2=.free->∃c,X.env.cells.lookup p.1=`c:=λp hp e=>I.ok.has _<|S.free p hp e;have c1:∀y a,(LF scope X.env).lookup y=`a->X.env.cells.lookup y=`a:=jR X.env scope.names [] cf (λy a e=>by simp at e);have c2:∀y,scope.names.lookup y=some .free->∃a,(LF scope X.env).lookup y=`a:=λy hy=>rF X.env scope.names [] y<|PySem.mem_of_lookup hy;have lt2:∀b∈fp,b<↥s2:=λb hb=>let (o,e):=ho b hb;Fy e;have kinds:∀y k,(KA scope X.env).names.lookup y=`k->k=.cell\/k=.free->scope.names.lookup y=some .free:=λy k h hk=>by
  rcases bE (env:=X.env) h with q|⟨q,_⟩
  .rcases hk with rfl|rfl
   exact absurd rfl<|S.nocell _<|PySem.mem_of_lookup q;exact q
  exact q
 refine((I.ok.mod,S.kind,I.ok.glob,I.ok.blt,hC,λx y c e1 e2=>I.ok.inj x y c (c1 x c e1)<|c1 y c e2,λx hx=>?_,λx c h=>absurd h FP,I.ok.hd,I.ok.frames,.inl rfl,λb hb=>(?_,λx c e=>(f2 b hb).2.2.2.2.1 x c<|c1 x c e),I.bs,F1 I.ok.bsz I.sz,λb o e hb=>?_,λb hb hz=>?_,I.stack,I.stkFree),
  rfl,I.bare,Un.kept old,(m,hn,λi y v e1 e2 e3=>?_),λx c e=>?_,I.hok.fresh hC,λx c e=>I.freeC x c<|c1 x c e,λp hp=>absurd (show p∈([]:↑(Jq×Jt)) from hp) ⇑_,I.hok.kept old,?_)
 .have hx:(KA scope X.env).names.lookup x=some .cell\/(KA scope X.env).names.lookup x=some .free:=hx;rcases hx with hx|hx
  exact c2 x<|kinds x _ hx<|.inl rfl;exact c2 x<|kinds x _ hx<|.inr rfl
 exact FJ<|FT (lt2 b hb) hC
 .rcases (f2 b hb).2.2.2.1 with z|z
  exact I.ok.noex b o e z;exact absurd (FT (Fy e)<|F1 I.ok.bsz z)<|GF _
 .rcases FC.mp (I.stkSub b hz) with z|z
  exact (f2 b hb).2.1 z;exact (f2 b hb).2.2.1 z
 .have e1:(ls++X.N.map (hid ls))[i]?=`y:=e1;by_cases hi:i<⇑ls;rw[F2 (by simpa using hi),H9]at e2;rw[np hi]at e2;cases e2
  .rw[Gz ∅]at e1;rw[Gz (by simpa using hi),GW]at e2;rw[FB]at e1;let(y0,e1',ey):=FE.mp e1;have e3:(KA scope X.env).names.lookup y=some .local \/(KA scope X.env).names.lookup y=some .cell\/(KA scope X.env).names.lookup y=some .free:=e3;have ny:y0 ∉ls:=λhm=>by
    unfold hid at ey;rw[np<|by simpa using hm]at ey;subst ey;have no:∀k,(KA scope X.env).names.lookup ⟨#[63]++y0.cps⟩=`k->False:=λk q=>by
     rcases bE (env:=X.env) q with z|⟨z,_⟩
     exact S.noq y0 hm _ z;exact S.noq y0 hm _ z
    rcases e3 with q|q|q<;>exact no _ q
   unfold hid at ey;rw[gV<|by simpa using ny]at ey;rw[ey]at e1' ny;have e1:=e1';have fr:scope.names.lookup y=some .free:=by
    rcases e3 with q|q|q
    .rcases bE (env:=X.env) q with z|⟨_,z⟩
     exact absurd (S.loc y z) ny;cases z
    exact kinds y _ q<|.inl rfl;exact kinds y _ q<|.inr rfl
   have kx:=S.free _ (PySem.mem_of_lookup fr) rfl;let(m2,_,hl):=I.loc;let(u,r,l):=hl _ y v e1 e2<|.inr kx;refine(u,r,?_);have knd:(KA scope X.env).names.lookup y=some .cell\/(KA scope X.env).names.lookup y=some .free:=by
    rcases e3 with q|q
    .rcases bE (env:=X.env) q with z|⟨_,z⟩
     exact absurd (S.loc y z) ny;cases z
    exact q
   rcases l with⟨k1,_⟩|⟨_,c,hc,hcell⟩
   have kx:X.env.kindOf y=some .cell\/X.env.kindOf y=some .free:=kx;rcases kx with z|z<;>(rw[k1]at z;cases z)
   let(c',hc'):=c2 y fr;have:=c1 y c' hc';rw[hc]at this;cases this;refine .inr (knd,c,hc',?_);let(o,ho,hd):=hcell;exact(o,old _ _ ho,hd)
 let(v,o,ho,hd):=I.cell x c<|c1 x c e;exact(v,o,old _ _ ho,hd);show ⇑(List.replicate ⇑ls none++σ)=⇑(ls++X.N.map (hid ls));rw[FH,FH,GW,Fv,I.len]
def wO {ls:↑Str}{n:Nat}
  (I:Inv X P4 σ H2 s2)(f2:∀b∈fp ,KY X P4 H2 b)(J:Inv (cxC X ls scope C s2 H2 fp) pl σ' H3 s')(hD:↥s2<=D)(hC:↥s2<=C)(hDC:D≠C)
  (sb:Ga C s'.heap h')(hD3:H3 D=none)(e:s'.heap.get? D=some {cls:=.type "list",data:=.seq its.toArray n})(r:Vals ys its)(z:⇑ys<=sizeLine):Inv X P4 σ (upd H3 D<|.lst ys) {s' with heap:=h'}:=by
 have ext:∀b o,b≠C->s'.heap.get? b=`o->h'.get? b=`o:=λb o hb e=>sb.extBut b o hb e;have neD:∀b,b<↥s2->b≠D:=λb hb=>FJ<|FT hb hD;have neC:∀b,b<↥s2->b≠C:=λb hb=>FJ<|FT hb hC;have lt:∀b u,H2 b=`u->b<↥s2:=λb u q=>by apply Classical.byContradiction;intro hb;have:=I.hok.fresh<|Nat.le_of_not_lt hb;rw[this]at q;cases q
 have fC:H3 C=none:=J.free;refine I.call' (s':={s' with heap:=h'}) (ch:=fp) J.os (λb o q n hb hx=>?_,λb o q n hb hx=>?_,λb o q n hx=>?_,λb o q hx=>?_,λb xs q=>?_,λb o u q=>?_,λb ps q=>?_) (λb u q=>?_) J.bare λb hb=>?_;exact ext b o (neC b<|Fy q) (J.base.keep b o q n hb hx);let(sl,w):=J.base.slot b o q n hb hx;exact(sl,ext b _ (neC b<|Fy q) w);rw[af<|neD b<|Fy q];exact J.base.free b o q n hx;let(o',w):=J.base.there b o q hx;exact(o',ext b _ (neC b<|Fy q) w);rw[af<|neD b<|lt b _ q];exact J.base.tups b xs q;rw[af<|neD b<|lt b _ q];exact J.base.frzs b o u q;rw[af<|neD b<|lt b _ q];exact J.base.tbls b ps q
 .by_cases hb:b=D;subst hb;rw[aB]at q;cases q;exact(z,its,n,r,ext _ _ hDC e)
  .rw[af hb]at q;have ne1:b≠C:=λw=>by rw[w,fC]at q;cases q
   have ow:∀c u,H3 c=`u->c≠D:=λc u w z=>by rw[z,hD3]at w;cases w
   have oc:∀c u,H3 c=`u->c≠C:=λc u w z=>by rw[z,fC]at w;cases w
   refine (J.hok b u q).stay (λc v hc w=>ext c v ?_ w) (λc w=>by rw[af<|ow c _ w];exact w) λc xs w=>by rw[af<|ow c _ w];exact w
   rcases hc with rfl|hc
   exact ne1;exact oc c _ hc
 let(a1,a2,a3,a4,a5,a6):=f2 b hb;exact(a4,a2,a5,a6)
def K8 (X:Cx)(ifs:↑Expr)(t:TT):Prop:=
 ∀ (P4:↑(Jq×Jt)) (s:Js) (σ:St) (H:Hp) (Q:Bool->Hp->Prop),Inv X P4 σ H s->t σ H Q->
   Jw (Jx X.prog X.w) X.A (forIn ifs true λc r=>if r=true then do let ok<-isTrue c X.env (JX c X.env);pure (ForInStep.yield ok) else pure (ForInStep.yield r)) (TP X P4 σ Q) X.xe s
noncomputable def tYes:TT:=λJ H Q=>Q true H
def yt :K8 X [] tYes:=λJ J J H J I h=>wpAny_tests_nil (H,I,h)
def yr (h:PT X c t):K8 X [c] t:=λP4 s σ H Q I q=>wpAny_tests_one<|h P4 s σ H Q I q
def CompW (J:It)(ls:↑Str)(g:TG)(tt:TT)(te:TE)(σ:St)(H1:Hp)(Q:VK):Prop:=∃W:Nat->Nat->↑V->Hp->Prop,(∃m ,W 0 m [] H1)/\∀i m ys H,W i m ys H->
 (J.stop i H/\∀D ,H D=none->Q (.ref D) (upd H D<|.lst ys))\/
 (J.go i H/\∃R:↑V->Hp->Prop ,(∀ys' H' ,R ys' H'->∃m',m'<m/\W (i+1) m' ys' H')/\∀y H',J.yld i H y H'->
  g y (List.replicate ⇑ls none++σ) H' λσ2 H2=>σ2.drop ⇑ls=σ/\⇑σ2=⇑ls+⇑σ/\tt σ2 H2 λb H3=>if b=true then te σ2 H3 λv H4=>⇑ys<sizeLine/\R (ys++[v]) H4 else R ys H3)
noncomputable def Pw (N ls:↑Str)(wi:TI)(g:TG)(tt:TT)(te:TE):TE:=λσ H Q=>Mr N ls σ=true/\wi σ H λJ H1=>CompW J ls g tt te σ H1 Q
def eU {w:Jo}{R:Result->Js->Prop}(I:Nat->Js->Prop)
  (turn:∀n s ,I n s->Jw (Jx prog w) A (Kc it) (λr s₁=>match r with
   |none=>R (.ok .next) s₁
   |some v=>Jw (Jx prog w) A (Kd target it v) (λ_ s₁=>Jw (Jx prog w) A (assign target env v) (λ_ s₂=>
    Jw (Jx prog w) A (forIn ifs true λc r=>if r=true then do let ok<-isTrue c env (JX c env);pure (ForInStep.yield ok) else pure (ForInStep.yield r)) (λok s₃=>
     if ok=true then Jw (Jx prog w) A (JX elt env) (λx s₄=>
      Jw (Jx prog w) A (call (.builtin "list.append") [acc,x]) (λ_ s₅=>∃m ,m<n/\I m s₅) (notedBy (Jx prog w) A env λe s'=>R (.error e) s') s₄) (notedBy (Jx prog w) A env λe s'=>R (.error e) s') s₃
     else∃m ,m<n/\I m s₃) (notedBy (Jx prog w) A env λe s'=>R (.error e) s') s₂) (notedBy (Jx prog w) A env λe s'=>R (.error e) s') s₁) (notedBy (Jx prog w) A env λe s'=>R (.error e) s') s₁) (notedBy (Jx prog w) A env λe s'=>R (.error e) s') s)
  (n:Nat)(h:I n s):
  codeAny (Jx prog w) A (.compLoop (.ListComp elt [(target,iter,ifs,0)] scope pos) 0 it acc env) R s:=by
 refine codeAny_loop rfl I (λn s hI=>?_) n h;show Jw _ A ((compTurn (.ListComp elt [(target,iter,ifs,0)] scope pos) 0 it acc env).onRaise<|λx=>do noteFrame x env;theTreesLotGoes x) _ _ s;refine wpAny_noted ?_;rw[compTurn_list];refine Jy (wpAny_standAt<|Jy<|J3 (turn n s hI) (λr s₁ h₁=>?_) λJ J h'=>h');cases r with
 |none=>exact JC h₁
 |some v=>
  refine Jy (J3 h₁ (λ_ s₁ h₁=>?_) λJ J h'=>h');refine Jy (J3 h₁ (λ_ s₂ h₂=>Jy<|J3 h₂ (λok s₃ h₃=>?_) λJ J h'=>h') λJ J h'=>h');cases ok with
  |false=>exact JC (rfl,h₃)
  |true=>
   exact Jy (Jy<|J3 h₃ (λx s₄ h₄=>Jy<|J3 h₄ (λ_ s₅ h₅=>JC<|JC (rfl,h₅)) λJ J h'=>h') λJ J h'=>h')
def thx {α:Type}{t:Sem α}{Q Q':α->Js->Prop}{M:Model}{E:Jk->Js->Prop}(h:Jw M A t Q (λJ J=>False) s)(hQ:∀a s ,Q a s->Q' a s):Jw M A t Q' E s:=J3 h hQ λJ J x=>x.elim
section
variable {X:Cx}{elt iter tg:Expr}{ifs:↑Expr}{scope:JU}{pos:JY}{ls:↑Str}{wi:TI}{g:TG}{tt:TT}{te:TE}
def kT {use:Option (Jk->Sem Unit)}{QQ:Jk->Js->Prop}(hcalm:X.calm=true)(S:CScope X ls scope)(hi:PI X tg iter wi)
  (hg:∀C s2 H2 fp ,PG (cxC X ls scope C s2 H2 fp) tg g)(ht:∀C s2 H2 fp ,K8 (cxC X ls scope C s2 H2 fp) ifs tt)(he:∀C s2 H2 fp ,PE (cxC X ls scope C s2 H2 fp) elt te)
  (hs:∀x ,Kg iter X.env x=pure x)(I:Inv X P4 σ H s)(h:Pw X.N ls wi g tt te σ H Q)
  (hQQ:∀ (D C:Jq) (s':Js) (H':Hp) ,(∃m ,s'.heap.Ns C m)->KY X P4 H' C->(∀h' ,Ga C s'.heap h'->Inv X P4 σ H' {s' with heap:=h'})->Q (.ref D) H'->compPost (Jx X.prog X.w) X.A X.xe use QQ (.ref D) C (.ok .next) s'):
  Jw (Jx X.prog X.w) X.A (comprehension (.ListComp elt [(tg,iter,ifs,0)] scope pos) scope X.env pos' (newList []) false (JX iter X.env) use) QQ X.xe s:=by
 let(hh,h):=h;have cf:∀p∈scope.names,p.2=.free->∃c,X.env.cells.lookup p.1=`c:=λp hp e=>I.ok.has _<|S.free p hp e;refine wpAny_comprehension_free (use:=use) rfl hs (pQ cf) S.kind S.names (thn (hi P4 s σ H _ I h) λv s1 h1=>thn h1 λitv s2 h2=>?_);let(it,fp,tn,J,H2,rfl,I2,T,st2,f2,W,(m0,w0),turn):=h2;refine Kv<|wpAny_newFunctionEnv S.nocell (by intro y hy;simp at hy) (λh₁ hns₁ hsb₁=>?_) S.kind;dsimp only at hns₁ hsb₁ ⊢;generalize hH2:s2.heap.push {cls:=.type "list",dict:=none,data:=.seq ([]:↑Jk).toArray}=G2 at hns₁ hsb₁ ⊢;have hC:G2.objs.size=↥s2+1:=by rw[<-hH2,Gc]
 have hDC:↥s2≠G2.objs.size:=by rw[hC];exact FJ<|HF _
 have hCle:↥s2<=G2.objs.size:=by rw[hC];exact Gj _
 have old:∀b o,s2.heap.get? b=`o->h₁.get? b=`o:=λb o e=>hsb₁.extBut b o (FJ<|FT (Fy e) hCle)<|Fx _<|hH2▸Fx _ e;have hacc:h₁.get? ↥s2=some {cls:=.type "list",data:=.seq ([]:↑Jk).toArray}:=hsb₁.extBut _ _ hDC<|Fx _<|hH2▸FM _ rfl;have hobj:∀b∈fp,∃o,s2.heap.get? b=`o:=λb hb=>let (o,e,_):=T.obj 0 _ st2 b hb;(o,e);have ltf:∀b∈fp,b<↥s2:=λb hb=>let (o,e):=hobj b hb;Fy e;have nofD:↥s2 ∉(cxC X ls scope G2.objs.size s2 H2 fp).fs:=λz=>by
  rcases FC.mp (I2.stkSub _ z) with z|z
  exact absurd I2.lt (by rw[<-z];exact GF _);exact I2.nofs (Fw _) z
 have st1:tn 0 h₁:=T.keep 0 _ _ st2 λb Z o e=>old b o e;have J0:∀tk,Inv (cxC X ls scope G2.objs.size s2 H2 fp) [] (List.replicate ⇑ls none++σ) H2 {s2 with heap:=h₁,toks:=tk}:=λtk=>tV I2 S hh f2 hobj hCle hns₁ old;have fpY:∀ (Hx:Hp) (pl:↑(Jq×Jt)),(∀b∈fp ,Hx b=none)->(∀p∈pl ,↥s2<=p.1)->∀b∈fp,KY (cxC X ls scope G2.objs.size s2 H2 fp) pl Hx b:=λHx pl hx hp b hb=>
  (hx b hb,((J0 0).ok.exf b hb).1,(J0 0).ok.exfs b hb,.inl hb,((J0 0).ok.exf b hb).2,λp hpp=>by
   have hpp:p∈pl:=by simpa [cxC] using hpp
   exact GU<|FT (ltf b hb)<|hp p hpp)
 have loop:∀s₃:Js,s₃={s2 with heap:=h₁,toks:=s2.toks+⇑([]:↑(Str×Jk))}->
   codeAny (Jx X.prog X.w) X.A (.compLoop (.ListComp elt [(tg,iter,ifs,0)] scope pos) 0 (.ref it) (.ref ↥s2)<|compEnvC scope (LF scope X.env) G2.objs.size X.env)
    (compPost (Jx X.prog X.w) X.A X.xe use QQ (.ref ↥s2) G2.objs.size) s₃:=by
  rintro s₃ rfl
  refine eU (λn s'=>∃ (i:Nat) (ys:↑V) (its:↑Jk) (k:Nat) (H':Hp) ,Inv (cxC X ls scope G2.objs.size s2 H2 fp) [] (List.replicate ⇑ls none++σ) H' s'/\tn i s'.heap/\(∀b∈fp ,H' b=none)/\H' ↥s2=none/\
   s'.heap.get? ↥s2=some {cls:=.type "list",data:=.seq its.toArray k}/\Vals ys its/\⇑ys<=sizeLine/\W i n ys H') ?_ m0
   (0,[],[],0,H2,J0 _,st1,λb hb=>(f2 b hb).1,I2.hok.fresh<|Fw _,hacc,.nil,FU _,w0)
  rintro n s3 ⟨i,ys,its,k,H3,I3,st3,fr3,d3,e3,r3,z3,w3⟩
  have big:∀p∈[((↥s2:Jq) ,({cls:=.type "list",data:=.seq its.toArray k}:Jt))],↥s2<=p.1:=λp hp=>by have this:=FR.mp hp;subst this;exact Fw _
  rcases turn i n ys H3 w3 with⟨stop,qn⟩|⟨go,R,hR,step⟩
  .
   have P3:Inv (cxC X ls scope G2.objs.size s2 H2 fp) [(↥s2 ,{cls:=.type "list",data:=.seq its.toArray k})] (List.replicate ⇑ls none++σ) H3 s3:=I3.pins_of λp hp=>by have this:=FR.mp hp;subst this;exact(e3,d3,hDC,nofD,λv z=>by cases z)
   refine thx (T.done (cxC X ls scope G2.objs.size s2 H2 fp) rfl rfl rfl hcalm i _ s3 _ H3 (λZ Z=>False) P3 (fpY H3 _ fr3 big) st3 stop) λr s4 qz=>?_;let(hr,I4):=qz;subst hr;let(m,hm,_):=I4.loc;have e4:=(I4.pin _<|Gh _<|FR.mpr rfl).1;exact hQQ _ _ s4 _ (m,hm) (I2.fpOk hCle<|by rw[af<|Ne.symm hDC];exact I4.free) (λh' sb=>wO I2 f2 I4 (Fw _) hCle hDC sb d3 e4 r3 z3)<|qn _ d3
  .
   have P3:Inv (cxC X ls scope G2.objs.size s2 H2 fp) [(↥s2 ,{cls:=.type "list",data:=.seq its.toArray k})] (List.replicate ⇑ls none++σ) H3 s3:=I3.pins_of λp hp=>by have this:=FR.mp hp;subst this;exact(e3,d3,hDC,nofD,λv z=>by cases z)
   refine thx (T.item (cxC X ls scope G2.objs.size s2 H2 fp) rfl rfl rfl hcalm i _ s3 _ H3 (λZ Z=>False) P3 (fpY H3 _ fr3 big) st3 go) λr s4 qz=>?_;let(u,hr,h4):=qz;subst hr;refine thx h4 λZ s5 qz=>?_;let(x,H5,I5,r5,y5,st5,fr5):=qz;have I5':=I5.pinned (fpY H5 _ fr5 big)<|T.obj _ _ st5;refine thx (hg _ _ _ _ _ s5 _ H5 x u _ I5' r5<|step x H5 y5) λZ s6 qz=>?_;let(σ6,H6,I6,q6):=qz;let(dr,ln,q6):=q6;have back:∀ {s7:Js}{H7:Hp},Inv (cxC X ls scope G2.objs.size s2 H2 fp) ([((↥s2:Jq) ,({cls:=.type "list",data:=.seq its.toArray k}:Jt))]++jd fp s5.heap) σ6 H7 s7->
     Inv (cxC X ls scope G2.objs.size s2 H2 fp) [] (List.replicate ⇑ls none++σ) H7 s7/\tn (i+1) s7.heap/\(∀b∈fp ,H7 b=none)/\H7 ↥s2=none/\s7.heap.get? ↥s2=some {cls:=.type "list",data:=.seq its.toArray k}:=λ{s7 H7} I7=>by
    have pD:=I7.pin _<|Gh _<|Hn _<|FR.mpr rfl;have pF:∀b∈fp,∀o,s5.heap.get? b=`o->s7.heap.get? b=`o/\H7 b=none:=λb hb o e=>by have q:=I7.pin (b ,o)<|Gh _<|Gh _<|fQ hb e;exact(q.1,q.2.1)
    refine((I7.pins_of (pins':=[]) λp hp=>absurd hp ⇑_).weak ?_ ?_,T.keep _ _ _ st5 λb hb o e=>(pF b hb o e).1,λb hb=>?_,pD.2.1,pD.1);rw[ln,FH,GW]
    .intro j v ej;by_cases hj:j<⇑ls;rw[F2 (by simpa using hj),H9,np hj]at ej;cases ej;rw[Gz (by simpa using hj),GW,<-dr,List.getElem?_drop]at ej;rw[<-ej];congr 1;omega
    let(o,e,_):=T.obj _ _ st5 b hb;exact (pF b hb o e).2
   refine thx (ht _ _ _ _ _ s6 σ6 H6 _ I6 q6) λb s7 qz=>?_;let(H7,I7,q7):=qz;cases b with
   |false=>
    rw[gV FP]at q7 ⊢;let(m',hm,w7):=hR _ _ q7;let(a1,a2,a3,a4,a5):=back I7;exact(m',hm,i+1,ys,its,k,H7,a1,a2,a3,a4,a5,r3,z3,w7)
   |true=>
    rw[np rfl]at q7 ⊢;refine thx (he _ _ _ _ _ s7 σ6 H7 _ I7 q7) λy s8 qz=>?_;let(v,H8,I8,r8,z8,q8):=qz;let(m',hm,w8):=hR _ _ q8;let(a1,a2,a3,a4,a5):=back I8;have pl:s8.heap.PlainList ↥s2 its.toArray:=(k,a5)
    refine wpAny_list_append_plain (hsz:=by rw[FI,<-⇑r3];exact z3) pl λh9 hl9 hs9=>?_;let(k9,e9):=hl9;have cellN:∀ (y:Str) (c:Jq),(cxC X ls scope G2.objs.size s2 H2 fp).env.cells.lookup y=`c->c≠↥s2:=λy c e=>by have e1:X.env.cells.lookup y=`c:=jR X.env scope.names [] cf (λy a e=>by simp at e) y c e;let(v,o,ho,_):=I2.cell y c e1;exact FJ<|Fy ho
    have I9:Inv (cxC X ls scope G2.objs.size s2 H2 fp) [] (List.replicate ⇑ls none++σ) H8 {s8 with heap:=h9}:=
     a1.turned (t':=s8.toks) (λb o hb e=>hs9.extBut b o hb e) a4 hDC (.inr<|Fw _) cellN (λp hp=>absurd (show p∈([]:↑(Jq×Jt)) from hp) ⇑_)
    refine(m',hm,i+1,ys++[v],its++[y],k9,H8,I9,T.keep _ _ _ a2 λb hb o e=>hs9.extBut b o (FJ<|ltf b hb) e,a3,a4,?_,r3.append<|.cons r8 .nil,?_,w8);simpa using e9;rw[FH,Hr];exact z8
 exact codeAny_compStart_list (loop _ rfl)<|T.self _ 0 _ _ _ st1<|loop _ rfl
def yB (hcalm:X.calm=true)(S:CScope X ls scope)(hi:PI X tg iter wi)
  (hg:∀C s2 H2 fp ,PG (cxC X ls scope C s2 H2 fp) tg g)(ht:∀C s2 H2 fp ,K8 (cxC X ls scope C s2 H2 fp) ifs tt)(he:∀C s2 H2 fp ,PE (cxC X ls scope C s2 H2 fp) elt te)
  (hs:∀x ,Kg iter X.env x=pure x:=by intro _;rfl):PE X (.ListComp elt [(tg,iter,ifs,0)] scope pos) (Pw X.N ls wi g tt te):=by
 intro P4 s σ H Q I h;rw[eval_ListComp];refine kT (use:=none) hcalm S hi hg ht he hs I h λD C s' H' hm J hI q=>?_;let(m,hm):=hm;exact(m,hm,λh' sb=>(.ref D,H',hI h' sb,rfl,q))
def oV {i:Nat}{x:Str}(hN:X.N.Nodup)(hx1:X.N[i]?=`x)(hx:X.env.scope.names.lookup x=some .local)(hcalm:X.calm=true)(S:CScope X ls scope)(hi:PI X tg iter wi)
  (hg:∀C s2 H2 fp ,PG (cxC X ls scope C s2 H2 fp) tg g)(ht:∀C s2 H2 fp ,K8 (cxC X ls scope C s2 H2 fp) ifs tt)(he:∀C s2 H2 fp ,PE (cxC X ls scope C s2 H2 fp) elt te)
  (hsw:swapsWith (.ListComp elt [(tg,iter,ifs,0)] scope pos) (some<|.Name x px) spos.line X.env=pure true:=by rfl)
  (hs:∀x ,Kg iter X.env x=pure x:=by intro _;rfl):PS X (.Assign [.Name x px] (.ListComp elt [(tg,iter,ifs,0)] scope pos) spos) (Pv (Pw X.N ls wi g tt te)<|Mh i):=by
 intro P4 s σ H D I h;rw[exec_Assign_Name_used _ _ _ _ hsw];refine Jy<|wpAny_standAt<|Jy ?_;show Jw _ X.A (do let _<-comprehension (.ListComp elt [(tg,iter,ifs,0)] scope pos) scope X.env _ (newList []) false (JX iter X.env) (some<|assign (.Name x px) X.env)) _ _ s;refine Jy (J3 (kT (use:=some<|assign (.Name x px) X.env) (QQ:=λJ s'=>SP X P4 D .next s') hcalm S hi hg ht he hs I h λDd C s' H' hm hf hI q=>?_) (λJ s' hq=>JC<|JC hq) λJ J e=>e);let(m,hm):=hm;have I1:Inv X P4 σ H' s':=hI s'.heap<|.refl ..;show Jw _ X.A (assign (.Name x px) X.env<|.ref Dd) _ _ _;refine wpAny_assign_Name<|ku (v:=.ref Dd) I1 hN hx1 (.inl hx) rfl (λs2 I2 ch=>?_)<|.inr hx;let(f0,f1,f2,f3,f4,f5):=hf;let(a,sb,ha):=ch;have hne:C≠a:=by
  rcases ha with ha|ha
  rw[ha];exact f1;exact Ne.symm<|f4 _ _ ha
 refine(m,hm.sameBut sb hne,λh' sb'=>?_);exact(_,H',I2.turned (t':=s2.toks) (λb o hb e=>sb'.extBut b o hb e) f0 f1 f3 f4 f5,q)
end
end
section
noncomputable def rD (ls:↑Str)(sc outer:JU):Bool:=(sc.kind==.function && ls.all λy=>(sc.names.lookup ⟨#[63]++y.cps⟩).isNone)&&sc.names.all λy=>(y.2 !=.cell)&&(y.2 !=.local ||(sc.names.lookup y.1==some .local && ls.contains y.1))&&(y.2 !=.free||outer.names.lookup y.1==some .cell||outer.names.lookup y.1==some .free)
def CScope.of {ls:↑Str}(outer:JU)(h:rD ls scope outer=true:=by decide+kernel)(ho:X.env.scope=outer:=by rfl):CScope X ls scope:=by
 unfold rD at h;rw[Gd,Hb]at h;let(h0,h):=h;rw[Gd,Hb]at h0;let(h0,hq):=h0;refine(by simpa using h0,λy hy e=>?_,λy hy e=>?_,λy hy=>?_,λy hy e=>?_,λy hy k e=>by have q:=hq y hy;rw[e]at q;cases q);have q:=h y hy;simp [e]at q;have q:=h y hy;simp [e]at q;exact q.1;have q:=h _<|PySem.mem_of_lookup hy;simp at q;exact q.2;have q:=h y hy;simp [e]at q;show X.env.scope.names.lookup y.1=_\/X.env.scope.names.lookup y.1=_;rw[ho];exact q
def CMulB (i j:Int):Prop:=i.natAbs<2^65536/\j.natAbs<2^65536
set_option tactic.hygienic true in
def rJ {i:Int}{n:Nat}(h:i.natAbs<2^n):Jl.Int.intBits i<=n:=by
 unfold Jl.Int.intBits;split;exact FU _
 .rename_i hz;have hz':i.natAbs≠0:=by intro e;exact hz (by simp_all)
  have:=(Nat.log2_lt hz').mpr h;omega
def CMulB.ok {i j:Int}(h:CMulB i j):IntMulOk i j:=.of_bits (F1 (rJ h.1) ↥_)<|F1 (rJ h.2) ↥_
section
variable {X:Cx}
theorem eO:∀ {ns:↑Int}{us:↑Jk},Vals (ns.map V.int) us->IntsAre us ns|[],_,.nil=>.nil|n::r,_,.cons h t=>by let(tk,rfl):=h;exact .cons n tk<|eO t
def xu (hc:X.calm=true):CallR X (.builtin "sum") (λxs H Q=>∃ (p:Jq) (ns:↑Int) ,xs=[.ref p]/\SqL X.K H p (ns.map V.int)/\Q (.int ns.sum) H):=by
 intro P4 s σ H xs us Q I r h;let(p,ns,rfl,hq,q):=h;let(u,rfl,ru):=PM r;cases ru;let(its,rv,pl,hz):=I.list hq;have hi:=eO rv;let(xs,e):=hi.allInts.items;have hl:s.heap.IsList p (intItems xs):=by rw[<-e];exact pl.isList
 refine sum_intListG (I.ok.hd hc) hl λh' tk t' hk=>?_;have es:preSum (KB xs) xs.size=ns.sum:=by rw[preSum_eq,Hs ⇑_,<-nums_intItems,<-e];rw[show its.toArray.toList=its from rfl,hi.numsOf]
 exact(.int ns.sum,H,I.kept (t':=tk) hk,(t',by rw[es]),q)
def Lx:CallR X (.builtin "isinstance") (λxs H Q=>∃ (x c:V) (cv t:Jk) (b:Bool) ,xs=[x,c]/\RelV c cv/\Lk X.K H x t/\kitOne X.K t cv=`b/\Q (.bl b) H):=by
 intro P4 s σ H xs us Q I r h;let(x,c,cv,t,b,rfl,rc,ty,e,q):=h;let(u,u',rfl,ru,ru'):=PN r;have:u'=cv:=by
  cases c with|ref a=>cases rc;cases ru';rfl|ty n=>cases rc;cases ru';rfl|non=>cases rc;cases ru';rfl|bl _=>cases rc;cases ru';rfl|int _=>let(t1,rfl):=rc;exact absurd e (by simp [kitOne,PySem.W.kitCls];intro h;cases ty<;>cases h)|str _=>let(t1,rfl):=rc;exact absurd e (by simp [kitOne,PySem.W.kitCls];intro h;cases ty<;>cases h)|byt _=>let(t1,rfl):=rc;exact absurd e (by simp [kitOne,PySem.W.kitCls];intro h;cases ty<;>cases h)|flt _=>let(t1,rfl):=rc;exact absurd e (by simp [kitOne,PySem.W.kitCls];intro h;cases ty<;>cases h)
 subst this;exact tQ I ru ty e λtk=>(.bl b,H,I.tok tk,rfl,q)
mutual
inductive Den (K:Zf)(H:Hp):V->KC->Prop|non:Den K H .non .none|bl (b):Den K H (.bl b) (.bool b)|int (i):Den K H (.int i) (.int i)|str (x):Den K H (.str x) (.str x)|lst {a xs ds}:SqL K H a xs->KR K H xs ds->Den K H (.ref a) (.list ds)|tup {a xs ds}:SqT K H a xs->KR K H xs ds->Den K H (.ref a) (.tuple ds)
inductive KR (K:Zf)(H:Hp):↑V->↑KC->Prop|nil:KR K H [] []|cons {x xs d ds}:Den K H x d->KR K H xs ds->KR K H (x::xs) (d::ds)
end
mutual
theorem dJ (I:Inv X P4 σ H s):∀ {x:V}{d:KC}{u:Jk},Den X.K H x d->RelV x u->∃as,Reads s.heap u d as|_,_,_,.non,r=>by cases r;exact(_,.none)|_,_,_,.bl b,r=>by cases r;exact(_,.bool b)|_,_,_,.int i,r=>by let(t,rfl):=r;exact(_,.int i t)|_,_,_,.str i,r=>by let(t,rfl):=r;exact(_,.str i t)|_,_,_,.lst hq ha,r=>by cases r;let(its,rv,(o,n,e1,e2,e3,e4),hz):=I.list hq;let(as,h):=eE I ha rv;exact(_,.list e1 e2 e4<|by simpa using h)|_,_,_,.tup hq ha,r=>by cases r;let(its,rv,(o,e1,e2,n,e3),hz):=I.tuple hq;let(as,h):=eE I ha rv;exact(_,.tuple e1 e2 e3<|by simpa using h)
theorem eE (I:Inv X P4 σ H s):∀ {xs:↑V}{ds:↑KC}{us:↑Jk},KR X.K H xs ds->Vals xs us->∃as,ReadsAll s.heap us ds as
 |_,_,_,.nil,.nil=>(_,.nil)
 |_,_,_,.cons h t,.cons r rs=>by let(as,h1):=dJ I h r;let(bs,h2):=eE I t rs;exact(_,.cons h1 h2)
end
noncomputable def Os (K:Zf)(A:Ju)(neg:Bool):R2:=λx y H Q=>∃d e,Den K H x d/\Den K H y e/\d.canLay0=true/\e.canLay0=true/\A.units+min d.depth e.depth<Jv/\Q (.bl<|if neg then !KC.eqv d e else KC.eqv d e) H
def By:OpR X (J4 .Eq) (Os X.K X.A false):=by intro P4 s σ H x y v u Q I rx ry h;let(d,e,hd,he,cd,ce,hu,q):=h;let(as,ra):=dJ I hd rx;let(bs,rb):=dJ I he ry;exact SeqAt.compareEq_reads ra rb cd ce hu (.bl _,H,I,rfl,q)
def Bt:OpR X (J4 .NotEq) (Os X.K X.A true):=by intro P4 s σ H x y v u Q I rx ry h;let(d,e,hd,he,cd,ce,hu,q):=h;let(as,ra):=dJ I hd rx;let(bs,rb):=dJ I he ry;exact SeqAt.compareNe_reads ra rb cd ce hu (.bl _,H,I,rfl,q)
end
end
section
section
variable {X:Cx}
theorem jW:∀ {bs:↑Bool}{us:↑Jk},Vals (bs.map V.bl) us->LSm.BoolsAre us bs|[],_,.nil=>.nil|b::r,_,.cons h t=>by have h:_=Jk.bool b:=h;subst h;exact .cons b<|jW t
def xw (hc:X.calm=true):CallR X (.builtin "all") (λxs H Q=>∃ (p:Jq) (bs:↑Bool) ,xs=[.ref p]/\SqL X.K H p (bs.map V.bl)/\Q (.bl<|bs.all id) H):=by
 intro P4 s σ H xs us Q I r h;let(p,bs,rfl,hq,q):=h;let(u,rfl,ru):=PM r;cases ru;let(its,rv,pl,hz):=I.list hq;have hb:=jW rv;have hl:=pl.isList;have hlt:p<↥s:=by let(_,e,_):=hl;exact Fy e
 refine call_all_walk<|wpAny_pyIter_list hl ?_
 refine(↥s,[↥s,p],[↥s],its.toArray.size,_,_,λi=>(bs[i]?).getD true,rfl,Walks.list (A:=X.A.in1) (I.ok.hd hc) _ p (FJ hlt) its.toArray,
  ((_,FM _ rfl,rfl,rfl),hl.push _),λi v s' Q' E' hP hQ=>?_,λh' tk hk=>?_)
 let(b,e,rfl):=hb.get i v (by simpa using hP);simp only[e,Hc]at hQ;exact JJ hQ
 .have e:((List.range its.toArray.size).all λi=>(bs[i]?).getD true)=bs.all id:=by rw[FI,⇑hb];exact LSm.range_all bs
  rw[e];exact(.bl _,H,I.kept (t':=tk)<|LSm.kept_iter hk,rfl,q)
set_option tactic.hygienic true in
def Pc:SlR X (λx lo hi H Q=>∃z ,x=.str z/\⇑z<=sizeLine/\Q (.str<|StrLaws.sliceText z lo hi) H):=by
 intro P4 s σ H x v vl vu lo hi sl Q I rx hs pl pu h;let(z,rfl,hz,q):=h;let(t,rfl):=rx;have part:∀ {v:Jk}{o:Option Int},IsPart v o->∃p:Option (Int×Tok),v=partValue p/\p.map (·.1)=o:=λ{v o} h=>by
  cases h with|none=>exact(none,rfl,rfl)|int i t=>exact(some (i ,t),rfl,rfl)
 let(l,rfl,el):=part pl;let(u,rfl,eu):=part pu;refine("str",_,slot_str_getitem.lookup,typeIs_str s z t,?_);let(o,h1,h2,h3):=hs;refine wpAny_getItem_str_slice (l:=l) (u:=u) (st:=none) (o,h1,h2,h3) rfl ?_;subst el eu;unfold sliceMade slicePicked;unfold StrLaws.sliceText at q;simp only[Option.map_none,Ie];split;rename_i hc;rw[np hc]at q;exact(.str z,H,I,(t,rfl),q);rename_i hc;rw[gV hc]at q;refine(?_,.str _,H,I.tok _,(_,rfl),q);show ((_:↑Nat).toArray).size<=sizeLine;rw[FI];exact F1 (List.length_filterMap_le _ _)<|F1 (sliceIndices_le _ _ _) hz
def NR:OpR X (Kh .Mult) (λx y H Q=>∃ (z:Str) (n:Int) ,x=.str z/\y=.int n/\MulOk z n/\Q (.str<|Txt.mul z n) H):=by intro P4 s σ H x y v u Q I rx ry h;let(z,n,rfl,rfl,ho,q):=h;let(t,rfl):=rx;let(t',rfl):=ry;exact SB.mul ho λt' k=>(.str _,H,I.tok k,(_,rfl),q)
end
end
section
noncomputable def excO (ea:Jq)(cls:Jk):HO:=.ext λh=>∃o vs,h.get? ea=`o/\o.cls=cls/\o.data=.fields vs
end
section
noncomputable def Ite (K:Zf)(a:Jq):It:=
 (λi H=>∃xs x,SqL K H a xs/\xs[i]?=`x,λi H v H'=>∃T x,H T=none/\v=.ref T/\(∀xs ,SqL K H a xs->xs[i]?=`x)/\H'=upd H T (.tup [.int i,x]),λi H=>∃xs,SqL K H a xs/\⇑xs=i)
def rW {P:Jn}{w:Jo}{K:Zf}{elts:↑Expr}{x1}{tpos:JY}(a e it:Jq)(hei:e≠it):Lj P w K (.Tuple elts x1 tpos) (Ite K a) [e,it] e (λi h=>(∃old ,IsEnum h e it i old)/\h.IsListIter it a i) where
 mem:=⇑_
 obj:=λi h st b hb=>by
  let((old,he),st):=st;rcases FC.mp hb with rfl|hb
  exact(_,he,λv z=>by cases z)
  .have e':b=it:=by simpa using hb
   subst e';let(o,e,c,d):=st;exact(o,e,λv z=>by rw[d]at z;cases z)
 keep:=λi h h' st k=>(let (old,he):=st.1;(old,k e ⇑_ _ he),st.2.at λo e=>k it ⇑_ o e)
 item:=by
  intro X hP hw hK hc i P4 s σ H E I hf st hg;subst hP hw hK;let((old,he),st):=st;let(xs,x,hq,hx):=hg;let(its,rv,p,hz):=I.list hq;let(u,hu,ru):=rv.get hx;have fe:=hf e ⇑_;have fi:=hf it ⇑_;let(oi,hoi,hoc,hod):=id st;have nai:a≠it:=λz=>by let(o,h1,h2,_):=p.isList;rw[z,hoi]at h1;cases h1;rw[hoc]at h2;exact absurd h2 ↥_
  have nae:e≠a:=λz=>by let(o,h1,h2,_):=p.isList;rw[<-z,show s.heap.get? e=_ from he]at h1;cases h1;exact absurd (show Jk.type "enumerate"=Jk.type "list" from h2) ↥_
  have D:=Draws.list (prog:=X.prog) (w:=X.w) (A:=X.A.in1) (I.ok.hd hc) it a nai its.toArray
  refine wpAny_pyNext_enum_itemD D he (st,p.isList) (by
   have:=FD.mp hu;let(z,_):=this
   simpa using z) hei (by simp [hei,nae]) λv h' tk hP hout hst hT hsz hk=>?_
  have hv:v=u:=by have hP:its.toArray[i]?=`v:=hP;rw[IL,hu]at hP;exact (Option.some.inj hP).symm
  subst hv;have nT:H ↥s=none:=I.hok.fresh<|Fw _;have lt:∀b o,s.heap.get? b=`o->b≠↥s:=λb o q=>FJ<|Fy q;have ltH:∀b o,H b=`o->b≠↥s:=λb o q z=>by rw[z,nT]at q;cases q
  have neH:∀b o,H b=`o->b≠e/\b≠it:=λb o q=>(λz=>by (rw[z,fe.1]at q;cases q),λz=>by (rw[z,fi.1]at q;cases q))
  have I1:Inv X P4 σ (upd H ↥s (.tup [.int i,x])) {s with heap:=h',toks:=tk+1}:=by
   refine I.call' (s':={s with heap:=h',toks:=tk+1}) (ch:=[e,it]) rfl (λb o q n hb hx=>?_,λb o q n hb hx=>?_,λb o q n hx=>?_,λb o q hx=>?_,λb xs q=>?_,λb o u q=>?_,λb ps q=>?_) (λb o q=>?_) I.bare λb hb=>?_;exact hk b o (λz=>hx<|by simp [z]) (λz=>hx<|by simp [z]) q;exact(o.slots,hk b o (λz=>hx<|by simp [z]) (λz=>hx<|by simp [z]) q);rw[af<|lt b o q];exact n;exact(o,hk b o (λz=>hx<|by simp [z]) (λz=>hx<|by simp [z]) q);rw[af<|ltH b _ q];exact q;rw[af<|ltH b _ q];exact q;exact(#[],by rw[af<|ltH b _ q,q];simp)
   .by_cases hb:b=↥s;subst hb;rw[aB]at q;cases q;exact(by show 2<=sizeLine;decide,_,.cons (tk,rfl)<|.cons ru .nil,(_,hT,rfl,_,rfl),_,hT,rfl)
    .rw[af hb]at q;refine (I.hok b o q).stay (λc v hc r=>?_) (λc r=>by rw[af<|ltH c _ r];exact r) λc xs r=>by rw[af<|ltH c _ r];exact r
     have:∃o,H c=`o:=by
      rcases hc with rfl|hc
      exact(o,q);exact(_,hc)
     let(o',qo):=this;exact hk c v (neH c o' qo).1 (neH c o' qo).2 r
   .have fb:KY X P4 H b:=by
     rcases FC.mp hb with rfl|hb
     exact fe
     .have e':b=it:=by simpa using hb
      subst e';exact fi
    exact(fb.2.2.2.1,fb.2.1,fb.2.2.2.2.1,fb.2.2.2.2.2)
  refine(_,rfl,wpAny_letOwnedTupleGo_enum (s:={s with heap:=h',toks:=tk+1}) hout λh2 he2 hs2=>?_);have neT:∀b∈[e,it],b≠↥s:=λb hb=>by
   rcases FC.mp hb with rfl|hb
   exact lt _ _ he
   .have e':b=it:=by simpa using hb
    subst e';exact lt _ _ hoi
  have fe':(upd H ↥s (.tup [.int i,x])) e=none:=by rw[af<|neT e ⇑_];exact fe.1
  refine(.ref ↥s,upd H ↥s (.tup [.int i,x]),?_,rfl,(↥s,x,nT,rfl,λys hy=>by rw[I.list_inj hy hq];exact hx,rfl),((_,by simpa using he2),hst.1.at λo eo=>(hs2.2 it<|Ne.symm hei).trans eo),λb hb=>?_);exact I1.turned (t':=tk+1) (λb o hb eo=>(hs2.2 b hb).trans eo) fe' fe.2.1 fe.2.2.2.1 fe.2.2.2.2.1 fe.2.2.2.2.2;rw[af<|neT b hb];exact (hf b hb).1
 done:=by
  intro X hP hw hK hc i P4 s σ H E I hf st hg;subst hP hw hK;let((old,he),st):=st;let(xs,hq,hx):=hg;let(its,rv,p,hz):=I.list hq;have fi:=hf it ⇑_;let(oi,hoi,hoc,hod):=id st;have nai:a≠it:=λz=>by let(o,h1,h2,_):=p.isList;rw[z,hoi]at h1;cases h1;rw[hoc]at h2;exact absurd h2 ↥_
  have D:=Draws.list (prog:=X.prog) (w:=X.w) (A:=X.A.in1) (I.ok.hd hc) it a nai its.toArray;have ei:i=its.toArray.size:=by rw[FI,<-⇑rv];exact hx.symm
  refine wpAny_pyNext_enum_endD D he (by rw[<-ei];exact(st,p.isList)) λh' eb=>(rfl,I.turned (t':=s.toks) (λb o hb e=>eb b o hb e) fi.1 fi.2.1 fi.2.2.2.1 fi.2.2.2.2.1 fi.2.2.2.2.2)
 self:=λJ J J J J st h=>let (_,he):=st.1;KD he h
section
variable {X:Cx}
noncomputable def iEnum (K:Zf)(ta:TA):TI:=λσ H R=>ta σ H λvs H1=>∃a,vs=[.ref a]/\(∃xs ,SqL K H1 a xs)/\R (Ite K a) H1
def yw {x1}(hg:Gl X "enumerate")(hm:X.mg "enumerate"=none)(ha:PA X [a] ta)(hs:J1 [a] X.env=[(false ,JX a X.env)]:=by rfl):PI X (.Tuple elts x1 tpos) (.Call (.Name "enumerate" p) [a] [] pos) (iEnum X.K ta):=by
 intro P4 s σ H R I h;refine Call_<|bu I hg hm boot_enumerate<|PyProof.Rows.callWith_type1 (thn (ha pos P4 s σ H _ I h) λus s1 qz=>?_) hs rfl;let(vs,H1,I1,r1,q1):=qz;let(b,e,(xs,hq),q):=q1;subst e;cases r1 with
 |cons r rr=>
  cases rr;cases r;let(its,rv,pl,hz):=I1.list hq;refine call_enumerate_list pl.isList λh' he hi hsz hk=>?_;refine KD he ?_;have I2:Inv X P4 σ H1 {s1 with heap:=h'}:=I1.kept (t':=s1.toks) hk;refine(↥s1+1,[↥s1+1,↥s1],_,_,H1,rfl,I2,rW b _ _ ⇑_,((_,he),hi),λc hc=>?_,q);have hc':↥s1<=c:=by
   rcases FC.mp hc with rfl|hc
   exact Gj _
   .have:c=↥s1:=by simpa using hc
    exact GV this.symm
  exact I1.fpOk hc'<|I1.hok.fresh hc'
end
end
end L2
namespace L2
open PySem PySem.Spec PyProof.Rows PySem.W
end L2
namespace L2
open PySem PySem.Spec PyProof.Rows
end L2
namespace L2
open PySem
end L2
namespace L2
open PySem PySem.Spec PyProof.Rows
open Sem (wp)
open Builtin
section
variable {prog:Jn}{w:Jo}{A:Ju}{E:Jk->Js->Prop}{s:Js}
def uu {i:Nat}{Q:Jk->Js->Prop}(g:s.heap.IsTupleIter j t i)(gt:s.heap.IsTuple t its)(hx:its[i]?=`x)(k:∀h' ,h'.IsTupleIter j t (i+1)->Ga j s.heap h'->Q x {s with heap:=h'}):Jw (Jx prog w) A (SmallTypes.nextOf<|.ref j) Q E s:=by let(o,q1,q2,q3):=id g;let(u,z1,_,n,z2):=gt;unfold SmallTypes.nextOf;refine Jy<|wpAny_callSpecial?_slot (name:=Str.ofString "__next__") g.typeIs F.slot_tuple_iterator_next<|JB F.slot_tuple_iterator_next g.typeIs F.entry_tuple_iterator_next ?_<|F.args_tuple_iterator_next_1 _;show Jw _ _ (field (.ref j) 0>>=_) _ _ s;refine Jy<|Ku q1 q3 (x:=.ref t) rfl ?_;show Jw _ _ (if (Jk.ref t==Jk.none)=true then _ else _) _ _ s;rw[gV<|show¬((Jk.ref t==Jk.none)=true) from FP];show Jw _ _ (field (.ref j) 1>>=_) _ _ s;refine Jy<|Ku q1 q3 (x:=.int i 0) rfl ?_;show Jw _ _ (seqItems? (.ref t)>>=_) _ _ s;refine Jy<|JK z1 z2 ?_;simp only[G0,hx];refine Jy<|wpAny_setField q1 q3 ⇑_ (JC (x,rfl,JC<|k _ ?_<|Ga.update ..));exact(_,Ib _ q1<|Jt.isFreed_of_fields<|Jt.data_mapFields q3 _,(Jt.cls_mapFields ..).trans q2,by rw[Jt.data_mapFields q3];simp [Ke])
def uv {i:Nat}{Q:Jk->Js->Prop}(hh:A.handled=none)(g:s.heap.IsTupleIter j t i)(gt:s.heap.IsTuple t its)(hx:its[i]?=none)(k:∀h' e ,HI j s.heap h'->(∃o ,h'.get? e=`o/\o.cls=.type "StopIteration")->E (.ref e) {s with heap:=h'}):Jw (Jx prog w) A (SmallTypes.nextOf<|.ref j) Q E s:=by
 let(o,q1,q2,q3):=id g;let(u,z1,_,n,z2):=gt;unfold SmallTypes.nextOf;refine Jy<|wpAny_callSpecial?_slot (name:=Str.ofString "__next__") g.typeIs F.slot_tuple_iterator_next<|JB F.slot_tuple_iterator_next g.typeIs F.entry_tuple_iterator_next ?_<|F.args_tuple_iterator_next_1 _;show Jw _ _ (field (.ref j) 0>>=_) _ _ s;refine Jy<|Ku q1 q3 (x:=.ref t) rfl ?_;show Jw _ _ (if (Jk.ref t==Jk.none)=true then _ else _) _ _ s;rw[gV<|show¬((Jk.ref t==Jk.none)=true) from FP];show Jw _ _ (field (.ref j) 1>>=_) _ _ s;refine Jy<|Ku q1 q3 (x:=.int i 0) rfl ?_;show Jw _ _ (seqItems? (.ref t)>>=_) _ _ s;refine Jy<|JK z1 z2 ?_;simp only[G0,hx];refine Jy<|JD<|Jy<|wpAny_setField q1 q3 ⇑_ ?_;show Jw _ _ (newExc (.type "StopIteration") []>>=_) _ _ _;refine Jy ?_;simp only[newExc,newTuple];refine Jy (Kv ?_<|by size_fits);refine Jy (m:=firstArgMember _ _) (wpAny_of_eq (a:=Jk.none) (by first|rfl|(simp only[firstArgMember];rfl))<|Kv ?_<|by size_fits);simp only[raiseNew];refine Jy<|wpAny_handled ?_
 first|rw[show A.in1.handled=none from hh]|rw[hh]
 exact Jy<|JC<|wpAny_throw<|k _ _ (((Ga.update ..).extBut.push _).push _) (_,FM _ rfl,rfl)
end
def fE {prog:Jn}{w:Jo}{A:Ju}(hh:A.handled=none)(j t:Jq)(hne:t≠j)(its:Array Jk):Draws prog w A j [j,t] its.size (λi v=>its[i]?=`v) (λi h=>h.IsTupleIter j t i/\h.IsTuple t its) where
 live:=λJ J st=>let (o,q,_):=st.1;(o,q)
 frame:=λJ J J st k=>(let (o,q,r):=st.1;(o,k j ⇑_ o q,r),let (o,q,r):=st.2;(o,k t ⇑_ o q,r))
 item:=λi s Q E hi st k=>uu st.1 st.2 (x:=its[i]) (by simp [hi]) λh' a b=>k _ h' s.toks (by simp [hi]) (a,st.2.extBut b.extBut hne) b
 done:=λs Q E st k=>uv hh st.1 st.2 ⇑_ k
def PD (p:IsTup h a its):h.IsTuple a its:=p
set_option tactic.hygienic true in
set_option maxRecDepth 100000 in
def nH (l:Jq)(its:Array Jk)(n:Nat)(dct:Option Jq)(sl:Array (Option Jk)):
  Meets (Jl.«enumerate.__new__» ([.type "enumerate",.ref l],[])) (λJ R s=>s.heap.get? l=some {cls:=.type "tuple",dict:=dct,data:=.seq its n,slots:=sl}/\
   R (.ok<|.ret<|.ref (s.heap.push {cls:=.type "tuple_iterator",data:=.fields #[.ref l,.int 0 0]}).objs.size) {s with heap:=(s.heap.push {cls:=.type "tuple_iterator",data:=.fields #[.ref l,.int 0 0]}).push {cls:=.type "enumerate",data:=.fields #[.none,.bool false,.ref ↥s,Ke 0,.none,.none]}}):=
 .of_wp λprog w A R s h=>by
  let(hp,g,d,tk,os):=s;let(hl,h):=h;have hsub:=sub_enumerate;have hT:Jp.IsTuple (Js.heap (hp,g,d,tk,os)) l its:=(_,hl,rfl,n,rfl)
  wp_walk using AutoSeq1.wpAny_loadPart' hl
  refine wpAny_stack_any λst=>JC ?_;split;rename_i c _ _ _ _ _;cases (c==Jk.type "enumerate")<;>(wp_walk using AutoSeq1.wpAny_loadPart' hl ,Kf hT;exact(_,rfl,h))
  .wp_walk using AutoSeq1.wpAny_loadPart' hl,Kf hT
   exact(_,rfl,h)
section
variable {prog:Jn}{w:Jo}{A:Ju}{E:Jk->Js->Prop}{s:Js}
def pS {Q:Jk->Js->Prop}(hT:s.heap.IsTuple l its)
  (k:∀h' ,IsEnum h' (↥s+1) ↥s 0 .none->h'.IsTupleIter ↥s l 0->h'.objs.size=↥s+2->(∀b o ,s.heap.get? b=`o->h'.get? b=`o)->Q (.ref<|↥s+1) {s with heap:=h'}):
  Jw (Jx prog w) A (call (.type "enumerate") [.ref l]) Q E s:=by
 let((c,dct,dt,sl),hl,hc,n,hd):=hT
 replace hc:c=.type "tuple":=hc
 replace hd:dt=.seq its n:=hd
 subst hc hd;refine callType_new F.called_enumerate ↥_ (F.typeCall_enumerate_1 _) (F.newCall_enumerate_1 _) (λobj=>F.args_object_init_2 obj _) F.entry_enumerate_new (nH l its n dct sl) (hl,?_);have hz:(s.heap.push {cls:=.type "tuple_iterator",data:=.fields #[.ref l,.int 0 0]}).objs.size=↥s+1:=Gc ..;show _/\_;rw[hz];have he:IsEnum ((s.heap.push {cls:=.type "tuple_iterator",data:=.fields #[.ref l,.int 0 0]}).push {cls:=.type "enumerate",data:=.fields #[.none,.bool false,.ref ↥s,Ke 0,.none,.none]}) (↥s+1) ↥s 0 .none:=by have z:=FM (s.heap.push {cls:=.type "tuple_iterator",data:=.fields #[.ref l,.int 0 0]}) (o:={cls:=.type "enumerate",data:=.fields #[.none,.bool false,.ref ↥s,Ke 0,.none,.none]}) rfl;rw[hz]at z;exact z
 refine((_,he,rfl),k _ he (_,Fx _<|FM _ rfl,rfl,rfl) (by rw[Gc,hz]) λb o x=>Fx _<|Fx _ x)
end
noncomputable def IteT (K:Zf)(a:Jq):It:=
 (λi H=>∃xs x,SqT K H a xs/\xs[i]?=`x,λi H v H'=>∃T x,H T=none/\v=.ref T/\(∀xs ,SqT K H a xs->xs[i]?=`x)/\H'=upd H T (.tup [.int i,x]),λi H=>∃xs,SqT K H a xs/\⇑xs=i)
def oG {P:Jn}{w:Jo}{K:Zf}{elts:↑Expr}{x1}{tpos:JY}(a e it:Jq)(hei:e≠it):Lj P w K (.Tuple elts x1 tpos) (IteT K a) [e,it] e (λi h=>(∃old ,IsEnum h e it i old)/\h.IsTupleIter it a i) where
 mem:=⇑_
 obj:=λi h st b hb=>by
  let((old,he),st):=st;rcases FC.mp hb with rfl|hb
  exact(_,he,λv z=>by cases z)
  .have e':b=it:=by simpa using hb
   subst e';let(o,e,c,d):=st;exact(o,e,λv z=>by rw[d]at z;cases z)
 keep:=λi h h' st k=>(let (old,he):=st.1;(old,k e ⇑_ _ he),st.2.at λo e=>k it ⇑_ o e)
 item:=by
  intro X hP hw hK hc i P4 s σ H E I hf st hg;subst hP hw hK;let((old,he),st):=st;let(xs,x,hq,hx):=hg;let(its,rv,p,hz):=I.tuple hq;let(u,hu,ru):=rv.get hx;have fe:=hf e ⇑_;have fi:=hf it ⇑_;let(oi,hoi,hoc,hod):=id st;have nai:a≠it:=λz=>by
   let(o,h1,h2,_):=(PD p)
   rw[z,hoi]at h1;cases h1;rw[hoc]at h2;exact absurd h2 ↥_
  have nae:e≠a:=λz=>by
   let(o,h1,h2,_):=(PD p)
   rw[<-z,show s.heap.get? e=_ from he]at h1;cases h1;exact absurd (show Jk.type "enumerate"=Jk.type "tuple" from h2) ↥_
  have D:=fE (prog:=X.prog) (w:=X.w) (A:=X.A.in1) (I.ok.hd hc) it a nai its.toArray
  refine wpAny_pyNext_enum_itemD D he (st,(PD p)) (by
   have:=FD.mp hu;let(z,_):=this
   simpa using z) hei (by simp [hei,nae]) λv h' tk hP hout hst hT hsz hk=>?_
  have hv:v=u:=by have hP:its.toArray[i]?=`v:=hP;rw[IL,hu]at hP;exact (Option.some.inj hP).symm
  subst hv;have nT:H ↥s=none:=I.hok.fresh<|Fw _;have lt:∀b o,s.heap.get? b=`o->b≠↥s:=λb o q=>FJ<|Fy q;have ltH:∀b o,H b=`o->b≠↥s:=λb o q z=>by rw[z,nT]at q;cases q
  have neH:∀b o,H b=`o->b≠e/\b≠it:=λb o q=>(λz=>by (rw[z,fe.1]at q;cases q),λz=>by (rw[z,fi.1]at q;cases q))
  have I1:Inv X P4 σ (upd H ↥s (.tup [.int i,x])) {s with heap:=h',toks:=tk+1}:=by
   refine I.call' (s':={s with heap:=h',toks:=tk+1}) (ch:=[e,it]) rfl (λb o q n hb hx=>?_,λb o q n hb hx=>?_,λb o q n hx=>?_,λb o q hx=>?_,λb xs q=>?_,λb o u q=>?_,λb ps q=>?_) (λb o q=>?_) I.bare λb hb=>?_;exact hk b o (λz=>hx<|by simp [z]) (λz=>hx<|by simp [z]) q;exact(o.slots,hk b o (λz=>hx<|by simp [z]) (λz=>hx<|by simp [z]) q);rw[af<|lt b o q];exact n;exact(o,hk b o (λz=>hx<|by simp [z]) (λz=>hx<|by simp [z]) q);rw[af<|ltH b _ q];exact q;rw[af<|ltH b _ q];exact q;exact(#[],by rw[af<|ltH b _ q,q];simp)
   .by_cases hb:b=↥s;subst hb;rw[aB]at q;cases q;exact(by show 2<=sizeLine;decide,_,.cons (tk,rfl)<|.cons ru .nil,(_,hT,rfl,_,rfl),_,hT,rfl)
    .rw[af hb]at q;refine (I.hok b o q).stay (λc v hc r=>?_) (λc r=>by rw[af<|ltH c _ r];exact r) λc xs r=>by rw[af<|ltH c _ r];exact r
     have:∃o,H c=`o:=by
      rcases hc with rfl|hc
      exact(o,q);exact(_,hc)
     let(o',qo):=this;exact hk c v (neH c o' qo).1 (neH c o' qo).2 r
   .have fb:KY X P4 H b:=by
     rcases FC.mp hb with rfl|hb
     exact fe
     .have e':b=it:=by simpa using hb
      subst e';exact fi
    exact(fb.2.2.2.1,fb.2.1,fb.2.2.2.2.1,fb.2.2.2.2.2)
  refine(_,rfl,wpAny_letOwnedTupleGo_enum (s:={s with heap:=h',toks:=tk+1}) hout λh2 he2 hs2=>?_);have neT:∀b∈[e,it],b≠↥s:=λb hb=>by
   rcases FC.mp hb with rfl|hb
   exact lt _ _ he
   .have e':b=it:=by simpa using hb
    subst e';exact lt _ _ hoi
  have fe':(upd H ↥s (.tup [.int i,x])) e=none:=by rw[af<|neT e ⇑_];exact fe.1
  refine(.ref ↥s,upd H ↥s (.tup [.int i,x]),?_,rfl,(↥s,x,nT,rfl,λys hy=>by rw[I.tuple_inj hy hq];exact hx,rfl),((_,by simpa using he2),hst.1.at λo eo=>(hs2.2 it<|Ne.symm hei).trans eo),λb hb=>?_);exact I1.turned (t':=tk+1) (λb o hb eo=>(hs2.2 b hb).trans eo) fe' fe.2.1 fe.2.2.2.1 fe.2.2.2.2.1 fe.2.2.2.2.2;rw[af<|neT b hb];exact (hf b hb).1
 done:=by
  intro X hP hw hK hc i P4 s σ H E I hf st hg;subst hP hw hK;let((old,he),st):=st;let(xs,hq,hx):=hg;let(its,rv,p,hz):=I.tuple hq;have fi:=hf it ⇑_;let(oi,hoi,hoc,hod):=id st;have nai:a≠it:=λz=>by
   let(o,h1,h2,_):=(PD p)
   rw[z,hoi]at h1;cases h1;rw[hoc]at h2;exact absurd h2 ↥_
  have D:=fE (prog:=X.prog) (w:=X.w) (A:=X.A.in1) (I.ok.hd hc) it a nai its.toArray;have ei:i=its.toArray.size:=by rw[FI,<-⇑rv];exact hx.symm
  refine wpAny_pyNext_enum_endD D he (by rw[<-ei];exact(st,(PD p))) λh' eb=>(rfl,I.turned (t':=s.toks) (λb o hb e=>eb b o hb e) fi.1 fi.2.1 fi.2.2.2.1 fi.2.2.2.2.1 fi.2.2.2.2.2)
 self:=λJ J J J J st h=>let (_,he):=st.1;KD he h
section
variable {X:Cx}
noncomputable def CS (K:Zf)(ta:TA):TI:=λσ H R=>ta σ H λvs H1=>∃a,vs=[.ref a]/\(∃xs ,SqT K H1 a xs)/\R (IteT K a) H1
def vp {x1}(hg:Gl X "enumerate")(hm:X.mg "enumerate"=none)(ha:PA X [a] ta)(hs:J1 [a] X.env=[(false ,JX a X.env)]:=by rfl):PI X (.Tuple elts x1 tpos) (.Call (.Name "enumerate" p) [a] [] pos) (CS X.K ta):=by
 intro P4 s σ H R I h;refine Call_<|bu I hg hm boot_enumerate<|PyProof.Rows.callWith_type1 (thn (ha pos P4 s σ H _ I h) λus s1 qz=>?_) hs rfl;let(vs,H1,I1,r1,q1):=qz;let(b,e,(xs,hq),q):=q1;subst e;cases r1 with
 |cons r rr=>
  cases rr;cases r;let(its,rv,pl,hz):=I1.tuple hq;refine pS (PD pl) λh' he hi hsz hk=>?_;refine KD he ?_;have I2:Inv X P4 σ H1 {s1 with heap:=h'}:=I1.kept (t':=s1.toks) hk;refine(↥s1+1,[↥s1+1,↥s1],_,_,H1,rfl,I2,oG b _ _ ⇑_,((_,he),hi),λc hc=>?_,q);have hc':↥s1<=c:=by
   rcases FC.mp hc with rfl|hc
   exact Gj _
   .have:c=↥s1:=by simpa using hc
    exact GV this.symm
  exact I1.fpOk hc'<|I1.hok.fresh hc'
end
section
open Sem (wp)
open Builtin
def ItAt (h:Jp)(T:String)(j l:Jq)(i:Nat):Prop:=∃o,h.get? j=`o/\o.cls=.type T/\o.data=.fields #[.ref l,.int i 0]
def SeqAt (h:Jp)(T:String)(l:Jq)(its:Array Jk):Prop:=(T="list_iterator"/\h.IsList l its)\/(T="tuple_iterator"/\h.IsTuple l its)
def SeqAt.keep (x:SeqAt h T l its)(k:∀o ,h.get? l=`o->h'.get? l=`o):SeqAt h' T l its:=
 x.imp (λ(e,o,a,b)=>(e,o,k o a,b)) λ(e,o,a,b)=>(e,o,k o a,b)
def ItAt.keep {i:Nat}(x:ItAt h T j l i)(k:∀o ,h.get? j=`o->h'.get? j=`o):ItAt h' T j l i:=let (o,a,b):=x;(o,k o a,b)
def aK {prog:Jn}{w:Jo}{A:Ju}(hh:A.handled=none)(T:String)(j l:Jq)(hne:l≠j)(its:Array Jk):Draws prog w A j [j,l] its.size (λi v=>its[i]?=`v) (λi h=>ItAt h T j l i/\SeqAt h T l its) where
 live:=λJ J st=>let (o,q,_):=st.1;(o,q)
 frame:=λJ J J st k=>(st.1.keep λo q=>k j ⇑_ o q,st.2.keep λo q=>k l ⇑_ o q)
 item:=λi s Q E hi st k=>by
  obtain⟨a,⟨rfl,b⟩|⟨rfl,b⟩⟩:=st;exact (Draws.list (prog:=prog) (w:=w) hh j l hne its).item i s Q E hi (a,b) λx h' tk p st sb=>k x h' tk p (st.1,.inl (rfl,st.2)) sb;exact (fE (prog:=prog) (w:=w) hh j l hne its).item i s Q E hi (a,b) λx h' tk p st sb=>k x h' tk p (st.1,.inr (rfl,st.2)) sb
 done:=λs Q E st k=>by
  obtain⟨a,⟨rfl,b⟩|⟨rfl,b⟩⟩:=st;exact (Draws.list (prog:=prog) (w:=w) hh j l hne its).done s Q E (a,b) k;exact (fE (prog:=prog) (w:=w) hh j l hne its).done s Q E (a,b) k
section
variable {prog:Jn}{w:Jo}{A:Ju}{E:Jk->Js->Prop}{s:Js}
def nR {Q:Jk->Js->Prop}(hl:SeqAt s.heap T l its)(k:Q (.ref ↥s) {s with heap:=s.heap.push {cls:=.type T,data:=.fields #[.ref l,.int 0 0]}}):Jw (Jx prog w) A (pyIter<|.ref l) Q E s:=by
 obtain⟨rfl,hl⟩|⟨rfl,hl⟩:=hl
 exact wpAny_pyIter_list hl k;exact Kf hl k
structure ZA (z TI TO i1 i2 l1 l2:Jq):Prop where
 a1:TI≠z
 a2:TO≠z
 a3:i1≠z
 a4:i2≠z
 a5:TI≠TO
 a6:TI≠i1
 a7:TI≠i2
 a8:TO≠i1
 a9:TO≠i2
 b1:i1≠i2
 b2:l1≠z
 b3:l1≠TO
 b4:l1≠i1
 b5:l1≠i2
 b6:l2≠z
 b7:l2≠TO
 b8:l2≠i1
 b9:l2≠i2
structure ZS (h:Jp)(z TI TO i1 i2 l1 l2:Jq)(T1 T2:String)(xs ys:Array Jk)(n:Nat)(f0:Jk):Prop where
 z:IsZip h z TI TO f0
 ti:KE h TI (.ref i1) (.ref i2)
 to:∃a b,KE h TO a b
 u1:ItAt h T1 i1 l1 n
 u2:ItAt h T2 i2 l2 n
 s1:SeqAt h T1 l1 xs
 s2:SeqAt h T2 l2 ys
def uj {z TI TO i1 i2 l1 l2:Jq}{n:Nat}{Q:Jk->Js->Prop}(hh:A.handled=none)(D:ZA z TI TO i1 i2 l1 l2)(Z:ZS s.heap z TI TO i1 i2 l1 l2 T1 T2 xs ys n .none)(hx:xs[n]?=`x)(hy:ys[n]?=`y)
  (k:∀h' tk ,ZS h' z TI TO i1 i2 l1 l2 T1 T2 xs ys (n+1) (Ke ↥s)->KE h' ↥s x y->h'.objs.size=↥s+1->(∀c o ,c≠z->c≠TO->c≠i1->c≠i2->s.heap.get? c=`o->h'.get? c=`o)->Q (.ref ↥s) {s with heap:=h',toks:=tk}):
  Jw (Jx prog w) A (Jl.«zip.__next__» ([.ref z],[])) (λfin s'=>∃v ,fin=.done (.ret v)/\Q v s') E s:=by
 let(hz,hti,(a,b,hto),u1,u2,s1,s2):=Z;have nx:n<xs.size:=(Hd.mp hx).1;have ny:n<ys.size:=(Hd.mp hy).1;show Jw _ _ (field (.ref z) 2>>=_) _ _ s;refine Jy<|Ku hz rfl (x:=.bool false) rfl ?_;show Jw _ _ (field (.ref z) 3>>=_) _ _ s;refine Jy<|Ku hz rfl (x:=.ref TI) rfl<|Jy<|JK hti rfl ?_;show Jw _ _ (SmallTypes.ownedTupleIsFree (.ref z)>>=_) _ _ s;refine Jy ?_;unfold SmallTypes.ownedTupleIsFree;refine Jy<|Ku hz rfl (x:=.none) rfl<|JC ?_;simp only[if_true];refine Jy (JD<|Jy<|Ku hz rfl (x:=.ref TO) rfl<|Jy<|KF hz ⇑_ λh1 z1 e1=>?_)
 replace z1:IsZip h1 z TI TO .ellipsis:=z1
 refine Jy ?_;simp only[Ht,HJ,Gf,Gr];refine Jy<|Jy<|KG ?_;show Jw _ _ (SmallTypes.nextOf (.ref i1)>>=_) _ _ _;refine Jy ((aK (prog:=prog) (w:=w) hh T1 i1 l1 D.b4 xs).item n _ _ _ nx (u1.keep λo q=>e1.extBut _ _ D.a3 q,s1.keep λo q=>e1.extBut _ _ D.b2 q) λx' h2 tk2 px st2 e2=>JC ?_);have:x'=x:=Option.some.inj<|px.symm.trans hx;subst this;have to2:KE h2 TO a b:=e2.extBut _ _ D.a8<|e1.extBut _ _ D.a2 hto;refine Jy (JK to2 rfl<|Jy<|KH to2 λh3 to3 e3=>?_)
 replace to3:KE h3 TO x' b:=to3
 refine Jy<|KI<|JC<|Jy<|Jy<|KG ?_;show Jw _ _ (SmallTypes.nextOf (.ref i2)>>=_) _ _ _;refine Jy ((aK (prog:=prog) (w:=w) hh T2 i2 l2 D.b9 ys).item n _ _ _ ny (u2.keep λo q=>e3.extBut _ _ (Ne.symm D.a9)<|e2.extBut _ _ (Ne.symm D.b1)<|e1.extBut _ _ D.a4 q,s2.keep λo q=>e3.extBut _ _ D.b7<|e2.extBut _ _ D.b8<|e1.extBut _ _ D.b6 q) λy' h4 tk4 py st4 e4=>JC ?_);have:y'=y:=Option.some.inj<|py.symm.trans hy;subst this;have to4:KE h4 TO x' b:=e4.extBut _ _ D.a9 to3;refine Jy (JK to4 rfl<|Jy<|KH to4 λh5 to5 e5=>?_)
 replace to5:KE h5 TO x' y':=to5
 refine Jy<|KI<|JC<|JC ?_;refine Jy<|JK to5 rfl<|Jy<|wpAny_newTuple ?_;have zs:h5.objs.size=↥s:=by rw[e5.1,e4.1,e3.1,e2.1,e1.1]
 have z5:IsZip h5 z TI TO .ellipsis:=e5.extBut _ _ (Ne.symm D.a2)<|e4.extBut _ _ (Ne.symm D.a4)<|e3.extBut _ _ (Ne.symm D.a2)<|e2.extBut _ _ (Ne.symm D.a3) z1;have k5:∀c o,c≠z->c≠TO->c≠i1->c≠i2->s.heap.get? c=`o->h5.get? c=`o:=λc o c1 c2 c3 c4 e=>e5.extBut _ _ c2<|e4.extBut _ _ c4<|e3.extBut _ _ c2<|e2.extBut _ _ c3<|e1.extBut _ _ c1 e;have zl:z<h5.objs.size:=Fy z5;show Jw _ _ (SmallTypes.ownedTupleHandOut (.ref z) (.ref h5.objs.size)>>=_) _ _ _;refine Jy ?_;unfold SmallTypes.ownedTupleHandOut;have z6:IsZip (h5.push {cls:=.type "tuple",data:=.seq #[x',y']}) z TI TO .ellipsis:=Fx _ z5;refine Jy (KF z6 ⇑_ λh7 z7 e7=>?_)
 replace z7:IsZip h7 z TI TO (Ke h5.objs.size):=z7
 refine KF z7 ⇑_ λh8 z8 e8=>?_
 replace z8:IsZip h8 z TI TO (Ke h5.objs.size):=z8
 have up:∀c o,c≠z->h5.get? c=`o->h8.get? c=`o:=λc o c1 e=>e8.extBut _ _ c1<|e7.extBut _ _ c1<|Fx _ e;have pr8:KE h8 h5.objs.size x' y':=e8.extBut _ _ (GU zl)<|e7.extBut _ _ (GU zl)<|FM _ rfl;have sz8:h8.objs.size=h5.objs.size+1:=by rw[e8.1,e7.1,Gc]
 rw[zs]at z8 pr8 sz8;refine JC (_,rfl,?_);show Q (.ref h5.objs.size) _;rw[zs];refine k h8 _ (z8,up _ _ D.a1<|k5 _ _ D.a1 D.a5 D.a6 D.a7 hti,(_,_,up _ _ D.a2 to5),?_,?_,s1.keep λo q=>up _ _ D.b2<|k5 _ _ D.b2 D.b3 D.b4 D.b5 q,s2.keep λo q=>up _ _ D.b6<|k5 _ _ D.b6 D.b7 D.b8 D.b9 q) pr8 sz8 λc o c1 c2 c3 c4 e=>up c o c1<|k5 c o c1 c2 c3 c4 e;exact st2.1.keep λo q=>up _ _ D.a3<|e5.extBut _ _ (Ne.symm D.a8)<|e4.extBut _ _ D.b1<|e3.extBut _ _ (Ne.symm D.a8) q;exact st4.1.keep λo q=>up _ _ D.a4<|e5.extBut _ _ (Ne.symm D.a9) q
def xO {z TI TO i1 i2 l1 l2:Jq}{n:Nat}{Q:Fin->Js->Prop}(hh:A.handled=none)(D:ZA z TI TO i1 i2 l1 l2)(Z:ZS s.heap z TI TO i1 i2 l1 l2 T1 T2 xs ys n .none)(he:(n=xs.size/\n<=ys.size)\/(n<xs.size/\n=ys.size))
  (k:∀h' tk e ,(∀c o ,c≠z->c≠TO->c≠i1->c≠i2->s.heap.get? c=`o->h'.get? c=`o)->(∃o ,h'.get? e=`o/\o.cls=.type "StopIteration")->E (.ref e) {s with heap:=h',toks:=tk}):
  Jw (Jx prog w) A (Jl.«zip.__next__» ([.ref z],[])) Q E s:=by
 let(hz,hti,(a,b,hto),u1,u2,s1,s2):=Z;show Jw _ _ (field (.ref z) 2>>=_) _ _ s;refine Jy<|Ku hz rfl (x:=.bool false) rfl ?_;show Jw _ _ (field (.ref z) 3>>=_) _ _ s;refine Jy<|Ku hz rfl (x:=.ref TI) rfl<|Jy<|JK hti rfl ?_;show Jw _ _ (SmallTypes.ownedTupleIsFree (.ref z)>>=_) _ _ s;refine Jy ?_;unfold SmallTypes.ownedTupleIsFree;refine Jy<|Ku hz rfl (x:=.none) rfl<|JC ?_;simp only[if_true];refine Jy (JD<|Jy<|Ku hz rfl (x:=.ref TO) rfl<|Jy<|KF hz ⇑_ λh1 z1 e1=>?_)
 replace z1:IsZip h1 z TI TO .ellipsis:=z1
 refine Jy ?_;simp only[Ht,HJ,Gf,Gr];refine Jy<|Jy<|KG ?_;show Jw _ _ (SmallTypes.nextOf (.ref i1)>>=_) _ _ _;have st1:ItAt h1 T1 i1 l1 n/\SeqAt h1 T1 l1 xs:=(u1.keep λo q=>e1.extBut _ _ D.a3 q,s1.keep λo q=>e1.extBut _ _ D.b2 q)
 rcases he with⟨rfl,_⟩|⟨nx,hy⟩
 .refine Jy ((aK (prog:=prog) (w:=w) hh T1 i1 l1 D.b4 xs).done _ _ _ st1 λh2 e e2 he=>?_);let(oe,g1,g2):=he;have z2:IsZip h2 z TI TO .ellipsis:=e2 _ _ (Ne.symm D.a3) z1;have ez:e≠z:=λq=>by subst q;rw[z2]at g1;cases g1;simp at g2
  exact KF z2 ⇑_ λh3 J e3=>k h3 _ e (λc o c1 J c3 J q=>e3.extBut _ _ c1<|e2 _ _ c3<|e1.extBut _ _ c1 q) (oe,e3.extBut _ _ ez g1,g2)
 .refine Jy ((aK (prog:=prog) (w:=w) hh T1 i1 l1 D.b4 xs).item n _ _ _ nx st1 λx' h2 tk2 px st2 e2=>JC ?_);have to2:KE h2 TO a b:=e2.extBut _ _ D.a8<|e1.extBut _ _ D.a2 hto;refine Jy (JK to2 rfl<|Jy<|KH to2 λh3 to3 e3=>?_);refine Jy<|KI<|JC<|Jy<|Jy<|KG ?_;show Jw _ _ (SmallTypes.nextOf (.ref i2)>>=_) _ _ _;subst hy;refine Jy ((aK (prog:=prog) (w:=w) hh T2 i2 l2 D.b9 ys).done _ _ _ (u2.keep λo q=>e3.extBut _ _ (Ne.symm D.a9)<|e2.extBut _ _ (Ne.symm D.b1)<|e1.extBut _ _ D.a4 q,s2.keep λo q=>e3.extBut _ _ D.b7<|e2.extBut _ _ D.b8<|e1.extBut _ _ D.b6 q) λh4 e e4 he=>?_);let(oe,g1,g2):=he;have z4:IsZip h4 z TI TO .ellipsis:=e4 _ _ (Ne.symm D.a4)<|e3.extBut _ _ (Ne.symm D.a2)<|e2.extBut _ _ (Ne.symm D.a3) z1;have ez:e≠z:=λq=>by subst q;rw[z4]at g1;cases g1;simp at g2
  exact KF z4 ⇑_ λh5 J e5=>k h5 _ e (λc o c1 c2 c3 c4 q=>e5.extBut _ _ c1<|e4 _ _ c4<|e3.extBut _ _ c2<|e2.extBut _ _ c3<|e1.extBut _ _ c1 q) (oe,e5.extBut _ _ ez g1,g2)
def vY {z TI TO i1 i2 l1 l2:Jq}{n:Nat}{Q:Option Jk->Js->Prop}(hh:A.in1.handled=none)(D:ZA z TI TO i1 i2 l1 l2)(Z:ZS s.heap z TI TO i1 i2 l1 l2 T1 T2 xs ys n .none)(hx:xs[n]?=`x)(hy:ys[n]?=`y)
  (k:∀h' tk ,ZS h' z TI TO i1 i2 l1 l2 T1 T2 xs ys (n+1) (Ke ↥s)->KE h' ↥s x y->h'.objs.size=↥s+1->(∀c o ,c≠z->c≠TO->c≠i1->c≠i2->s.heap.get? c=`o->h'.get? c=`o)->Q (some<|.ref ↥s) {s with heap:=h',toks:=tk}):
  Jw (Jx prog w) A (Kc<|.ref z) Q E s:=by
 have hT:s.TypeIs (.ref z) "zip":=(_,Z.z,rfl)
 unfold Kc;exact Jy<|wpAny_attempt<|wpAny_callSpecial?_slot (name:=Str.ofString "__next__") hT F.slot_zip_next<|JB F.slot_zip_next hT F.entry_zip_next (uj hh D Z hx hy λh' tk a1 a2 a3 a4=>JC<|k h' tk a1 a2 a3 a4)<|F.args_zip_next_1 _
def zH {z TI TO i1 i2 l1 l2:Jq}{n:Nat}{Q:Option Jk->Js->Prop}(hh:A.in1.handled=none)(D:ZA z TI TO i1 i2 l1 l2)(Z:ZS s.heap z TI TO i1 i2 l1 l2 T1 T2 xs ys n .none)(he:(n=xs.size/\n<=ys.size)\/(n<xs.size/\n=ys.size))
  (k:∀h' tk ,(∀c o ,c≠z->c≠TO->c≠i1->c≠i2->s.heap.get? c=`o->h'.get? c=`o)->Q none {s with heap:=h',toks:=tk}):Jw (Jx prog w) A (Kc<|.ref z) Q E s:=by
 have hT:s.TypeIs (.ref z) "zip":=(_,Z.z,rfl)
 unfold Kc;refine Jy<|wpAny_attempt<|wpAny_callSpecial?_slot (name:=Str.ofString "__next__") hT F.slot_zip_next<|JB F.slot_zip_next hT F.entry_zip_next (xO hh D Z he λh' tk e hk (o,g1,g2)=>?_)<|F.args_zip_next_1 _;exact Jy<|JG (T:="StopIteration") (b:=true) (o,g1,g2) isSubtype_stop<|JC<|k _ _ hk
end
abbrev zA (h:Jp)(T:String)(l:Jq):Jp:=h.push {cls:=.type T,data:=.fields #[.ref l,.int 0 0]}
def pj (l1 l2:Jq)(T1 T2:String)(xs ys:Array Jk):
  Meets (Jl.«zip.__new__» ([.type "zip",.ref l1,.ref l2],[])) (λJ R s=>SeqAt s.heap T1 l1 xs/\SeqAt s.heap T2 l2 ys/\
   R (.ok<|.ret<|.ref<|(((zA (zA s.heap T1 l1) T2 l2).push {cls:=.type "tuple",data:=.seq #[.ref ↥s,.ref (zA s.heap T1 l1).objs.size]}).push {cls:=.type "tuple",data:=.seq #[.none,.none]}).objs.size)
     {s with heap:=(((zA (zA s.heap T1 l1) T2 l2).push {cls:=.type "tuple",data:=.seq #[.ref ↥s,.ref (zA s.heap T1 l1).objs.size]}).push {cls:=.type "tuple",data:=.seq #[.none,.none]}).push {cls:=.type "zip",data:=.fields #[.none,.bool false,.bool false,.ref (zA (zA s.heap T1 l1) T2 l2).objs.size,.ref ((zA (zA s.heap T1 l1) T2 l2).push {cls:=.type "tuple",data:=.seq #[.ref ↥s,.ref (zA s.heap T1 l1).objs.size]}).objs.size]}}):=
 .of_wp λprog w A R s h=>by
  let(hp,g,d,tk,os):=s;let(q1,q2,h):=h;have hsub:=sub_zip;have r1:SeqAt (Js.heap (hp,g,d,tk,os)) T1 l1 xs:=q1;have r2:SeqAt (Js.heap (hp.push {cls:=.type T1,data:=.fields #[.ref l1,.int 0 0]},g,d,tk,os)) T2 l2 ys:=q2.keep λo e=>Fx _ e
  wp_walk using nR r1,nR r2
  exact(_,rfl,h)
section
variable {prog:Jn}{w:Jo}{A:Ju}{E:Jk->Js->Prop}{s:Js}
def kU {Q:Jk->Js->Prop}(q1:SeqAt s.heap T1 l1 xs)(q2:SeqAt s.heap T2 l2 ys)
  (k:∀h' ,ZS h' (↥s+4) (↥s+2) (↥s+3) ↥s (↥s+1) l1 l2 T1 T2 xs ys 0 .none->h'.objs.size=↥s+5->(∀c o ,s.heap.get? c=`o->h'.get? c=`o)->Q (.ref<|↥s+4) {s with heap:=h'}):
  Jw (Jx prog w) A (call (.type "zip") [.ref l1,.ref l2]) Q E s:=by
 refine callType_new F.called_zip ↥_ (F.typeCall_zip_2 _ _) (F.newCall_zip_2 _ _) (λobj=>F.args_object_init_3 obj _ _) F.entry_zip_new (pj l1 l2 T1 T2 xs ys) (q1,q2,?_);have y1:(zA s.heap T1 l1).objs.size=↥s+1:=Gc ..;have y2:(zA (zA s.heap T1 l1) T2 l2).objs.size=↥s+2:=by rw[Gc,y1]
 generalize e2:zA (zA s.heap T1 l1) T2 l2=H2 at*;have y3:(H2.push {cls:=.type "tuple",data:=.seq #[.ref ↥s,.ref (zA s.heap T1 l1).objs.size]}).objs.size=↥s+3:=by rw[Gc,y2]
 have g3:(H2.push {cls:=.type "tuple",data:=.seq #[.ref ↥s,.ref (zA s.heap T1 l1).objs.size]}).get? H2.objs.size=some _:=FM _ rfl;have up3:∀c o,H2.get? c=`o->(H2.push {cls:=.type "tuple",data:=.seq #[.ref ↥s,.ref (zA s.heap T1 l1).objs.size]}).get? c=`o:=λc o e=>Fx _ e;generalize H2.push {cls:=.type "tuple",data:=.seq #[.ref ↥s,.ref (zA s.heap T1 l1).objs.size]}=H3 at*;have y4:(H3.push {cls:=.type "tuple",data:=.seq #[.none,.none]}).objs.size=↥s+4:=by rw[Gc,y3]
 have g4:(H3.push {cls:=.type "tuple",data:=.seq #[.none,.none]}).get? H3.objs.size=some _:=FM _ rfl;have up4:∀c o,H3.get? c=`o->(H3.push {cls:=.type "tuple",data:=.seq #[.none,.none]}).get? c=`o:=λc o e=>Fx _ e;generalize H3.push {cls:=.type "tuple",data:=.seq #[.none,.none]}=H4 at*;have y5:(H4.push {cls:=.type "zip",data:=.fields #[.none,.bool false,.bool false,.ref H2.objs.size,.ref H3.objs.size]}).objs.size=↥s+5:=by rw[Gc,y4]
 have g5:(H4.push {cls:=.type "zip",data:=.fields #[.none,.bool false,.bool false,.ref H2.objs.size,.ref H3.objs.size]}).get? H4.objs.size=some _:=FM _ rfl;have up5:∀c o,H4.get? c=`o->(H4.push {cls:=.type "zip",data:=.fields #[.none,.bool false,.bool false,.ref H2.objs.size,.ref H3.objs.size]}).get? c=`o:=λc o e=>Fx _ e;generalize H4.push {cls:=.type "zip",data:=.fields #[.none,.bool false,.bool false,.ref H2.objs.size,.ref H3.objs.size]}=H5 at*;have u2:H2.get? (↥s+1)=some {cls:=.type T2,data:=.fields #[.ref l2,.int 0 0]}:=by rw[<-e2,<-y1];exact FM _ rfl
 have u1:H2.get? ↥s=some {cls:=.type T1,data:=.fields #[.ref l1,.int 0 0]}:=by rw[<-e2];exact Fx _<|FM _ rfl
 have kk:∀c o,s.heap.get? c=`o->H2.get? c=`o:=λc o e=>by rw[<-e2];exact Fx _<|Fx _ e
 have up:∀c o,H2.get? c=`o->H5.get? c=`o:=λc o e=>up5 c o<|up4 c o<|up3 c o e;show _/\_;rw[y4]at g5 ⊢;rw[y2,y3]at g5;rw[y2,y1]at g3;rw[y3]at g4;exact((_,g5,rfl),k _ (g5,up5 _ _<|up4 _ _ g3,(_,_,up5 _ _ g4),(_,up _ _ u1,rfl,rfl),(_,up _ _ u2,rfl,rfl),q1.keep λo e=>up _ _<|kk _ _ e,q2.keep λo e=>up _ _<|kk _ _ e) y5 λc o e=>up c o<|kk c o e)
end
end
section
def SqK (k:Bool)(K:Zf)(H:Hp)(a:Jq)(xs:↑V):Prop:=match k with|true=>SqT K H a xs|false=>SqL K H a xs
noncomputable def tyK (k:Bool):String:=match k with
 |true=>"tuple_iterator"
 |false=>"list_iterator"
section
variable {X:Cx}{P4:↑(Jq×Jt)}{σ:St}{H:Hp}{s:Js}{a:Jq}{xs ys:↑V}{k:Bool}
def Inv.seqK (I:Inv X P4 σ H s)(h:SqK k X.K H a xs):∃its:↑Jk,Vals xs its/\SeqAt s.heap (tyK k) a its.toArray:=by
 cases k with
 |false=>
  let(its,rv,p,_):=I.list h;exact(its,rv,.inl (rfl,p.isList))
 |true=>
  let(its,rv,p,_):=I.tuple h;exact(its,rv,.inr (rfl,PD p))
def Inv.seqK_inj (I:Inv X P4 σ H s)(h:SqK k X.K H a xs)(g:SqK k X.K H a ys):xs=ys:=by
 cases k with|false=>exact I.list_inj h g|true=>exact I.tuple_inj h g
end
noncomputable def Itz (j k:Bool)(K:Zf)(a b:Jq):It:=
 (λi H=>∃xs ys x y,SqK j K H a xs/\SqK k K H b ys/\xs[i]?=`x/\ys[i]?=`y,λi H v H'=>∃T x y,H T=none/\v=.ref T/\(∀xs ys ,SqK j K H a xs->SqK k K H b ys->xs[i]?=`x/\ys[i]?=`y)/\H'=upd H T (.tup [x,y]),λi H=>∃xs ys,SqK j K H a xs/\SqK k K H b ys/\min ⇑xs ⇑ys=i)
structure ZO (h:Jp)(z TI TO i1 i2 a b:Jq)(T1 T2:String)(n:Nat)(f0:Jk):Prop where
 z:IsZip h z TI TO f0
 ti:KE h TI (.ref i1) (.ref i2)
 to:∃u v,KE h TO u v
 u1:ItAt h T1 i1 a n
 u2:ItAt h T2 i2 b n
theorem ZO.keep {z TI TO i1 i2 a b:Jq}{n:Nat}(Z:ZO h z TI TO i1 i2 a b T1 T2 n f0)(k:∀c∈[z,TI,TO,i1,i2] ,∀o,h.get? c=`o->h'.get? c=`o):ZO h' z TI TO i1 i2 a b T1 T2 n f0:=
 (k z ⇑_ _ Z.z,k TI ⇑_ _ Z.ti,let (u,v,q):=Z.to;(u,v,k TO ⇑_ _ q),Z.u1.keep λo q=>k i1 ⇑_ o q,Z.u2.keep λo q=>k i2 ⇑_ o q)
def ut {P:Jn}{w:Jo}{K:Zf}{elts:↑Expr}{x1}{tpos:JY}{a b z TI TO i1 i2:Jq}{j k:Bool}(D:ZA z TI TO i1 i2 a b):Lj P w K (.Tuple elts x1 tpos) (Itz j k K a b) [z,TI,TO,i1,i2] z (λi h=>ZO h z TI TO i1 i2 a b (tyK j) (tyK k) i .none) where
 mem:=⇑_
 obj:=λi h st c hc=>by
  simp only[FC,FV,or_false]at hc;rcases hc with rfl|rfl|rfl|rfl|rfl
  exact(_,st.z,λv z=>by cases z);exact(_,st.ti,λv z=>by cases z);let(_,_,q):=st.to;exact(_,q,λv z=>by cases z);let(o,e,c,d):=st.u1;exact(o,e,λv z=>by rw[d]at z;cases z);let(o,e,c,d):=st.u2;exact(o,e,λv z=>by rw[d]at z;cases z)
 keep:=λi h h' st kk=>st.keep kk
 item:=by
  intro X hP hw hK hc i P4 s σ H E I hf st hg;subst hP hw hK;let(xs,ys,x,y,hq1,hq2,hx,hy):=hg;let(is1,rv1,q1):=I.seqK hq1;let(is2,rv2,q2):=I.seqK hq2;let(u,hu,ru):=rv1.get hx;let(v,hv,rv):=rv2.get hy;have fz:=hf z ⇑_;have fO:=hf TO ⇑_;have f1:=hf i1 ⇑_;have f2:=hf i2 ⇑_;refine vY (I.ok.hd hc) D (st.z,st.ti,st.to,st.u1,st.u2,q1,q2) (by simpa using hu) (by simpa using hv) λh' tk Z' hT hsz hk=>?_;have nT:H ↥s=none:=I.hok.fresh<|Fw _;have lt:∀c o,s.heap.get? c=`o->c≠↥s:=λc o q=>FJ<|Fy q;have ltH:∀c o,H c=`o->c≠↥s:=λc o q z=>by rw[z,nT]at q;cases q
  have neH:∀c o,H c=`o->c≠z/\c≠TO/\c≠i1/\c≠i2:=λc o q=>(λz=>by (rw[z,fz.1]at q;cases q),λz=>by (rw[z,fO.1]at q;cases q),λz=>by (rw[z,f1.1]at q;cases q),λz=>by (rw[z,f2.1]at q;cases q))
  have hk':∀c o,c ∉ [z,TO,i1,i2]->s.heap.get? c=`o->h'.get? c=`o:=λc o n q=>hk c o (λz=>n<|by simp [z]) (λz=>n<|by simp [z]) (λz=>n<|by simp [z]) (λz=>n<|by simp [z]) q;have I1:Inv X P4 σ (upd H ↥s (.tup [x,y])) {s with heap:=h',toks:=tk}:=by
   refine I.call' (s':={s with heap:=h',toks:=tk}) (ch:=[z,TO,i1,i2]) rfl (λb o q n hb hx=>?_,λb o q n hb hx=>?_,λb o q n hx=>?_,λb o q hx=>?_,λb xs q=>?_,λb o u q=>?_,λb ps q=>?_) (λb o q=>?_) I.bare λb hb=>?_;exact hk' b o hx q;exact(o.slots,hk' b o hx q);rw[af<|lt b o q];exact n;exact(o,hk' b o hx q);rw[af<|ltH b _ q];exact q;rw[af<|ltH b _ q];exact q;exact(#[],by rw[af<|ltH b _ q,q];simp)
   .by_cases hb:b=↥s;subst hb;rw[aB]at q;cases q;exact(by show 2<=sizeLine;decide,_,.cons ru<|.cons rv .nil,(_,hT,rfl,_,rfl),_,hT,rfl)
    .rw[af hb]at q;refine (I.hok b o q).stay (λc v hc r=>?_) (λc r=>by rw[af<|ltH c _ r];exact r) λc xs r=>by rw[af<|ltH c _ r];exact r
     have:∃o,H c=`o:=by
      rcases hc with rfl|hc
      exact(o,q);exact(_,hc)
     let(o',qo):=this;let(n1,n2,n3,n4):=neH c o' qo;exact hk c v n1 n2 n3 n4 r
   .have fb:KY X P4 H b:=by
     simp only[FC,FV,or_false]at hb;rcases hb with rfl|rfl|rfl|rfl
     exact fz;exact fO;exact f1;exact f2
    exact(fb.2.2.2.1,fb.2.1,fb.2.2.2.2.1,fb.2.2.2.2.2)
  refine(_,rfl,wpAny_letOwnedTupleGo_zip (s:={s with heap:=h',toks:=tk}) Z'.z λh2 hz2 hs2=>?_);have nn:∀c∈[z,TI,TO,i1,i2],c≠↥s:=λc hc=>by
   simp only[FC,FV,or_false]at hc;rcases hc with rfl|rfl|rfl|rfl|rfl
   exact lt _ _ st.z;exact lt _ _ st.ti;let(_,_,q):=st.to;exact lt _ _ q;let(o,e,_):=st.u1;exact lt _ _ e;let(o,e,_):=st.u2;exact lt _ _ e
  have fe':(upd H ↥s (.tup [x,y])) z=none:=by rw[af<|nn z ⇑_];exact fz.1
  refine(.ref ↥s,upd H ↥s (.tup [x,y]),?_,rfl,(↥s,x,y,nT,rfl,λxs' ys' h1 h2=>by rw[I.seqK_inj h1 hq1,I.seqK_inj h2 hq2];exact(hx,hy),rfl),?_,λc hc=>?_);exact I1.turned (t':=tk) (λb o hb eo=>(hs2.2 b hb).trans eo) fe' fz.2.1 fz.2.2.2.1 fz.2.2.2.2.1 fz.2.2.2.2.2;have up:∀c o,c≠z->h'.get? c=`o->h2.get? c=`o:=λc o n q=>hs2.extBut _ _ n q;let(u',v',q):=Z'.to;exact(hz2,up _ _ D.a1 Z'.ti,(u',v',up _ _ D.a2 q),Z'.u1.keep λo q=>up _ _ D.a3 q,Z'.u2.keep λo q=>up _ _ D.a4 q);rw[af<|nn c hc];exact (hf c hc).1
 done:=by
  intro X hP hw hK hc i P4 s σ H E I hf st hg;subst hP hw hK;let(xs,ys,hq1,hq2,hx):=hg;let(is1,rv1,q1):=I.seqK hq1;let(is2,rv2,q2):=I.seqK hq2;have l1:=⇑rv1;have l2:=⇑rv2;have fz:=hf z ⇑_;have fO:=hf TO ⇑_;have f1:=hf i1 ⇑_;have f2:=hf i2 ⇑_
  refine zH (I.ok.hd hc) D (st.z,st.ti,st.to,st.u1,st.u2,q1,q2) (by
   rw[FI,FI]
   omega) λh' tk hk=>(rfl,?_)
  refine I.call' (s':={s with heap:=h',toks:=tk}) (ch:=[z,TO,i1,i2]) rfl (λb o q n hb hx=>?_,λb o q n hb hx=>?_,λb o q n hx=>n,λb o q hx=>?_,λb xs q=>q,λb o u q=>q,λb ps q=>(#[],by rw[q];simp)) (λb o q=>?_) I.bare λb hb=>?_;exact hk b o (λz=>hx<|by simp [z]) (λz=>hx<|by simp [z]) (λz=>hx<|by simp [z]) (λz=>hx<|by simp [z]) q;exact(o.slots,hk b o (λz=>hx<|by simp [z]) (λz=>hx<|by simp [z]) (λz=>hx<|by simp [z]) (λz=>hx<|by simp [z]) q);exact(o,hk b o (λz=>hx<|by simp [z]) (λz=>hx<|by simp [z]) (λz=>hx<|by simp [z]) (λz=>hx<|by simp [z]) q)
  .refine (I.hok b o q).stay (λc v hc r=>?_) (λc r=>r) λc xs r=>r;have:∃o,H c=`o:=by
    rcases hc with rfl|hc
    exact(o,q);exact(_,hc)
   let(o',qo):=this;exact hk c v (λz=>by rw[z,fz.1]at qo;cases qo) (λz=>by rw[z,fO.1]at qo;cases qo) (λz=>by rw[z,f1.1]at qo;cases qo) (λz=>by rw[z,f2.1]at qo;cases qo) r
  .have fb:KY X P4 H b:=by
    simp only[FC,FV,or_false]at hb;rcases hb with rfl|rfl|rfl|rfl
    exact fz;exact fO;exact f1;exact f2
   exact(fb.2.2.2.1,fb.2.1,fb.2.2.2.2.1,fb.2.2.2.2.2)
 self:=λJ J J J J st h=>wpAny_pyIter_zip st.z h
section
variable {X:Cx}
noncomputable def iZip (j k:Bool)(K:Zf)(ta:TA):TI:=λσ H R=>ta σ H λvs H1=>∃a b,vs=[.ref a,.ref b]/\(∃xs ,SqK j K H1 a xs)/\(∃ys ,SqK k K H1 b ys)/\R (Itz j k K a b) H1
def Au (n a b:Nat)(h1:a<n)(h2:b<n):(n+2≠n+4/\n+3≠n+4/\n≠n+4/\n+1≠n+4/\n+2≠n+3/\n+2≠n/\n+2≠n+1/\n+3≠n/\n+3≠n+1)/\(n≠n+1/\a≠n+4/\a≠n+3/\a≠n/\a≠n+1/\b≠n+4/\b≠n+3/\b≠n/\b≠n+1):=∅
def ul (h1:l1<n)(h2:l2<n):ZA (n+4) (n+2) (n+3) n (n+1) l1 l2:=
 by
 let((a1,a2,a3,a4,a5,a6,a7,a8,a9),b1,b2,b3,b4,b5,b6,b7,b8,b9):=Au n l1 l2 h1 h2;exact(a1,a2,a3,a4,a5,a6,a7,a8,a9,b1,b2,b3,b4,b5,b6,b7,b8,b9)
def A9 {j k:Bool}{x1}(hg:Gl X "zip")(hm:X.mg "zip"=none)(ha:PA X [a,b] ta)(hs:J1 [a,b] X.env=[(false ,JX a X.env),(false ,JX b X.env)]:=by rfl)(hs2:J1 [b] X.env=[(false ,JX b X.env)]:=by rfl):PI X (.Tuple elts x1 tpos) (.Call (.Name "zip" p) [a,b] [] pos) (iZip j k X.K ta):=by
 intro P4 s σ H R I h;refine Call_ (bu I hg hm boot_zip<|PyProof.Rows.callWith_type1 (thn (ha pos P4 s σ H _ I h) λus s1 qz=>?_) (by rw[hs,hs2])<|by rw[hs2];rfl);let(vs,H1,I1,r1,q1):=qz;let(a',b',e,(xs,hq1),(ys,hq2),q):=q1;subst e;let(u,v,rfl,ru,rv):=r1.two;cases ru;cases rv;let(is1,rv1,t1):=I1.seqK hq1;let(is2,rv2,t2):=I1.seqK hq2;have lt:∀ {T:String}{l:Jq}{u:Array Jk},SeqAt s1.heap T l u->l<↥s1:=λ{T l u} h=>by rcases h with⟨_,o,e,_⟩|⟨_,o,e,_⟩<;>exact Fy e
 refine kU t1 t2 λh' Z hsz hk=>wpAny_pyIter_zip Z.z ?_;have I2:Inv X P4 σ H1 {s1 with heap:=h'}:=I1.kept (t':=s1.toks) hk;refine(↥s1+4,[↥s1+4,↥s1+2,↥s1+3,↥s1,↥s1+1],_,_,H1,rfl,I2,ut (j:=j) (k:=k)<|ul (lt t1)<|lt t2,(Z.z,Z.ti,Z.to,Z.u1,Z.u2),λc hc=>?_,q);have hc':↥s1<=c:=by
  simp only[FC,FV,or_false]at hc;rcases hc with rfl|rfl|rfl|rfl|rfl
  exact F7 _ _;exact F7 _ _;exact F7 _ _;exact Fw _;exact F7 _ _
 exact I1.fpOk hc'<|I1.hok.fresh hc'
end
end
section
open Builtin
section
variable {X:Cx}
noncomputable def Op (K:Zf):R2:=λx y H Q=>∃a b ys,x=.ref a/\y=.ref b/\SqT K H a []/\SqT K H b ys/\Q (.ref b) H
def NM:OpR X (Kh .Add) (Op X.K):=by intro P4 s σ H x y v u Q I rx ry h;let(a,b,ys,rfl,rfl,ha,hb,q):=h;cases rx;cases ry;let(its,r1,((cls,dd,data,sl),ho,hc,n,hd),_):=I.tuple ha;let(its2,r2,((cls2,dd2,data2,sl2),ho2,hc2,n2,hd2),_):=I.tuple hb;have e:=r1.nil_iff.mpr rfl;subst e;simp only at hc hd hc2 hd2;subst hc hd hc2 hd2;exact concat_meets (_,ho,rfl) (_,ho2,rfl) noFill_tuple_add seq_tuple_add PySem.F.slot_tuple_add PySem.F.entry_tuple_add (PySem.F.args_tuple_add_2 _ _) (tuple_addW0 a b #[] its2.toArray n n2 dd dd2 sl sl2 rfl) (ho,ho2,.ref b,H,I,rfl,q)
end
end
section
set_option genInjectivity true in
inductive W where
 |ty (n:String)|exc (c:Str)|cls (c:Str)|non|bl (b:Bool)|int (i:Int)|str (x:Str)
 |tup (l:↑W)|tl (l:↑W)|cl (l:↑W)|dv (ks:↑Key)(ws:↑W)|dn (b:Bool)(ks:↑PKy)(ws:↑W)|kt (ks:↑Key)|loc (k:Nat)
set_option genInjectivity true in
inductive Ob where|lst (l:↑W)|dic (ks:↑Key)(ws:↑W)|dit (ks:↑↑Key)(ws:↑W)|din (b:Bool)(ks:↑PKy)(ws:↑W)|ins (c:Str)(ns:↑Str)(ws:↑W)|gone
structure Wo where
 mu:Nat->Jq
 h:↑Ob
 H:Hp
def Lv (o:Wo)(a:Jq):Prop:=∃k b,o.h[k]?=`b/\b≠.gone/\o.mu k=a
def FrL (K:Zf)(a:Jq)(xs:↑V):Prop:=∃ (o:Jt) (its:Array Jk) (n:Nat),K.lookup a=`o/\o.cls=.type "list"/\o.dict=none/\o.data=.seq its n/\its.size<=sizeLine/\Vals xs its.toList
def KeyN (K:Zf)(H:Hp)(b:Bool)(c:Jq)(k:PKy):Prop:=∃d,SqT K H c (match b with
 |false=>[.int k.1,.ref d]
 |true=>[.ref d,.int k.1])/\SqT K H d (k.2.map V.int)
mutual
noncomputable def Rv (K:Zf)(o:Wo):W->V->Prop|.ty n,v=>v=.ty n|.exc c,v=>∃a C,v=.ref a/\Jj K JP c=some (some<|.ref C)/\o.H a=some (excO a<|.ref C)|.cls c,v=>∃C,v=.ref C/\Jj K JP c=some (some<|.ref C)|.non,v=>v=.non|.bl b,v=>v=.bl b|.int i,v=>v=.int i|.str x,v=>v=.str x|.tup l,v=>∃a vs,v=.ref a/\SqT K o.H a vs/\Rvs K o l vs|.tl l,v=>∃a vs,v=.ref a/\o.H a=some (.lst vs)/\¬Lv o a/\Rvs K o l vs|.cl l,v=>∃a vs,v=.ref a/\((Rd o.H a (.lst vs)/\¬Lv o a)\/FrL K a vs)/\Rvs K o l vs|.dv ks ws,v=>∃a kvs,v=.ref a/\Rd o.H a (.dK kvs)/\¬Lv o a/\kvs.map (·.1)=ks/\Rvs K o ws (kvs.map (·.2))|.dn b ks ws,v=>∃a,∃xs:↑(PKy×Jq×V)×Nat,v=.ref a/\o.H a=some (.dN b xs.1 xs.2)/\¬Lv o a/\xs.1.map (·.1)=ks/\(∀x∈xs.1 ,KeyN K o.H b x.2.1 x.1)/\Rvs K o ws (xs.1.map (·.2.2))|.kt ks,v=>∃a,v=.ref a/\o.H a=some (.tup<|ks.map kV)|.loc k,v=>k<⇑o.h/\v=.ref (o.mu k)
noncomputable def Rvs (K:Zf)(o:Wo):↑W->↑V->Prop|[],vs=>vs=[]|w::l,vs=>∃v r,vs=v::r/\Rv K o w v/\Rvs K o l r
end
noncomputable def Ro (K:Zf)(o:Wo)(a:Jq):Ob->Prop|.lst l=>∃vs,o.H a=some (.lst vs)/\Rvs K o l vs|.dic ks ws=>∃kvs,o.H a=some (.dK kvs)/\kvs.map (·.1)=ks/\Rvs K o ws (kvs.map (·.2))|.dit ks ws=>∃kvs,o.H a=some (.dT kvs)/\kvs.map (·.1)=ks/\Rvs K o ws (kvs.map (·.2))|.din b ks ws=>∃xs:↑(PKy×Jq×V)×Nat,o.H a=some (.dN b xs.1 xs.2)/\xs.1.map (·.1)=ks/\(∀x∈xs.1 ,KeyN K o.H b x.2.1 x.1)/\Rvs K o ws (xs.1.map (·.2.2))|.ins c ns ws=>∃C dx fs,Jj K JP c=some (some<|.ref C)/\o.H a=some (.ins C dx fs)/\fs.map (·.1)=ns/\Rvs K o ws (fs.map (·.2))|.gone=>True
structure Rel (K:Zf)(o:Wo):Prop where
 ob:∀k b,o.h[k]?=`b->Ro K o (o.mu k) b
 inj:∀j k b c,o.h[j]?=`b->o.h[k]?=`c->b≠.gone->c≠.gone->o.mu j=o.mu k->j=k
structure Ex (o p:Wo):Prop where
 le:⇑o.h<=⇑p.h
 mu:∀k,k<⇑o.h->p.mu k=o.mu k
 fr:∀a u,o.H a=`u->¬Lv o a->p.H a=`u/\¬Lv p a
def Ex.refl (o:Wo):Ex o o:=(Fw _,λJ J=>rfl,λJ J h n=>(h,n))
theorem Ex.trans (a:Ex o p)(b:Ex p q):Ex o q:=(F1 a.le b.le,λk h=>(b.mu k<|FT h a.le).trans<|a.mu k h,λc u h n=>let (h1,n1):=a.fr c u h n;b.fr c u h1 n1)
section
variable {K:Zf}{o p:Wo}
def Lv.kind (R:Rel K o)(h:Lv o a):(∃vs ,o.H a=some (.lst vs))\/(∃kvs ,o.H a=some (.dK kvs))\/(∃C dx fs ,o.H a=some (.ins C dx fs))\/(∃kvs ,o.H a=some (.dT kvs))\/ ∃b,∃xs:↑(PKy×Jq×V)×Nat,o.H a=some (.dN b xs.1 xs.2):=by
 let(k,b,hk,hb,rfl):=h;have q:=R.ob k b hk;cases b with|lst l=>exact .inl (let (vs,e,_):=q;(vs,e))|dic ks ws=>exact .inr (.inl (let (vs,e,_):=q;(vs,e)))|ins c ns ws=>exact .inr (.inr<|.inl (let (C,dx,fs,_,e,_):=q;(C,dx,fs,e)))|dit ks ws=>exact .inr (.inr<|.inr<|.inl (let (vs,e,_):=q;(vs,e)))|din b ks ws=>exact .inr (.inr<|.inr<|.inr (let (vs,e,_):=q;(b,vs,e)))|gone=>exact absurd rfl hb
def Ex.keep (X:Ex o p)(R:Rel K o)(h:o.H a=`u)(n1:∀vs ,u≠.lst vs)(n2:∀kvs ,u≠.dK kvs)(n3:∀C dx fs ,u≠.ins C dx fs)(n4:∀kvs ,u≠.dT kvs)(n5:∀b (xs:↑(PKy×Jq×V)×Nat) ,u≠.dN b xs.1 xs.2):p.H a=`u:=by
 refine (X.fr a u h λl=>?_).1;rcases l.kind R with⟨vs,e⟩|⟨vs,e⟩|⟨C,dx,fs,e⟩|⟨vs,e⟩|⟨b,vs,e⟩
 rw[h]at e;exact n1 vs<|Option.some.inj e;rw[h]at e;exact n2 vs<|Option.some.inj e;rw[h]at e;exact n3 C dx fs<|Option.some.inj e;rw[h]at e;exact n4 vs<|Option.some.inj e;rw[h]at e;exact n5 b vs<|Option.some.inj e
def Ex.rdT (X:Ex o p)(R:Rel K o)(h:SqT K o.H a vs):SqT K p.H a vs:=by
 rcases h with (h|⟨ob,h⟩)|h
 exact .inl (.inl<|X.keep R h (λJ z=>nomatch z) (λJ z=>nomatch z) (λJ J J z=>nomatch z) (λJ z=>nomatch z) λJ J z=>nomatch z);exact .inl<|.inr (ob,X.keep R h (λJ z=>nomatch z) (λJ z=>nomatch z) (λJ J J z=>nomatch z) (λJ z=>nomatch z) λJ J z=>nomatch z);exact .inr h
def KeyN.mono (X:Ex o p)(R:Rel K o){b:Bool}(h:KeyN K o.H b c k):KeyN K p.H b c k:=by let(d,h1,h2):=h;exact(d,X.rdT R h1,X.rdT R h2)
def Ex.rd (X:Ex o p)(h:Rd o.H a u)(n:¬Lv o a):Rd p.H a u/\¬Lv p a:=by
 rcases h with h|⟨ob,h⟩
 exact(.inl (X.fr a _ h n).1,(X.fr a _ h n).2);exact(.inr (ob,(X.fr a _ h n).1),(X.fr a _ h n).2)
mutual
theorem Rv.mono (R:Rel K o)(X:Ex o p):∀ (w:W) (v:V),Rv K o w v->Rv K p w v
 |.ty n,v,h=>h
 |.exc c,v,h=>by unfold Rv at h ⊢;let(a,C,e,h1,h2):=h;exact(a,C,e,h1,X.keep R h2 (λJ z=>nomatch z) (λJ z=>nomatch z) (λJ J J z=>nomatch z) (λJ z=>nomatch z) λJ J z=>nomatch z)
 |.cls c,v,h=>by unfold Rv at h ⊢;exact h
 |.non,v,h=>h
 |.bl b,v,h=>h
 |.int i,v,h=>h
 |.str x,v,h=>h
 |.tup l,v,h=>by unfold Rv at h ⊢;let(a,vs,e,h1,h2):=h;exact(a,vs,e,X.rdT R h1,Rvs.mono R X l vs h2)
 |.tl l,v,h=>by unfold Rv at h ⊢;let(a,vs,e,h1,n,h2):=h;exact(a,vs,e,(X.fr a _ h1 n).1,(X.fr a _ h1 n).2,Rvs.mono R X l vs h2)
 |.cl l,v,h=>by
  unfold Rv at h ⊢;let(a,vs,e,h1,h2):=h;refine(a,vs,e,?_,Rvs.mono R X l vs h2);rcases h1 with⟨h1,n⟩|h1
  exact .inl<|X.rd h1 n;exact .inr h1
 |.dv ks ws,v,h=>by unfold Rv at h ⊢;let(a,vs,e,h1,n,h2,h3):=h;exact(a,vs,e,(X.rd h1 n).1,(X.rd h1 n).2,h2,Rvs.mono R X ws _ h3)
 |.dn b ks ws,v,h=>by unfold Rv at h ⊢;let(a,xs,e,h1,n,h2,hn,h3):=h;exact(a,xs,e,(X.fr a _ h1 n).1,(X.fr a _ h1 n).2,h2,λx hx=>(hn x hx).mono X R,Rvs.mono R X ws _ h3)
 |.kt ks,v,h=>by unfold Rv at h ⊢;let(a,e,h):=h;exact(a,e,X.keep R h (λJ z=>nomatch z) (λJ z=>nomatch z) (λJ J J z=>nomatch z) (λJ z=>nomatch z) λJ J z=>nomatch z)
 |.loc k,v,h=>by unfold Rv at h ⊢;exact(FT h.1 X.le,by rw[X.mu k h.1];exact h.2)
theorem Rvs.mono (R:Rel K o)(X:Ex o p):∀ (l:↑W) (vs:↑V),Rvs K o l vs->Rvs K p l vs|[],vs,h=>h|w::l,vs,h=>by unfold Rvs at h ⊢;let(v,r,e,h1,h2):=h;exact(v,r,e,Rv.mono R X w v h1,Rvs.mono R X l r h2)
end
def Rel.keep (R:Rel K o)(X:Ex o p)(e1:p.h=o.h)(e2:p.mu=o.mu)(e3:∀k b ,o.h[k]?=`b->b≠.gone->p.H (o.mu k)=o.H (o.mu k)):Rel K p:=by
 refine(λk b hk=>?_,λj k b c h1 h2=>?_)
 .rw[e1]at hk;rw[e2];have q:=R.ob k b hk;cases b with|lst l=>let(vs,h1,h2):=q;exact(vs,by rw[e3 k _ hk ⇑_];exact h1,h2.mono R X)|dic ks ws=>let(vs,h1,h2,h3):=q;exact(vs,by rw[e3 k _ hk ⇑_];exact h1,h2,h3.mono R X)|dit ks ws=>let(vs,h1,h2,h3):=q;exact(vs,by rw[e3 k _ hk ⇑_];exact h1,h2,h3.mono R X)|din b ks ws=>let(vs,h1,h2,hn,h3):=q;exact(vs,by rw[e3 k _ hk ⇑_];exact h1,h2,λx hx=>(hn x hx).mono X R,h3.mono R X)|ins c ns ws=>let(C,dx,fs,h0,h1,h2,h3):=q;exact(C,dx,fs,h0,by rw[e3 k _ hk ⇑_];exact h1,h2,h3.mono R X)|gone=>trivial
 rw[e1]at h1 h2;rw[e2];exact R.inj j k b c h1 h2
def Lv.there (R:Rel K o)(h:Lv o a):o.H a≠none:=by rcases h.kind R with⟨vs,e⟩|⟨vs,e⟩|⟨C,dx,fs,e⟩|⟨vs,e⟩|⟨b,vs,e⟩<;>(rw[e];simp)
def Ex.new (h:o.H q=none):Ex o (o.mu,o.h,upd o.H q u):=by refine(Fw _,λJ J=>rfl,λa w e n=>(?_,n));show upd o.H q u a=`w;rw[af<|bG e h];exact e
theorem Rel.new (R:Rel K o)(h:o.H q=none):Rel K (o.mu,o.h,upd o.H q u):=by
 refine R.keep (Ex.new h) rfl rfl λk b hk hb=>?_;have l:Lv o (o.mu k):=(k,b,hk,hb,rfl)
 show upd o.H q u (o.mu k)=_;rw[af λz=>l.there R<|by rw[z];exact h]
noncomputable def Wo.add (o:Wo)(q:Jq)(b:Ob)(u:HO):Wo:=(λk=>if k=⇑o.h then q else o.mu k,o.h++[b],upd o.H q u)
theorem Ex.add (h:o.H q=none):Ex o (o.add q b u):=by
 refine(by show _<=⇑(o.h++[b]);simp,λk hk=>?_,λa w e n=>(?_,λl=>?_));show (if k=⇑o.h then q else o.mu k)=_;rw[gV ∅];show upd o.H q u a=`w;rw[af<|bG e h];exact e
 .let(k,c,hk,hc,ha):=l;have ha:(if k=⇑o.h then q else o.mu k)=a:=ha;have hk:(o.h++[b])[k]?=`c:=hk;by_cases z:k=⇑o.h;rw[np z]at ha;exact absurd ha.symm (bG e h)
  .rw[gV z]at ha;have hl:k<⇑o.h:=by have:=(FD.mp hk).1;rw[FH,Hr]at this;omega
   rw[F2 hl]at hk;exact n (k,c,hk,hc,ha)
theorem Rel.add (R:Rel K o)(h:o.H q=none)(hb:Ro K (o.add q b u) q b):Rel K (o.add q b u):=by
 have X:Ex o (o.add q b u):=Ex.add h;have old:∀ {k:Nat}{c:Ob},(o.add q b u).h[k]?=`c->k≠⇑o.h->o.h[k]?=`c/\(o.add q b u).mu k=o.mu k:=λ{k c} hk z=>by
  have hk:(o.h++[b])[k]?=`c:=hk;have hl:k<⇑o.h:=by have:=(FD.mp hk).1;rw[FH,Hr]at this;omega
  rw[F2 hl]at hk;exact(hk,X.mu k hl)
 have new:∀ {k:Nat}{c:Ob},(o.add q b u).h[k]?=`c->k=⇑o.h->c=b/\(o.add q b u).mu k=q:=λ{k c} hk z=>by subst z;have hk:(o.h++[b])[⇑o.h]?=`c:=hk;rw[Gz<|Fw _,Nat.sub_self]at hk;exact((Option.some.inj hk).symm,np rfl)
 have ne:∀ {k:Nat}{c:Ob},o.h[k]?=`c->c≠.gone->o.mu k≠q:=λ{k c} hk hc z=>Lv.there R (k,c,hk,hc,rfl) (by rw[z];exact h);refine(λk c hk=>?_,λj k c d h1 h2 n1 n2 e=>?_)
 .by_cases z:k=⇑o.h;let(rfl,e):=new hk z;rw[e];exact hb
  .let(hk,e):=old hk z;rw[e];have r:=R.ob k c hk;have st:∀ {w:HO},c≠.gone->o.H (o.mu k)=`w->(o.add q b u).H (o.mu k)=`w:=λ{w} hc e=>by show upd o.H q u (o.mu k)=`w;rw[af<|ne hk hc];exact e
   cases c with|lst l=>let(vs,h1,h2):=r;exact(vs,st ⇑_ h1,h2.mono R X)|dic ks ws=>let(vs,h1,h2,h3):=r;exact(vs,st ⇑_ h1,h2,h3.mono R X)|dit ks ws=>let(vs,h1,h2,h3):=r;exact(vs,st ⇑_ h1,h2,h3.mono R X)|din b ks ws=>let(vs,h1,h2,hn,h3):=r;exact(vs,st ⇑_ h1,h2,λx hx=>(hn x hx).mono X R,h3.mono R X)|ins c ns ws=>let(C,dx,fs,h0,h1,h2,h3):=r;exact(C,dx,fs,h0,st ⇑_ h1,h2,h3.mono R X)|gone=>trivial
 .by_cases z1:j=⇑o.h
  .by_cases z2:k=⇑o.h;omega;let(_,e1):=new h1 z1;let(hk,e2):=old h2 z2;rw[e1,e2]at e;exact absurd e.symm<|ne hk n2
  .let(hj,e1):=old h1 z1;by_cases z2:k=⇑o.h;let(_,e2):=new h2 z2;rw[e1,e2]at e;exact absurd e<|ne hj n1;let(hk,e2):=old h2 z2;rw[e1,e2]at e;exact R.inj j k c d hj hk n1 n2 e
def Rel.addL (R:Rel K o)(h:o.H q=none)(hl:Rvs K o l vs):Rel K (o.add q (.lst l)<|.lst vs):=R.add h (vs,aB,hl.mono R<|Ex.add h)
def Rel.addD (R:Rel K o)(h:o.H q=none)(hk:kvs.map (·.1)=ks)(hl:Rvs K o ws (kvs.map (·.2))):Rel K (o.add q (.dic ks ws)<|.dK kvs):=R.add h (kvs,aB,hk,hl.mono R<|Ex.add h)
def Rel.addT (R:Rel K o)(h:o.H q=none)(hk:kvs.map (·.1)=ks)(hl:Rvs K o ws (kvs.map (·.2))):Rel K (o.add q (.dit ks ws)<|.dT kvs):=R.add h (kvs,aB,hk,hl.mono R<|Ex.add h)
noncomputable def Wo.put (o:Wo)(k:Nat)(b:Ob)(u:HO):Wo:=(o.mu,o.h.set k b,upd o.H (o.mu k) u)
theorem Lv.put {k:Nat}(hk:o.h[k]?=`c)(hc:c≠.gone)(h:Lv (o.put k b u) a):Lv o a:=by
 let(j,d,hj,hd,rfl):=h;have hj:(o.h.set k b)[j]?=`d:=hj;by_cases z:j=k;subst z;exact(j,c,hk,hc,rfl);rw[FG<|Ne.symm z]at hj;exact(j,d,hj,hd,rfl)
theorem Ex.put {k:Nat}(hk:o.h[k]?=`c)(hc:c≠.gone):Ex o (o.put k b u):=by refine(by show _<=⇑(o.h.set k b);simp,λJ J=>rfl,λa w e n=>(?_,λl=>n<|l.put hk hc));show upd o.H (o.mu k) u a=`w;rw[af λz=>n (k,c,hk,hc,z.symm)];exact e
theorem Rel.put (R:Rel K o){k:Nat}(hk:o.h[k]?=`c)(hc:c≠.gone)(hb:Ro K (o.put k b u) (o.mu k) b):Rel K (o.put k b u):=by
 have X:Ex o (o.put k b u):=Ex.put hk hc;have old:∀ {j:Nat}{d:Ob},(o.put k b u).h[j]?=`d->j≠k->o.h[j]?=`d:=λ{j d} hj z=>by have hj:(o.h.set k b)[j]?=`d:=hj;rw[FG<|Ne.symm z]at hj;exact hj
 refine(λj d hj=>?_,λi j d e h1 h2 n1 n2 q=>?_)
 .by_cases z:j=k;subst z;have hl:=(FD.mp hk).1;have hj:(o.h.set j b)[j]?=`d:=hj;rw[GJ hl]at hj;cases hj;exact hb
  .have hj:=old hj z;have r:=R.ob j d hj;have st:∀ {w:HO},d≠.gone->o.H (o.mu j)=`w->(o.put k b u).H (o.mu j)=`w:=λ{w} hd e=>by show upd o.H (o.mu k) u (o.mu j)=`w;rw[af λq=>z<|R.inj j k d c hj hk hd hc q];exact e
   cases d with|lst l=>let(vs,h1,h2):=r;exact(vs,st ⇑_ h1,h2.mono R X)|dic ks ws=>let(vs,h1,h2,h3):=r;exact(vs,st ⇑_ h1,h2,h3.mono R X)|dit ks ws=>let(vs,h1,h2,h3):=r;exact(vs,st ⇑_ h1,h2,h3.mono R X)|din b ks ws=>let(vs,h1,h2,hn,h3):=r;exact(vs,st ⇑_ h1,h2,λx hx=>(hn x hx).mono X R,h3.mono R X)|ins c ns ws=>let(C,dx,fs,h0,h1,h2,h3):=r;exact(C,dx,fs,h0,st ⇑_ h1,h2,h3.mono R X)|gone=>trivial
 .have ex:∀ {j:Nat}{d:Ob},(o.put k b u).h[j]?=`d->d≠.gone->∃d',o.h[j]?=`d'/\d'≠.gone:=λ{j d} hj n=>by
   by_cases z:j=k;subst z;exact(c,hk,hc);exact(d,old hj z,n)
  let(d',h1',n1'):=ex h1 n1;let(e',h2',n2'):=ex h2 n2;exact R.inj i j d' e' h1' h2' n1' n2' q
def Rel.putL (R:Rel K o){k:Nat}(hk:o.h[k]?=`c)(hc:c≠.gone)(hl:Rvs K o l vs):Rel K (o.put k (.lst l)<|.lst vs):=R.put hk hc (vs,aB,hl.mono R<|Ex.put hk hc)
def Rel.putD (R:Rel K o){k:Nat}(hk:o.h[k]?=`c)(hc:c≠.gone)(h1:kvs.map (·.1)=ks)(hl:Rvs K o ws (kvs.map (·.2))):Rel K (o.put k (.dic ks ws)<|.dK kvs):=R.put hk hc (kvs,aB,h1,hl.mono R<|Ex.put hk hc)
def Rel.putT (R:Rel K o){k:Nat}(hk:o.h[k]?=`c)(hc:c≠.gone)(h1:kvs.map (·.1)=ks)(hl:Rvs K o ws (kvs.map (·.2))):Rel K (o.put k (.dit ks ws)<|.dT kvs):=R.put hk hc (kvs,aB,h1,hl.mono R<|Ex.put hk hc)
def Rel.putN (R:Rel K o){k:Nat}{b:Bool}{ep:Nat}(hk:o.h[k]?=`c)(hc:c≠.gone)(h1:xs.map (·.1)=ks)(hn:∀x∈xs ,KeyN K o.H b x.2.1 x.1)(hl:Rvs K o ws (xs.map (·.2.2))):Rel K (o.put k (.din b ks ws)<|.dN b xs ep):=R.put hk hc ((xs ,ep),aB,h1,λx hx=>(hn x hx).mono (Ex.put hk hc) R,hl.mono R<|Ex.put hk hc)
noncomputable def Wo.ice (o:Wo)(k:Nat):Wo:=(o.mu,o.h.set k .gone,o.H)
theorem Lv.ice {k:Nat}(h:Lv (o.ice k) a):∃j b,j≠k/\o.h[j]?=`b/\b≠.gone/\o.mu j=a:=by
 let(j,d,hj,hd,e):=h;have hj:(o.h.set k .gone)[j]?=`d:=hj;by_cases z:j=k;subst z;have hl:=(FD.mp hj).1;rw[F3]at hl;rw[GJ hl]at hj;cases hj;exact absurd rfl hd;rw[FG<|Ne.symm z]at hj;exact(j,d,z,hj,hd,e)
theorem Ex.ice {k:Nat}:Ex o (o.ice k):=by refine(by show _<=⇑(o.h.set k .gone);simp,λJ J=>rfl,λa w e n=>(e,λl=>?_));let(j,b,_,h1,h2,h3):=l.ice;exact n (j,b,h1,h2,h3)
theorem Rel.ice (R:Rel K o){k:Nat}:Rel K (o.ice k):=by
 have X:Ex o (o.ice k):=Ex.ice;have old:∀ {j:Nat}{d:Ob},(o.ice k).h[j]?=`d->d≠.gone->o.h[j]?=`d:=λ{j d} hj n=>by
  have hj:(o.h.set k .gone)[j]?=`d:=hj;by_cases z:j=k;subst z;have hl:=(FD.mp hj).1;rw[F3]at hl;rw[GJ hl]at hj;cases hj;exact absurd rfl n;rw[FG<|Ne.symm z]at hj;exact hj
 refine(λj d hj=>?_,λi j d e h1 h2 n1 n2 q=>R.inj i j d e (old h1 n1) (old h2 n2) n1 n2 q);cases d with|lst l=>let(vs,h1,h2):=R.ob j _<|old hj ⇑_;exact(vs,h1,h2.mono R X)|dic ks ws=>let(vs,h1,h2,h3):=R.ob j _<|old hj ⇑_;exact(vs,h1,h2,h3.mono R X)|dit ks ws=>let(vs,h1,h2,h3):=R.ob j _<|old hj ⇑_;exact(vs,h1,h2,h3.mono R X)|din b ks ws=>let(vs,h1,h2,hn,h3):=R.ob j _<|old hj ⇑_;exact(vs,h1,h2,λx hx=>(hn x hx).mono X R,h3.mono R X)|ins c ns ws=>let(C,dx,fs,h0,h1,h2,h3):=R.ob j _<|old hj ⇑_;exact(C,dx,fs,h0,h1,h2,h3.mono R X)|gone=>trivial
def Rv.iceL (R:Rel K o){k:Nat}(hk:o.h[k]?=some (.lst l)):Rv K (o.ice k) (.tl l) (.ref<|o.mu k):=by let(vs,h1,h2):=R.ob k _ hk;unfold Rv;refine(_,vs,rfl,h1,λz=>?_,h2.mono R Ex.ice);let(j,b,n,q1,q2,q3):=z.ice;exact n<|R.inj j k b _ q1 hk q2 ⇑_ q3
def Rv.iceD (R:Rel K o){k:Nat}(hk:o.h[k]?=some (.dic ks ws)):Rv K (o.ice k) (.dv ks ws) (.ref<|o.mu k):=by let(vs,h1,h0,h2):=R.ob k _ hk;unfold Rv;refine(_,vs,rfl,.inl h1,λz=>?_,h0,h2.mono R Ex.ice);let(j,b,n,q1,q2,q3):=z.ice;exact n<|R.inj j k b _ q1 hk q2 ⇑_ q3
def Rv.iceN (R:Rel K o){k:Nat}{b:Bool}(hk:o.h[k]?=some (.din b ks ws)):Rv K (o.ice k) (.dn b ks ws) (.ref<|o.mu k):=by let(vs,h1,h0,hn,h2):=R.ob k _ hk;unfold Rv;refine(_,vs,rfl,h1,λz=>?_,h0,λx hx=>(hn x hx).mono Ex.ice R,h2.mono R Ex.ice);let(j,b,n,q1,q2,q3):=z.ice;exact n<|R.inj j k b _ q1 hk q2 ⇑_ q3
theorem Rvs.len:∀ {l:↑W}{vs:↑V},Rvs K o l vs->⇑vs=⇑l|[],_,h=>by unfold Rvs at h;rw[h];rfl|w::l,_,h=>by unfold Rvs at h;let(v,r,rfl,_,h2):=h;rw[FA,FA,Rvs.len h2]
theorem Rvs.get:∀ {l:↑W}{vs:↑V}{i:Nat}{w:W},Rvs K o l vs->l[i]?=`w->∃v,vs[i]?=`v/\Rv K o w v|[],_,_,_,_,e=>by simp at e|x::l,_,0,w,h,e=>by unfold Rvs at h;let(v,r,rfl,h1,h2):=h;cases e;exact(v,rfl,h1)|x::l,_,i+1,w,h,e=>by unfold Rvs at h;let(v,r,rfl,h1,h2):=h;let(u,q1,q2):=Rvs.get (l:=l) (i:=i) (w:=w) h2 (by simpa using e);exact(u,by simpa using q1,q2)
def Rvs.nil:Rvs K o [] []:=by unfold Rvs;rfl
def Rvs.cons {w:W}{v:V}{l:↑W}{vs:↑V}(h:Rv K o w v)(t:Rvs K o l vs):Rvs K o (w::l) (v::vs):=by unfold Rvs;exact(v,vs,rfl,h,t)
theorem Rvs.app:∀ {l m:↑W}{vs us:↑V},Rvs K o l vs->Rvs K o m us->Rvs K o (l++m) (vs++us)|[],_,_,_,h,t=>by unfold Rvs at h;rw[h];exact t|w::l,m,_,us,h,t=>by unfold Rvs at h;let(v,r,rfl,h1,h2):=h;exact Rvs.cons h1<|Rvs.app h2 t
theorem Rvs.take:∀ {l:↑W}{vs:↑V} (n:Nat),Rvs K o l vs->Rvs K o (l.take n) (vs.take n)|[],_,n,h=>by unfold Rvs at h;rw[h,List.take_nil,List.take_nil];exact Rvs.nil|w::l,_,0,h=>by rw[GO,GO];exact Rvs.nil|w::l,_,n+1,h=>by unfold Rvs at h;let(v,r,rfl,h1,h2):=h;exact Rvs.cons h1<|Rvs.take n h2
theorem Rvs.drop:∀ {l:↑W}{vs:↑V} (n:Nat),Rvs K o l vs->Rvs K o (l.drop n) (vs.drop n)|[],_,n,h=>by unfold Rvs at h;rw[h,List.drop_nil,List.drop_nil];exact Rvs.nil|w::l,_,0,h=>h|w::l,_,n+1,h=>by unfold Rvs at h;let(v,r,rfl,h1,h2):=h;exact Rvs.drop n h2
theorem Rvs.set (hx:Rv K o x y):∀ {l:↑W}{vs:↑V} (i:Nat),Rvs K o l vs->Rvs K o (l.set i x) (vs.set i y)|[],_,n,h=>by unfold Rvs at h;rw[h];exact Rvs.nil|w::l,_,0,h=>by unfold Rvs at h;let(v,r,rfl,h1,h2):=h;exact Rvs.cons hx h2|w::l,_,n+1,h=>by unfold Rvs at h;let(v,r,rfl,h1,h2):=h;exact Rvs.cons h1<|Rvs.set hx n h2
abbrev KU:=List<|Option W
noncomputable def RvO (K:Zf)(o:Wo):Option W->Option V->Prop|some w,s=>∃v,s=`v/\Rv K o w v|none,s=>s=none
noncomputable def Re (K:Zf)(o:Wo):KU->St->Prop|[],s=>s=[]|w::r,s=>∃x t,s=x::t/\RvO K o w x/\Re K o r t
theorem RvO.mono (R:Rel K o)(X:Ex o p):∀ {w:Option W}{s:Option V},RvO K o w s->RvO K p w s
 |some w,_,(v,e,h)=>(v,e,h.mono R X)
 |none,_,h=>h
theorem Re.mono (R:Rel K o)(X:Ex o p):∀ {r:KU}{s:St},Re K o r s->Re K p r s
 |[],_,h=>h
 |w::r,_,(x,t,e,h1,h2)=>(x,t,e,h1.mono R X,Re.mono R X h2)
theorem Re.get:∀ {r:KU}{s:St}{i:Nat}{w:W},Re K o r s->r[i]?=some `w->∃v,s[i]?=some `v/\Rv K o w v|[],_,_,_,_,e=>by simp at e|x::r,_,0,w,(y,t,rfl,h1,h2),e=>by cases e;let(v,rfl,q):=h1;exact(v,rfl,q)|x::r,_,i+1,w,(y,t,rfl,h1,h2),e=>by let(u,q1,q2):=Re.get (r:=r) (i:=i) (w:=w) h2 (by simpa using e);exact(u,by simpa using q1,q2)
theorem Re.set {w:W}(q:Rv K o w v):∀ {r:KU}{s:St} (i:Nat),Re K o r s->Re K o (r.set i<|some w) (s.set i<|some v)
 |[],_,_,h=>by rw[show _=[] from h];rfl
 |x::r,_,0,(y,t,rfl,h1,h2)=>(_,_,rfl,(v,rfl,q),h2)
 |x::r,_,i+1,(y,t,rfl,h1,h2)=>(_,_,rfl,h1,Re.set q i h2)
theorem Re.front:∀ {r:KU}{s:St} (n:Nat),Re K o r s->Re K o (List.replicate n none++r) (List.replicate n none++s)
 |_,_,0,h=>h
 |_,_,n+1,h=>(none,_,rfl,rfl,Re.front n h)
theorem Re.args:∀ {ws:↑W}{vs:↑V} (n:Nat),Rvs K o ws vs->Re K o (ws.map some++List.replicate n none) (vs.map some++List.replicate n none)
 |[],_,n,h=>by
  unfold Rvs at h;rw[h]
  induction n with|zero=>rfl|succ n ih=>exact(none,_,rfl,rfl,ih)
 |w::l,_,n,h=>by unfold Rvs at h;let(v,r,rfl,h1,h2):=h;exact(_,_,rfl,(v,rfl,h1),Re.args n h2)
end
inductive Rs (α:Type) where|ok (a:α)(h:↑Ob)|ex (c:Str)(h:↑Ob)|bad
abbrev M (α:Type):=↑Ob->Rs α
noncomputable def bd {α β:Type}(f:M α)(g:α->M β):M β:=λh=>match f h with|.ok a h'=>g a h'|.ex c h'=>.ex c h'|.bad=>.bad
noncomputable def pr {α:Type}(a:α):M α:=λh=>.ok a h
noncomputable def no {α:Type}:M α:=λJ=>.bad
noncomputable def gd {α:Type}(p:Prop) [Decidable p] (m:M α):M α:=λh=>if p then m h else .bad
structure Cg where
 K:Zf
 mg:Str->Option Jk
 E:XK
def Ps {α β:Type}(c:Cg)(r:Wo->α->β->Prop)(o:Wo)(R:Rs α)(Q:β->Hp->Prop):Prop:=match R with|.ok a h'=>∀p b,p.h=h'->Ex o p->Rel c.K p->r p a b->Q b p.H|.ex x h'=>∃u,c.mg x=`u/\∀p,p.h=h'->Ex o p->Rel c.K p->c.E u none p.H|.bad=>False
def tG {α β:Type}(c:Cg)(r:Wo->α->β->Prop)(f:KU->M α)(σ:St)(H:Hp)(Q:β->Hp->Prop):Prop:=∃o ρ,o.H=H/\Rel c.K o/\Re c.K o ρ σ/\Ps c r o (f ρ o.h) Q
abbrev tM (c:Cg)(f:KU->M W):TE:=tG c (Rv c.K) f
abbrev tT (c:Cg)(f:KU->M Bool):TT:=tG c (λJ a b=>a=b) f
abbrev tA (c:Cg)(f:KU->M ↑W):TA:=tG c (Rvs c.K) f
section
variable {c:Cg}{o p:Wo}{α β γ δ:Type}{r:Wo->α->β->Prop}{r2:Wo->γ->δ->Prop}
def Ps.after {R:Rs α}{Q:β->Hp->Prop}(X:Ex o p)(h:Ps c r o R Q):Ps c r p R Q:=by
 cases R with|ok a h'=>exact λq b e X2 Rq rq=>h q b e (X.trans X2) Rq rq|ex x h'=>let(u,hu,h):=h;exact(u,hu,λq e X2 Rq=>h q e (X.trans X2) Rq)|bad=>exact h
theorem Ps.bd {f:M α}{g:α->M γ}{Q:δ->Hp->Prop}{N:β->Hp->Prop}(h:Ps c r2 o (bd f g o.h) Q)(k:∀p a b ,Ex o p->Rel c.K p->r p a b->Ps c r2 p (g a p.h) Q->N b p.H):Ps c r o (f o.h) N:=by
 unfold L2.bd at h;cases e:f o.h with
 |ok a h'=>
  rw[e]at h;intro p b hp X R rb;subst hp;exact k p a b X R rb<|h.after X
 |ex x h'=>
  rw[e]at h;exact h
 |bad=>
  rw[e]at h;exact h
theorem Ps.pr {a:α}{Q:β->Hp->Prop}{b:β}(h:Ps c r o (pr a o.h) Q)(R:Rel c.K o)(hb:r o a b):Q b o.H:=h o b rfl (Ex.refl _) R hb
def Ps.at {a:α}{Q:β->Hp->Prop}{b:β}(h:Ps c r o (.ok a h') Q)(e:p.h=h')(X:Ex o p)(R:Rel c.K p)(hb:r p a b):Q b p.H:=h p b e X R hb
theorem Ps.gd {P:Prop} [Decidable P] {m:M α}{Q:β->Hp->Prop}(h:Ps c r o (gd P m o.h) Q):P/\Ps c r o (m o.h) Q:=by
 unfold L2.gd at h;by_cases q:P;rw[np q]at h;exact(q,h);rw[gV q]at h;exact h.elim
end
end
section
abbrev cg (X:Cx)(E:XK):Cg:=(X.K,X.mg,E)
noncomputable def tF (c:Cg)(f:KU->M ↑W):TE:=λσ H Q=>tG c (Rvs c.K) f σ H λvs H1=>∀q,H1 q=none->Q (.ref q) (upd H1 q<|.lst vs)
structure JE (X:Cx)(E:XK)(e:Expr)(f:KU->M W):Prop where
 h:PE X e (tM (cg X E) f)
structure JT (X:Cx)(E:XK)(e:Expr)(f:KU->M Bool):Prop where
 h:PT X e (tT (cg X E) f)
structure JW (X:Cx)(E:XK)(e:Expr)(f:KU->M Bool):Prop where
 h:PW X e (tT (cg X E) f)
structure JA (X:Cx)(E:XK)(es:↑Expr)(f:KU->M ↑W):Prop where
 h:PA X es (tA (cg X E) f)
structure JF (X:Cx)(E:XK)(e:Expr)(f:KU->M ↑W):Prop where
 h:PE X e (tF (cg X E) f)
def PE.imp {f:KU->M W}(h:PE X e t)(k:∀σ H Q ,tM (cg X E) f σ H Q->t σ H Q):JE X E e f:=⟨λP4 s σ H Q I q=>h P4 s σ H Q I<|k σ H Q q⟩
def PE.impF {f:KU->M ↑W}(h:PE X e t)(k:∀σ H Q ,tF (cg X E) f σ H Q->t σ H Q):JF X E e f:=⟨λP4 s σ H Q I q=>h P4 s σ H Q I<|k σ H Q q⟩
def PT.imp {f:KU->M Bool}(h:PT X e t)(k:∀σ H Q ,tT (cg X E) f σ H Q->t σ H Q):JT X E e f:=⟨λP4 s σ H Q I q=>h P4 s σ H Q I<|k σ H Q q⟩
def PW.imp {f:KU->M Bool}(h:PW X e t)(k:∀σ H Q ,tT (cg X E) f σ H Q->t σ H Q):JW X E e f:=⟨λw P4 s σ H Q I q=>h w P4 s σ H Q I<|k σ H Q q⟩
def PA.imp {f:KU->M ↑W}(h:PA X e t)(k:∀σ H Q ,tA (cg X E) f σ H Q->t σ H Q):JA X E e f:=⟨λpos P4 s σ H Q I q=>h pos P4 s σ H Q I<|k σ H Q q⟩
def Es {f:KU->M Bool}(q:JW X E e f):JT X E e f:=⟨(q.h).pt⟩
section
variable {X:Cx}{E:XK}
noncomputable def Ny (i:Nat):KU->M W:=λρ=>match ρ[i]? with|some (some w)=>pr w|_=>no
noncomputable def mC (w:W):KU->M W:=λJ=>pr w
def AF {i:Nat}(h:tM (cg X E) (Ny i) σ H Q):Px i σ H Q:=by
 let(o,ρ,rfl,R,S,h):=h;unfold Ny at h;cases e:ρ[i]? with
 |none=>rw[e]at h;exact h.elim
 |some x=>
  cases x with
  |none=>rw[e]at h;exact h.elim
  |some w=>
   rw[e]at h;let(v,e1,r):=S.get e;exact(v,e1,h.pr R r)
def wb (i:Nat){x:Str}(hN:X.N[i]?=`x:=by rfl)(hv:Vis X.env.scope x:=by trace_state)(hd:(x==("__debug__":Str))=false:=by decide)
 (hcd:(x==("__classdict__":Str))=false:=by decide):JE X E (.Name x pos) (Ny i):=(pv i hN hv hd hcd).imp λJ J J h=>AF h
def r9 {w:W}(hr:∀o ,Rv X.K o w v)(h:tM (cg X E) (mC w) σ H Q):tC v σ H Q:=by let(o,ρ,rfl,R,S,h):=h;exact Ps.pr (c:=cg X E) h R<|hr o
def Ck {i j pos}:JE X E (.Constant (.int i) j pos) (mC<|.int i):=N8.imp λJ J J h=>r9 (λo=>by unfold Rv;rfl) h
def Er {i j pos}:JE X E (.Constant (.bool i) j pos) (mC<|.bl i):=pe_bl.imp λJ J J h=>r9 (λo=>by unfold Rv;rfl) h
def B6 {i j pos}:JE X E (.Constant (.str i) j pos) (mC<|.str i):=Oa.imp λJ J J h=>r9 (λo=>by unfold Rv;rfl) h
def B9 {j pos}:JE X E (.Constant .none j pos) (mC .non):=N9.imp λJ J J h=>r9 (λo=>by unfold Rv;rfl) h
def iz {x:Str}{w:W}(hg:Gl X x)(hm:X.mg x=`u)(r:RelV v u)(hr:∀o ,Rv X.K o w v)(hd:(x==("__debug__":Str))=false:=by decide):JE X E (.Name x pos) (mC w):=
 (yA hg hm r hd).imp λJ J J h=>r9 hr h
noncomputable def m2 (f:W->W->M W)(fa fb:KU->M W):KU->M W:=λρ=>bd (fa ρ) λx=>bd (fb ρ) λy=>f x y
def OpM (X:Cx)(E:XK)(r:R2)(f:W->W->M W):Prop:=∀ (o:Wo) (x y:W) (vx vy:V) (Q:VK),Rel X.K o->Rv X.K o x vx->Rv X.K o y vy->Ps (cg X E) (Rv X.K) o (f x y o.h) Q->r vx vy o.H Q
def ux {f:W->W->M W}(hf:OpM X E r f){fa fb:KU->M W}(h:tM (cg X E) (m2 f fa fb) σ H Q):tOp r (tM (cg X E) fa) (tM (cg X E) fb) σ H Q:=by let(o,ρ,rfl,R,S,h):=h;exact(o,ρ,rfl,R,S,Ps.bd h λp x vx e1 R1 r1 h1=>(p,ρ,rfl,R1,S.mono R e1,Ps.bd h1 λq y vy e2 R2 r2 h2=>hf q x y vx vy Q R2 (r1.mono R1 e2) r2 h2))
def jw {f:W->W->M W}{fa fb:KU->M W}(ho:OpR X (Kh op) r)(hf:OpM X E r f)(ha:JE X E a fa)(hb:JE X E b fb):
 JE X E (.BinOp a op b pos) (m2 f fa fb):=(Ag ho ha.h hb.h).imp λJ J J h=>ux hf h
def Co {f:W->W->M W}{fa fb:KU->M W}(ho:OpR X (J4 op) r)(hf:OpM X E r f)(ha:JE X E a fa)(hb:JE X E b fb)(hm:J5 op b=false):
 JE X E (.Compare a [op] [b] pos) (m2 f fa fb):=(yC ho ha.h hb.h hm).imp λJ J J h=>ux hf h
noncomputable def asB (w:W):M Bool:=match w with|.bl b=>pr b|_=>no
noncomputable def mB (f:KU->M W):KU->M Bool:=λρ=>bd (f ρ) asB
set_option tactic.hygienic true in
def Dn {f:KU->M W}{Q:Bool->Hp->Prop}(h:tT (cg X E) (mB f) σ H Q):tM (cg X E) f σ H λx H'=>∃k,x=.bl k/\Q k H':=by
 ac_nf;unfold asB at h1;split at h1;rename_i b;unfold Rv at r1;exact(b,r1,h1.pr R1 rfl);exact h1.elim
def BN {f:W->W->M W}{fa fb:KU->M W}(ho:OpR X (J4 op) r)(hf:OpM X E r f)(ha:JE X E a fa)(hb:JE X E b fb)(hm:J5 op b=false):
 JT X E (.Compare a [op] [b] pos) (mB<|m2 f fa fb):=(yk ho ha.h hb.h hm).imp λJ J J h=>ux hf<|Dn h
def BL {f:KU->M W}(h:JE X E e f)(he:∀whole ,isTrue e X.env whole=(do let v<-whole;J6 e.pos;J7 [v] (truthy v))):JT X E e (mB f):=
 (A0 h.h he).imp λJ J J h=>Dn h
noncomputable def mOr (f g:KU->M Bool):KU->M Bool:=λρ=>bd (f ρ) λb=>if b=true then pr true else g ρ
noncomputable def Nr (f:KU->M Bool):KU->M Bool:=λρ=>bd (f ρ) λb=>pr<|!b
variable {a b:Expr}{rest:↑Expr}{pos:JY}{f g:KU->M Bool}
def Dl {Q:Bool->Hp->Prop}(h:tT (cg X E) (mOr f g) σ H Q):tOr (tT (cg X E) f) (tT (cg X E) g) σ H Q:=by
 ac_nf;subst r1;cases x with|false=>exact ME (p,ρ,rfl,R1,S.mono R e1,h1)|true=>exact MF<|h1.pr R1 rfl
def BM (ha:JT X E a f):JT X E (.UnaryOp .Not a pos) (Nr f):=(A1 ha.h).imp λσ H Q h=>by ac_nf;subst r1;exact h1.pr R1 rfl
def BJ (ha:JT X E a f):JW X E (.BoolOp .Or [a] pos) f:=⟨AY ha.h⟩
def Al (ha:JT X E a f)(hb:JW X E (.BoolOp .Or (b::rest) pos) g):JW X E (.BoolOp .Or (a::b::rest) pos) (mOr f g):=(DC ha.h hb.h).imp λJ J J h=>Dl h
noncomputable def Nc (f g:KU->M W):KU->M W:=λρ=>bd (f ρ) λw=>bd (asB w) λb=>if b=true then g ρ else pr (.bl false)
def Df {α β:Type}{r:Wo->α->β->Prop}{w:W}{k:Bool->M α}{Q:β->Hp->Prop}(hr:Rv X.K o w v)(h:Ps (cg X E) r o (bd (asB w) k o.h) Q):∃b,w=.bl b/\v=.bl b/\Ps (cg X E) r o (k b o.h) Q:=by
 cases w with|bl b=>unfold Rv at hr;exact(b,rfl,hr,h)|_=>exact h.elim
variable {u v:KU->M W}
def B8 {op}(h:JE X E a u):JE X E (.BoolOp op [a] pos) u:=⟨Bc h.h⟩
def Ct (ha:JE X E a u)(hb:JE X E (.BoolOp .And (b::rest) pos) v):JE X E (.BoolOp .And (a::b::rest) pos) (Nc u v):=(Bf ha.h hb.h).imp λσ H Q h=>by
 ac_nf;let(k,rfl,rfl,h2):=Df r1 h1;refine(k,rfl,?_);cases k with|true=>exact MF (p,ρ,rfl,R1,S.mono R e1,h2)|false=>exact ME (h2.pr R1<|by unfold Rv;rfl)
noncomputable def mIf (f:KU->M Bool)(u v:KU->M W):KU->M W:=λρ=>bd (f ρ) λb=>if b=true then u ρ else v ρ
def wf (hc:JT X E c f)(ha:JE X E a u)(hb:JE X E b v):JE X E (.IfExp c a b pos) (mIf f u v):=(vA hc.h ha.h hb.h).imp λσ H Q h=>by
 ac_nf;subst r1;cases x with|true=>exact MF (p,ρ,rfl,R1,S.mono R e1,h1)|false=>exact ME (p,ρ,rfl,R1,S.mono R e1,h1)
noncomputable def m1 (f:W->M W)(fa:KU->M W):KU->M W:=λρ=>bd (fa ρ) f
noncomputable def NE (w:W):M W:=match w with|.int i=>pr (.int<|-i)|_=>no
def Ca (ha:JE X E a u):JE X E (.UnaryOp .USub a pos) (m1 NE u):=(DD Ax ha.h).imp λσ H Q h=>by
 ac_nf;unfold NE at h1;split at h1;unfold Rv at r1;exact(_,r1,h1.pr R1<|by unfold Rv;rfl);exact h1.elim
noncomputable def Nq:KU->M ↑W:=λJ=>pr []
noncomputable def Ni (fa:KU->M W)(fr:KU->M ↑W):KU->M ↑W:=λρ=>bd (fa ρ) λx=>bd (fr ρ) λl=>pr (x::l)
variable {es:↑Expr}{l:KU->M ↑W}{e:Expr}
def Cy:JA X E [] Nq:=NV.imp λσ H Q h=>by let(o,ρ,rfl,R,S,h):=h;exact h.pr R Rvs.nil
def zo (ha:JE X E e u)(hr:JA X E es l)(hs:J1 (e::es) X.env=(false ,JX e X.env)::J1 es X.env:=by rfl):JA X E (e::es) (Ni u l):=(yF ha.h hr.h hs).imp λσ H Q h=>by let(o,ρ,rfl,R,S,h):=h;exact(o,ρ,rfl,R,S,Ps.bd h λp x vx e1 R1 r1 h1=>(p,ρ,rfl,R1,S.mono R e1,Ps.bd h1 λq y vy e2 R2 r2 h2=>h2.pr R2<|Rvs.cons (r1.mono R1 e2) r2))
noncomputable def PF (l:↑W):M W:=gd (⇑l<=sizeLine)<|pr<|.tup l
noncomputable def Nx (l:KU->M ↑W):KU->M W:=λρ=>bd (l ρ) PF
def Rv.newT {K:Zf}{o:Wo}(R:Rel K o){q:Jq}{l:↑W}{vs:↑V}(h:o.H q=none)(hl:Rvs K o l vs):Rv K (o.mu,o.h,upd o.H q<|.tup vs) (.tup l) (.ref q):=by unfold Rv;exact(q,vs,rfl,.of aB,hl.mono R<|Ex.new h)
def Rv.newL {K:Zf}{o:Wo}(R:Rel K o){q:Jq}{l:↑W}{vs:↑V}(h:o.H q=none)(hl:Rvs K o l vs):Rv K (o.mu,o.h,upd o.H q<|.lst vs) (.tl l) (.ref q):=by unfold Rv;exact(q,vs,rfl,aB,λz=>Lv.there R (show Lv o q from z) h,hl.mono R<|Ex.new h)
def B3 {x1}(h:JA X E es l):JE X E (.Tuple es x1 pos) (Nx l):=(vt h.h).imp λσ H Q h=>by ac_nf;let(hz,h1):=h1.gd;exact(by rw[r1.len];exact hz,λq hq=>Ps.at (p:=(p.mu,p.h,upd p.H q<|.tup vx)) h1 rfl (Ex.new hq) (R1.new hq)<|Rv.newT R1 hq r1)
noncomputable def mTl (l:KU->M ↑W):KU->M W:=λρ=>bd (l ρ) λx=>pr<|.tl x
noncomputable def newW (x:↑W):M W:=λh=>.ok (.loc ⇑h)<|h++[.lst x]
noncomputable def Np (l:KU->M ↑W):KU->M W:=λρ=>bd (l ρ) newW
def wd (h:JF X E e l):JE X E e (mTl l):=h.h.imp λσ H Q h=>by let(o,ρ,rfl,R,S,h):=h;exact(o,ρ,rfl,R,S,Ps.bd h λp x vx e1 R1 r1 h1=>λq hq=>Ps.at (p:=(p.mu,p.h,upd p.H q<|.lst vx)) h1 rfl (Ex.new hq) (R1.new hq)<|Rv.newL R1 hq r1)
def pz (h:JF X E e l):JE X E e (Np l):=h.h.imp λσ H Q h=>by let(o,ρ,rfl,R,S,h):=h;refine(o,ρ,rfl,R,S,Ps.bd h λp x vx e1 R1 r1 h1=>λq hq=>?_);refine Ps.at (p:=p.add q (.lst x)<|.lst vx) h1 rfl (Ex.add hq) (R1.addL hq r1) ?_;unfold Rv;exact(by show _<⇑(p.h++[_]);simp,by show V.ref q=V.ref (if ⇑p.h=⇑p.h then q else _);rw[np rfl])
noncomputable def MX (l:KU->M ↑W):KU->M ↑W:=λρ=>bd (l ρ) λx=>gd (⇑x<=sizeLine)<|pr x
def B0 (h:JA X E es l):JF X E (.List es pos) (MX l):=(Bd h.h).impF λσ H Q h=>by ac_nf;let(hz,h1):=h1.gd;exact(by rw[r1.len];exact hz,h1.pr R1 r1)
end
end
section
section
variable {X:Cx}{E:XK}
def OE {K:Zf}{i:Int}:Rv K o (.int i) v↔v=.int i:=by unfold Rv;exact Iff.rfl
def OG {K:Zf}{i:Str}:Rv K o (.str i) v↔v=.str i:=by unfold Rv;exact Iff.rfl
def OD {K:Zf}{i:Bool}:Rv K o (.bl i) v↔v=.bl i:=by unfold Rv;exact Iff.rfl
def OF {K:Zf}:Rv K o .non v↔v=.non:=by unfold Rv;exact Iff.rfl
def OH {K:Zf}:Rv K o (.ty n) v↔v=.ty n:=by unfold Rv;exact Iff.rfl
noncomputable def Na (w:W):M ↑W:=match w with
 |.tl l=>pr l
 |.cl l=>pr l
 |.loc k=>λh=>match h[k]? with|some (.lst l)=>.ok l h|_=>.bad
 |_=>no
def bT {α β:Type}{r:Wo->α->β->Prop}{w:W}{k:↑W->M α}{Q:β->Hp->Prop}(R:Rel X.K o)(hr:Rv X.K o w v)(h:Ps (cg X E) r o (bd (Na w) k o.h) Q):
  ∃l a vs,v=.ref a/\SqL X.K o.H a vs/\Rvs X.K o l vs/\Ps (cg X E) r o (k l o.h) Q:=by
 cases w with
 |tl l=>unfold Rv at hr;let(a,vs,e,h1,_,h2):=hr;exact(l,a,vs,e,.of h1,h2,h)
 |cl l=>
  unfold Rv at hr;let(a,vs,e,h1,h2):=hr;rcases h1 with⟨h1,_⟩|h1
  exact(l,a,vs,e,.inl h1,h2,h);exact(l,a,vs,e,.inr h1,h2,h)
 |loc j=>
  unfold Rv at hr;unfold Na bd at h;cases e:o.h[j]? with
  |none=>simp only[e]at h;exact h.elim
  |some b=>
   cases b with
   |lst l=>
    simp only[e]at h;let(vs,h1,h2):=R.ob j _ e;exact(l,_,vs,hr.2,.of h1,h2,h)
   |_=>simp only[e]at h;exact h.elim
 |_=>exact h.elim
noncomputable def M9 (w:W):M ↑W:=match w with
 |.tl l=>pr l
 |.loc k=>λh=>match h[k]? with|some (.lst l)=>.ok l h|_=>.bad
 |_=>no
def fm {α β:Type}{r:Wo->α->β->Prop}{w:W}{k:↑W->M α}{Q:β->Hp->Prop}(R:Rel X.K o)(hr:Rv X.K o w v)(h:Ps (cg X E) r o (bd (M9 w) k o.h) Q):
  ∃l a vs,v=.ref a/\o.H a=some (.lst vs)/\Rvs X.K o l vs/\Ps (cg X E) r o (k l o.h) Q:=by
 cases w with
 |tl l=>unfold Rv at hr;let(a,vs,e,h1,_,h2):=hr;exact(l,a,vs,e,h1,h2,h)
 |loc j=>
  unfold Rv at hr;unfold M9 bd at h;cases e:o.h[j]? with
  |none=>simp only[e]at h;exact h.elim
  |some b=>
   cases b with
   |lst l=>
    simp only[e]at h;let(vs,h1,h2):=R.ob j _ e;exact(l,_,vs,hr.2,h1,h2,h)
   |_=>simp only[e]at h;exact h.elim
 |_=>exact h.elim
def fk (R:Rel X.K o)(hq:o.H q=none)(hl:Rvs X.K o l vs)(h:Ps (cg X E) (Rv X.K) o (pr (.tup l) o.h) Q):Q (.ref q) (upd o.H q<|.tup vs):=
 Ps.at (p:=(o.mu,o.h,upd o.H q<|.tup vs)) h rfl (Ex.new hq) (R.new hq) (Rv.newT R hq hl)
def fZ (R:Rel X.K o)(hq:o.H q=none)(hl:Rvs X.K o l vs)(h:Ps (cg X E) (Rv X.K) o (pr (.tl l) o.h) Q):Q (.ref q) (upd o.H q<|.lst vs):=
 Ps.at (p:=(o.mu,o.h,upd o.H q<|.lst vs)) h rfl (Ex.new hq) (R.new hq) (Rv.newL R hq hl)
noncomputable def Lo (x y:W):M W:=match x,y with|.int i,.int j=>pr (.int<|i+j)|.str a,.str b=>gd (⇑a+⇑b<=sizeLine) (pr<|.str<|a++b)|.tup a,.tup b=>gd (a.isEmpty=false/\⇑a+⇑b<=sizeLine) (pr<|.tup<|a++b)|x,y=>bd (M9 x) λa=>bd (M9 y) λb=>gd (⇑a+⇑b<=sizeLine)<|pr<|.tl<|a++b
def yL:OpM X E (λx y H Q=>rI0 (λi j=>.int<|i+j) x y H Q\/(λx y H Q=>(λx y H Q=>∃i j ,x=.str i/\y=.str j/\⇑i+⇑j<=sizeLine/\Q (.str<|i++j) H) x y H Q\/(λx y H Q=>Oq X.K x y H Q\/rCat x y H Q) x y H Q) x y H Q) Lo:=by
 intro o x y vx vy Q R rx ry h;unfold Lo at h;split at h;exact .inl (_,_,OE.mp rx,OE.mp ry,h.pr R<|OE.mpr rfl);let(hz,h):=h.gd;exact .inr<|.inl (_,_,OG.mp rx,OG.mp ry,hz,h.pr R<|OG.mpr rfl)
 .let(hz,h):=h.gd;unfold Rv at rx ry;let(a,vs,e1,s1,r1):=rx;let(b,us,e2,s2,r2):=ry;have n1:vs≠ []:=λz=>by have:=r1.len;rw[z]at this;have q:=hz.1;rw[Hu this.symm]at q;cases q
  refine .inr<|.inr<|.inl (a,b,vs,us,e1,e2,s1,s2,n1,by rw[r1.len,r2.len];exact hz.2,λz=>?_,λJ q hq=>fk R hq (r1.app r2) h);refine h.pr R ?_;unfold Rv;exact(a,vs,rfl,s1,by have:=r1.app r2;rw[z,F5]at this;exact this)
 let(l,a,vs,e1,s1,r1,h):=fm R rx h;let(m,b,us,e2,s2,r2,h):=fm R ry h;let(hz,h):=h.gd;exact .inr<|.inr<|.inr (a,b,vs,us,e1,e2,s1,s2,by rw[r1.len,r2.len];exact hz,λq hq=>fZ R hq (r1.app r2) h)
def Cv {fa fb:KU->M W}(ha:JE X E a fa)(hb:JE X E b fb):JE X E (.BinOp a .Add b pos) (m2 Lo fa fb):=
 jw (NK.or<|NL.or<|NN.or vP) yL ha hb
noncomputable def iiW (C:Int->Int->Prop) [∀i j,Decidable<|C i j] (g:Int->Int->W)(x y:W):M W:=match x,y with|.int i,.int j=>gd (C i j) (pr<|g i j)|_,_=>no
def fP {C:Int->Int->Prop} [∀i j,Decidable<|C i j] {g:Int->Int->W}{g':Int->Int->V}(hg:∀o i j ,Rv X.K o (g i j)<|g' i j):OpM X E (rI C g') (iiW C g):=by
 intro o x y vx vy Q R rx ry h;unfold iiW at h;split at h;let(hz,h):=h.gd;exact(_,_,OE.mp rx,OE.mp ry,hz,h.pr R<|hg _ _ _);exact h.elim
def NJ {f:Jk->Jk->Sem Jk}{g':Int->Int->V}(h:OpR X f (rI0 g')):OpR X f (rI (λJ J=>True) g'):=λP4 s σ H x y v u Q I rx ry q=>h P4 s σ H x y v u Q I rx ry (let (i,j,e1,e2,_,q):=q;(i,j,e1,e2,q))
abbrev CT:Int->Int->Prop:=λJ J=>True
noncomputable def Pt:W->W->M W:=iiW CT λi j=>.int<|i-j
def B5 {fa fb:KU->M W}(ha:JE X E a fa)(hb:JE X E b fb):JE X E (.BinOp a .Sub b pos) (m2 Pt fa fb):=
 jw (NJ Bq) (fP λJ J J=>OE.mpr rfl) ha hb
def KL (i j:Int):Prop:=0<j/\j<2^200
instance (i j:Int):Decidable (KL i j):=by unfold KL;infer_instance
def vO:OpR X (Kh .FloorDiv) (rI KL λi j=>.int<|i / j):=opI λi j J J J J J hc q=>by have h1:(0:Int)<j:=hc.1;have h2:j<2^200:=hc.2;refine floordiv_int ∅ (by rw[Int.fdiv_eq_ediv_of_nonneg i ∅];exact q) (.inl<|PyProof.noPylong_of_log2 ?_);have h3:j.natAbs<2^200:=∅;exact FT ((Nat.log2_lt ∅).mpr h3) ↥_
noncomputable def Ma:W->W->M W:=iiW KL λi j=>.int<|i / j
def zk {fa fb:KU->M W}(ha:JE X E a fa)(hb:JE X E b fb):JE X E (.BinOp a .FloorDiv b pos) (m2 Ma fa fb):=
 jw vO (fP λJ J J=>OE.mpr rfl) ha hb
abbrev CMod:Int->Int->Prop:=λJ j=>0<j
noncomputable def NC:W->W->M W:=iiW CMod λi j=>.int<|i%j
def Cc {fa fb:KU->M W}(ha:JE X E a fa)(hb:JE X E b fb):JE X E (.BinOp a .Mod b pos) (m2 NC fa fb):=
 jw Bu (fP λJ J J=>OE.mpr rfl) ha hb
instance (i j:Int):Decidable (KO i j):=by unfold KO;infer_instance
noncomputable def Oe:W->W->M W:=iiW KO λi j=>.int<|i^j.toNat
def B7 {fa fb:KU->M W}(ha:JE X E a fa)(hb:JE X E b fb):JE X E (.BinOp a .Pow b pos) (m2 Oe fa fb):=
 jw Bs (fP λJ J J=>OE.mpr rfl) ha hb
def yV {z:Str}{n:Int}(h0:0<=n)(h1:n<=10000)(h:⇑z<=30000)(hz:⇑z*n.toNat<=1000000):MulOk z n:=by
 refine(?_,λa b=>?_,λa b=>?_);rw[IM,decide_eq_false_iff_not,decide_eq_false_iff_not];omega;have:(100000000000000:Int)<=(2^63-1) / n:=Int.le_ediv_of_mul_le ∅ ∅;omega;unfold Jl.Str.tooLong;have:sizeLine=16777216:=↥_;exact s0 ∅
instance (i j:Int):Decidable (CMul i j):=by unfold CMul;infer_instance
instance (i j:Int):Decidable (CMulB i j):=by unfold CMulB;infer_instance
def KM (i j:Int):Prop:=CMul i j\/CMulB i j
instance (i j:Int):Decidable (KM i j):=by unfold KM;infer_instance
def NQ:OpR X (Kh .Mult) (rI KM λi j=>.int<|i*j):=opI λJ J J J J J J hc q=>mul_int q (by rcases hc with h|h;exact h.ok;exact h.ok)
noncomputable def ND (x y:W):M W:=match x,y with|.int i,.int j=>gd (KM i j) (pr<|.int<|i*j)|.str z,.int n=>gd (0<=n/\n<=10000/\⇑z<=30000/\⇑z*n.toNat<=1000000) (pr<|.str<|Txt.mul z n)|x,.int n=>bd (M9 x) λl=>gd (0<=n/\n<=1000000/\⇑l*n.toNat<=sizeLine) (pr<|.tl (List.replicate n.toNat l).flatten)|_,_=>no
theorem Rvs.rep {K:Zf}(h:Rvs K o l vs):∀n:Nat,Rvs K o (List.replicate n l).flatten (List.replicate n vs).flatten|0=>Rvs.nil|n+1=>by rw[GY,GY,G9,G9];exact h.app<|Rvs.rep h n
def yH:OpM X E (λx y H Q=>rI KM (λi j=>.int<|i*j) x y H Q\/(λx y H Q=>(λx y H Q=>∃ (z:Str) (n:Int) ,x=.str z/\y=.int n/\MulOk z n/\Q (.str<|Txt.mul z n) H) x y H Q\/rRep x y H Q) x y H Q) ND:=by
 intro o x y vx vy Q R rx ry h;unfold ND at h;split at h;let(hz,h):=h.gd;exact .inl (_,_,OE.mp rx,OE.mp ry,hz,h.pr R<|OE.mpr rfl);let(hz,h):=h.gd;exact .inr<|.inl (_,_,OG.mp rx,OE.mp ry,yV hz.1 hz.2.1 hz.2.2.1 hz.2.2.2,h.pr R<|OG.mpr rfl);let(l,a,vs,e1,s1,r1,h):=fm R rx h;let(hz,h):=h.gd;exact .inr<|.inr (a,_,vs,e1,OE.mp ry,s1,∅,∅,by rw[r1.len];exact hz.2.2,λq hq=>fZ R hq (r1.rep _) h);exact h.elim
def Cb {fa fb:KU->M W}(ha:JE X E a fa)(hb:JE X E b fb):JE X E (.BinOp a .Mult b pos) (m2 ND fa fb):=
 jw (NQ.or<|NR.or Br) yH ha hb
noncomputable def ltW:W->W->M W:=iiW CT λi j=>.bl<|decide<|i<j
noncomputable def leW:W->W->M W:=iiW CT λi j=>.bl<|decide<|i<=j
noncomputable def gtW:W->W->M W:=iiW CT λi j=>.bl<|decide<|j<i
noncomputable def geW:W->W->M W:=iiW CT λi j=>.bl<|decide<|j<=i
def Bj:OpM X E (rI CT λi j=>.bl<|decide<|i<j) ltW:=fP λJ J J=>OD.mpr rfl
def Bn:OpM X E (rI CT λi j=>.bl<|decide<|j<i) gtW:=fP λJ J J=>OD.mpr rfl
def Bo:OpM X E (rI CT λi j=>.bl<|decide<|j<=i) geW:=fP λJ J J=>OD.mpr rfl
def DT:OpR X (J4 .Lt) (rI CT λi j=>.bl<|decide<|i<j):=NJ DY
def DV:OpR X (J4 .Gt) (rI CT λi j=>.bl<|decide<|j<i):=NJ DZ
def DW:OpR X (J4 .GtE) (rI CT λi j=>.bl<|decide<|j<=i):=NJ D3
noncomputable def MC:W->Bool|.non=>true|_=>false
noncomputable def MB (x y:W):M W:=match y with|.non=>pr (.bl<|MC x)|_=>no
def zD {K:Zf}(h:Rv K o x v):decide (v=.non)=MC x:=by
 cases x with|non=>rw[OF.mp h];rfl|bl _=>rw[OD.mp h];rfl|int _=>rw[OE.mp h];rfl|str _=>rw[OG.mp h];rfl|ty _=>rw[OH.mp h];rfl|exc _=>unfold Rv at h;let(a,_,rfl,_):=h;rfl|cls _=>unfold Rv at h;let(a,rfl,_):=h;rfl|tup _=>unfold Rv at h;let(a,_,rfl,_):=h;rfl|tl _=>unfold Rv at h;let(a,_,rfl,_):=h;rfl|cl _=>unfold Rv at h;let(a,_,rfl,_):=h;rfl|dv _ _=>unfold Rv at h;let(a,_,rfl,_):=h;rfl|dn _ _ _=>unfold Rv at h;let(a,_,rfl,_):=h;rfl|kt _=>unfold Rv at h;let(a,rfl,_):=h;rfl|loc _=>unfold Rv at h;let(_,rfl):=h;rfl
def yJ:OpM X E (λx y H Q=>y=.non/\Q (.bl<|decide<|x=.non) H) MB:=by
 intro o x y vx vy Q R rx ry h;unfold MB at h;split at h;exact(OF.mp ry,by rw[zD rx];exact h.pr R<|OD.mpr rfl);exact h.elim
noncomputable def vOf:W->Option V|.non=>some .non|.bl b=>some (.bl b)|.int i=>some (.int i)|.str x=>some (.str x)|_=>none
def lg {K:Zf}(e:vOf x=`u)(h:Rv K o x v):v=u:=by
 cases x with|non=>cases e;exact OF.mp h|bl _=>cases e;exact OD.mp h|int _=>cases e;exact OE.mp h|str _=>cases e;exact OG.mp h|_=>cases e
def mH (e:vOf x=`u):Mc u=true:=by cases x<;>first|(cases e;done)|(cases e;rfl)
noncomputable def PQ:↑W->Option ↑V|[]=>some []|w::l=>match vOf w,PQ l with|some v,some vs=>some (v::vs)|_,_=>none
set_option tactic.hygienic true in
theorem p8 {K:Zf}:∀ {l:↑W}{vs us:↑V},PQ l=`us->Rvs K o l vs->vs=us
 |[],vs,us,e,h=>by unfold Rvs at h;cases e;exact h
 |w::l,vs,us,e,h=>by
  unfold Rvs at h;let(v,r,rfl,h1,h2):=h;unfold PQ at e;split at e;rename_i v' vs' e1 e2;cases e;rw[lg e1 h1,p8 e2 h2];cases e
set_option tactic.hygienic true in
theorem kq:∀ {l:↑W}{us:↑V},PQ l=`us->us.all Mc=true
 |[],us,e=>by cases e;rfl
 |w::l,us,e=>by
  unfold PQ at e;split at e;rename_i v' vs' e1 e2;cases e;rw[GX,mH e1,kq e2];rfl;cases e
end
end
section
noncomputable def NU {α β:Type}(f:α->Option β):↑α->Option ↑β|[]=>some []|a::l=>match f a,NU f l with|some b,some r=>some (b::r)|_,_=>none
noncomputable def LQ (h:↑Ob):Nat->W->Option KC
 |0,_=>none
 |_+1,.non=>some .none
 |_+1,.bl b=>some<|.bool b
 |_+1,.int i=>some<|.int i
 |_+1,.str x=>some<|.str x
 |n+1,.tup l=>(NU (LQ h n) l).map .tuple
 |n+1,.tl l=>(NU (LQ h n) l).map .list
 |n+1,.cl l=>(NU (LQ h n) l).map .list
 |n+1,.loc k=>match h[k]? with|some (.lst l)=>(NU (LQ h n) l).map .list|_=>none
 |_+1,_=>none
section
variable {K:Zf}{o:Wo}
set_option tactic.hygienic true in
theorem jo {n:Nat}(ih:∀w v d ,LQ o.h n w=`d->Rv K o w v->Den K o.H v d/\d.depth<=n):∀ {l:↑W}{vs:↑V}{ds:↑KC},NU (LQ o.h n) l=`ds->Rvs K o l vs->KR K o.H vs ds/\KC.depthAll ds<=n
 |[],vs,ds,e,h=>by unfold Rvs at h;cases e;rw[h];exact(.nil,by simp [KC.depthAll])
 |w::l,vs,ds,e,h=>by
  unfold Rvs at h;let(v,r,rfl,h1,h2):=h;unfold NU at e;split at e;rename_i d ds' e1 e2;cases e;let(a1,a2):=ih w v d e1 h1;let(b1,b2):=jo ih e2 h2;exact(.cons a1 b1,by rw[KC.depthAll];omega);cases e
set_option tactic.hygienic true in
theorem g8 (R:Rel K o):∀ (n:Nat) (w:W) (v:V) (d:KC),LQ o.h n w=`d->Rv K o w v->Den K o.H v d/\d.depth<=n
 |0,_,_,_,e,_=>by cases e
 |n+1,w,v,d,e,h=>by
  have ih:=g8 R n;have seq:∀ {l:↑W}{a:Jq}{vs:↑V}{ds:↑KC},NU (LQ o.h n) l=`ds->SqL K o.H a vs->Rvs K o l vs->Den K o.H (.ref a) (.list ds)/\(KC.list ds).depth<=n+1:=λ{l a vs ds} e s r=>by let(b1,b2):=jo ih e r;refine(.lst s b1,?_);rw[KC.depth];omega
  cases w with
  |non=>cases e;rw[OF.mp h];exact(.non,by simp [KC.depth])
  |bl b=>cases e;rw[OD.mp h];exact(.bl b,by simp [KC.depth])
  |int b=>cases e;rw[OE.mp h];exact(.int b,by simp [KC.depth])
  |str b=>cases e;rw[OG.mp h];exact(.str b,by simp [KC.depth])
  |ty b=>cases e
  |exc b=>cases e
  |cls b=>cases e
  |dv a b=>cases e
  |dn a b c=>cases e
  |kt a=>cases e
  |tup l=>
   unfold LQ at e;let(ds,e1,rfl):=FE.mp e;unfold Rv at h;let(a,vs,rfl,s,r):=h;let(b1,b2):=jo ih e1 r;refine(.tup s b1,?_);rw[KC.depth];omega
  |tl l=>
   unfold LQ at e;let(ds,e1,rfl):=FE.mp e;unfold Rv at h;let(a,vs,rfl,s,_,r):=h;exact seq e1 (.of s) r
  |cl l=>
   unfold LQ at e;let(ds,e1,rfl):=FE.mp e;unfold Rv at h;let(a,vs,rfl,s,r):=h;refine seq e1 ?_ r;rcases s with⟨s,_⟩|s
   exact .inl s;exact .inr s
  |loc k=>
   unfold LQ at e;split at e;rename_i l hk;let(ds,e1,rfl):=FE.mp e;unfold Rv at h;let(vs,h1,h2):=R.ob k _ hk;rw[h.2];exact seq e1 (.of h1) h2;cases e
end
noncomputable def eqB (x y:W)(h:↑Ob):Option Bool:=match vOf x,vOf y with
 |some a,some b=>if O0 a b=true then some (decide<|a=b) else match LQ h 50 x,LQ h 50 y with|some d,some e=>if d.canLay0=true/\e.canLay0=true then some (KC.eqv d e) else none|_,_=>none
 |_,_=>match LQ h 50 x,LQ h 50 y with|some d,some e=>if d.canLay0=true/\e.canLay0=true then some (KC.eqv d e) else none|_,_=>none
noncomputable def eqW (x y:W):M W:=λh=>match eqB x y h with|some b=>.ok (.bl b) h|none=>.bad
noncomputable def neW (x y:W):M W:=λh=>match eqB x y h with|some b=>.ok (.bl<|!b) h|none=>.bad
section
variable {X:Cx}{E:XK}
set_option tactic.hygienic true in
def xc {b:Bool}(hu:X.A.units+64<Jv)(R:Rel X.K o)(rx:Rv X.K o x vx)(ry:Rv X.K o y vy)(e:eqB x y o.h=`b):
  (O0 vx vy=true/\b=decide (vx=vy))\/ ∃d e,Den X.K o.H vx d/\Den X.K o.H vy e/\d.canLay0=true/\e.canLay0=true/\X.A.units+min d.depth e.depth<Jv/\b=KC.eqv d e:=by
 have deep:(match LQ o.h 50 x ,LQ o.h 50 y with
  |some d,some e=>if d.canLay0=true/\e.canLay0=true then some (KC.eqv d e) else none
  |_,_=>none)=`b->∃d e,Den X.K o.H vx d/\Den X.K o.H vy e/\d.canLay0=true/\e.canLay0=true/\X.A.units+min d.depth e.depth<Jv/\b=KC.eqv d e:=λq=>by
  split at q
  .rename_i d e' e1 e2;split at q;rename_i hc;let(a1,a2):=g8 R _ _ _ _ e1 rx;let(b1,b2):=g8 R _ _ _ _ e2 ry;exact(d,e',a1,b1,hc.1,hc.2,∅,(Option.some.inj q).symm);cases q
  cases q
 unfold eqB at e;split at e
 .rename_i a c e1 e2;split at e;rename_i hs;rw[lg e1 rx,lg e2 ry];exact .inl (hs,(Option.some.inj e).symm);exact .inr<|deep e
 exact .inr<|deep e
def Bp (hu:X.A.units+64<Jv):OpM X E (λx y H Q=>rEq x y H Q\/Os X.K X.A false x y H Q) eqW:=by
 intro o x y vx vy Q R rx ry h;unfold eqW at h;cases e:eqB x y o.h with
 |none=>rw[e]at h;exact h.elim
 |some b=>
  rw[e]at h;have q:Q (.bl b) o.H:=Ps.pr (c:=cg X E) (r:=Rv X.K) (a:=W.bl b) h R<|OD.mpr rfl;rcases xc hu R rx ry e with⟨s,rfl⟩|⟨d,e',a1,a2,a3,a4,a5,rfl⟩
  exact .inl (s,q);exact .inr (d,e',a1,a2,a3,a4,a5,by rw[gV FP];exact q)
def Bi (hu:X.A.units+64<Jv):OpM X E (λx y H Q=>rNe x y H Q\/Os X.K X.A true x y H Q) neW:=by
 intro o x y vx vy Q R rx ry h;unfold neW at h;cases e:eqB x y o.h with
 |none=>rw[e]at h;exact h.elim
 |some b=>
  rw[e]at h;have q:Q (.bl<|!b) o.H:=Ps.pr (c:=cg X E) (r:=Rv X.K) (a:=W.bl<|!b) h R<|OD.mpr rfl;rcases xc hu R rx ry e with⟨s,rfl⟩|⟨d,e',a1,a2,a3,a4,a5,rfl⟩
  exact .inl (s,q);exact .inr (d,e',a1,a2,a3,a4,a5,by rw[np rfl];exact q)
def DX:OpR X (J4 .Eq) (λx y H Q=>rEq x y H Q\/Os X.K X.A false x y H Q):=op_eq.or By
def DS:OpR X (J4 .NotEq) (λx y H Q=>rNe x y H Q\/Os X.K X.A true x y H Q):=op_ne.or Bt
noncomputable def MO:W->Option Key|.int i=>some (.inl i)|.str x=>some (.inr x)|_=>none
def da {K:Zf}(e:MO x=`k)(h:Rv K o x v):v=kV k:=by
 cases x with|int _=>cases e;exact OE.mp h|str _=>cases e;exact OG.mp h|_=>cases e
noncomputable def LS (w:W)(h:↑Ob):Option (↑Key×↑W):=match w with
 |.dv ks ws=>some (ks ,ws)
 |.loc k=>match h[k]? with|some (.dic ks ws)=>some (ks ,ws)|_=>none
 |_=>none
set_option tactic.hygienic true in
def gz {w:W}(R:Rel X.K o)(e:LS w o.h=some (ks ,ws))(h:Rv X.K o w v):∃a kvs,v=.ref a/\Rd o.H a (.dK kvs)/\kvs.map (·.1)=ks/\Rvs X.K o ws (kvs.map (·.2)):=by
 cases w with
 |dv a b=>
  cases e;unfold Rv at h;let(a,kvs,e,h1,_,h2,h3):=h;exact(a,kvs,e,h1,h2,h3)
 |loc k=>
  unfold LS at e;dsimp only at e;split at e;rename_i a b hk;cases e;unfold Rv at h;let(kvs,h1,h2,h3):=R.ob k _ hk;exact(_,kvs,h.2,.inl h1,h2,h3);cases e
 |_=>cases e
noncomputable def atK {κ:Type} [DecidableEq κ]:↑κ->↑W->κ->Option W|k::ks,w::ws,x=>if k=x then `w else atK ks ws x|_,_,_=>none
theorem dA {κ:Type} [DecidableEq κ] {K:Zf}{o:Wo}{x:κ}:∀ {ks:↑κ}{ws:↑W}{kvs:↑(κ×V)},kvs.map (·.1)=ks->Rvs K o ws (kvs.map (·.2))->match atK ks ws x with|some w=>∃v,PL kvs x=`v/\Rv K o w v|none=>PL kvs x=none
 |[],_,[],_,_=>rfl
 |_,_,(k ,v)::r,e,h=>by
  subst e;cases ‹↑W› with
  |nil=>unfold Rvs at h;cases h
  |cons w ws=>
   unfold Rvs at h;let(v',r',e',h1,h2):=h;cases e';have ih:=dA (x:=x) (ks:=r.map (·.1)) (ws:=ws) (kvs:=r) rfl h2;show match (if k=x then `w else atK (r.map (·.1)) ws x) with|some w=>∃v',PL ((k ,v)::r) x=`v'/\Rv K o w v'|none=>PL ((k ,v)::r) x=none
   by_cases z:k=x;rw[np z];exact(v,by unfold PL;rw[List.find?_cons_of_pos<|by simpa using z];rfl,h1)
   .rw[gV z];have ev:PL ((k ,v)::r) x=PL r x:=by unfold PL;rw[List.find?_cons_of_neg<|by simpa using z]
    rw[ev];exact ih
noncomputable def inB (x y:W)(h:↑Ob):Option Bool:=match y with
 |.str b=>match x with|.str a=>some (!(Jl.Str.occurrences b a 0 ⇑b 1).isEmpty)|_=>none
 |.tup l=>match vOf x,PQ l with|some v,some vs=>some (inV v vs)|_,_=>none
 |y=>match LS y h with
  |some (ks ,ws)=>match MO x with|some k=>some (atK ks ws k).isSome|none=>none
  |none=>match Na y h with
   |.ok l _=>match vOf x,PQ l with|some v,some vs=>some (inV v vs)|_,_=>none
   |_=>none
noncomputable def inW (x y:W):M W:=λh=>match inB x y h with|some b=>.ok (.bl b) h|none=>.bad
noncomputable def gS (x y:W):M W:=λh=>match inB x y h with|some b=>.ok (.bl<|!b) h|none=>.bad
def nL {w:W}(R:Rel X.K o)(hr:Rv X.K o w v)(e:Na w o.h=.ok l h'):h'=o.h/\∃a vs,v=.ref a/\SqL X.K o.H a vs/\Rvs X.K o l vs:=by
 have hh:h'=o.h:=by
  cases w with
  |tl l'=>cases e;rfl
  |cl l'=>cases e;rfl
  |loc j=>
   unfold Na at e;dsimp only at e;split at e;cases e;rfl;cases e
  |_=>cases e
 subst hh;have h:Ps (cg X<|λJ J J=>False) (λ(_:Wo) (a:↑W) (b:↑W)=>a=b) o (bd (Na w) (λl=>pr l) o.h) (λb J=>b=l):=by unfold bd;rw[e];intro p b _ _ _ q;exact q.symm
 let(m,a,vs,e1,e2,e3,h):=bT R hr h;have:m=l:=h.pr R rfl;subst this;exact(rfl,a,vs,e1,e2,e3)
noncomputable def rInD:R2:=λx y H Q=>∃a ov,y=.ref a/\KQ H a x ov/\Q (.bl ov.isSome) H
noncomputable def qw:R2:=λx y H Q=>∃a ov,y=.ref a/\KQ H a x ov/\Q (.bl<|!ov.isSome) H
def Bw (hu:X.A.units+1<Jv):OpR X (J4 .In) rInD:=by intro P4 s σ H x y v u Q I rx ry h;let(a,ov,rfl,g,q):=h;cases ry;exact Fk hu I g rx λs3 I3=>(.bl ov.isSome,H,I3,rfl,q)
def sK (hu:X.A.units+1<Jv):OpR X (J4 .NotIn) qw:=by intro P4 s σ H x y v u Q I rx ry h;let(a,ov,rfl,g,q):=h;cases ry;exact zJ hu I g rx λs3 I3=>(.bl<|!ov.isSome,H,I3,rfl,q)
set_option tactic.hygienic true in
def wR {b:Bool}(R:Rel X.K o)(rx:Rv X.K o x vx)(ry:Rv X.K o y vy)(e:inB x y o.h=`b):
  (∃i j ,vx=.str i/\vy=.str j/\b=(!(Jl.Str.occurrences j i 0 ⇑j 1).isEmpty))\/(∃p xs ,vy=.ref p/\(SqL X.K o.H p xs\/SqT X.K o.H p xs)/\Mc vx=true/\xs.all Mc=true/\b=inV vx xs)\/ ∃a ov,vy=.ref a/\KQ o.H a vx ov/\b=ov.isSome:=by
 have fl:∀ {l:↑W}{vs:↑V},Rvs X.K o l vs->(match vOf x ,PQ l with
    |some v,some vs=>some (inV v vs)
    |_,_=>none)=`b->Mc vx=true/\vs.all Mc=true/\b=inV vx vs:=λ{l vs} r q=>by
  split at q;rename_i v us e1 e2;rw[lg e1 rx,p8 e2 r];exact(mH e1,kq e2,(Option.some.inj q).symm);cases q
 unfold inB at e;split at e
 .split at e;exact .inl (_,_,OG.mp rx,OG.mp ry,(Option.some.inj e).symm);cases e
 unfold Rv at ry;let(a,vs,rfl,s,r):=ry;let(f1,f2,f3):=fl r e;exact .inr<|.inl (a,vs,rfl,.inr s,f1,f2,f3)
 .split at e
  .rename_i ks ws hd;split at e
   .rename_i k hk;let(a,kvs,rfl,h1,h2,h3):=gz R hd ry;rw[da hk rx];refine .inr<|.inr (a,PL kvs k,rfl,.inl (kvs,k,h1,rfl,rfl),?_);rw[<-Option.some.inj e];have:=dA (x:=k) h2 h3;cases q:atK ks ws k with|none=>rw[q]at this;rw[show PL kvs k=none from this];rfl|some w=>rw[q]at this;let(v,hv,_):=this;rw[hv];rfl
   cases e
  .split at e;rename_i l h' hl;let(rfl,a,vs,rfl,s,r):=nL R ry hl;let(f1,f2,f3):=fl r e;exact .inr<|.inl (a,vs,rfl,.inl s,f1,f2,f3);cases e
abbrev rInA (X:Cx):R2:=λx y H Q=>(λx y H Q=>∃i j ,x=.str i/\y=.str j/\Q (.bl<|!(Jl.Str.occurrences j i 0 ⇑j 1).isEmpty) H) x y H Q\/(λx y H Q=>rIn X.K false x y H Q\/rInD x y H Q) x y H Q
abbrev qx (X:Cx):R2:=λx y H Q=>(λx y H Q=>∃i j ,x=.str i/\y=.str j/\Q (.bl<|!(!(Jl.Str.occurrences j i 0 ⇑j 1).isEmpty)) H) x y H Q\/(λx y H Q=>rIn X.K true x y H Q\/qw x y H Q) x y H Q
def DU (hu:X.A.units+1<Jv):OpR X (J4 .In) (rInA X):=NP.or<|NO.or<|Bw hu
def vJ (hu:X.A.units+1<Jv):OpR X (J4 .NotIn) (qx X):=NT.or<|NS.or<|sK hu
def Bm:OpM X E (rInA X) inW:=by
 intro o x y vx vy Q R rx ry h;unfold inW at h;cases e:inB x y o.h with
 |none=>rw[e]at h;exact h.elim
 |some b=>
  rw[e]at h;have q:Q (.bl b) o.H:=Ps.pr (c:=cg X E) (r:=Rv X.K) (a:=W.bl b) h R<|OD.mpr rfl;rcases wR R rx ry e with⟨i,j,e1,e2,rfl⟩|⟨p,xs,e1,e2,e3,e4,rfl⟩|⟨a,ov,e1,e2,rfl⟩
  exact .inl (i,j,e1,e2,q);exact .inr<|.inl (p,xs,e1,e2,e3,e4,by rw[gV FP];exact q);exact .inr<|.inr (a,ov,e1,e2,q)
def sJ:OpM X E (qx X) gS:=by
 intro o x y vx vy Q R rx ry h;unfold gS at h;cases e:inB x y o.h with
 |none=>rw[e]at h;exact h.elim
 |some b=>
  rw[e]at h;have q:Q (.bl<|!b) o.H:=Ps.pr (c:=cg X E) (r:=Rv X.K) (a:=W.bl<|!b) h R<|OD.mpr rfl;rcases wR R rx ry e with⟨i,j,e1,e2,rfl⟩|⟨p,xs,e1,e2,e3,e4,rfl⟩|⟨a,ov,e1,e2,rfl⟩
  exact .inl (i,j,e1,e2,q);exact .inr<|.inl (p,xs,e1,e2,e3,e4,by rw[np rfl];exact q);exact .inr<|.inr (a,ov,e1,e2,q)
theorem Rvs.atI {K:Zf}{i:Int}{w:W}(h:Rvs K o l vs)(e:L2.atI l i=`w):∃v,L2.atI vs i=`v/\Rv K o w v:=by
 unfold L2.atI at e ⊢;rw[h.len];cases q:ixN ⇑l i with|none=>rw[q]at e;cases e|some j=>rw[q]at e;exact h.get e
noncomputable def ixO (x y:W)(h:↑Ob):Option W:=match LS x h with
 |some (ks ,ws)=>match MO y with|some k=>atK ks ws k|none=>none
 |none=>match y with
  |.int i=>match x with|.str z=>if ⇑z<=sizeLine then (atI z.cps.toList i).map λc=>.str ⟨#[c]⟩ else none|.tup l=>atI l i|x=>match Na x h with|.ok l _=>atI l i|_=>none
  |_=>none
noncomputable def ixW (x y:W):M W:=λh=>match ixO x y h with|some w=>.ok w h|none=>.bad
noncomputable def rIxD:R2:=λx y H Q=>∃a v,x=.ref a/\KQ H a y `v/\Q v H
def zy (hu:X.A.units+1<Jv):IxR X rIxD:=by intro value slice P4 s σ H x y v u Q I rx ry h hs;let(a,z,rfl,g,q):=h;cases rx;exact tail_any (oh I g) PySem.F.slot_dict_getitem.lookup (t9 hu I g ry λw' s3 I3 rw'=>(z,H,I3,rw',q)) hs
set_option tactic.hygienic true in
def Bk:OpM X E (λx y H Q=>rIx X.K x y H Q\/rIxD x y H Q) ixW:=by
 intro o x y vx vy Q R rx ry h;unfold ixW at h;cases e:ixO x y o.h with
 |none=>rw[e]at h;exact h.elim
 |some w=>
  rw[e]at h;have q:∀ {v:V},Rv X.K o w v->Q v o.H:=λ{v} hv=>Ps.pr (c:=cg X E) (r:=Rv X.K) (a:=w) h R hv;unfold ixO at e;split at e
  .rename_i ks ws hd;split at e;rename_i k hk;let(a,kvs,rfl,h1,h2,h3):=gz R hd rx;have:=dA (x:=k) h2 h3;rw[e]at this;let(v,hv,rv):=this;rw[da hk ry];exact .inr (a,v,rfl,.inl (kvs,k,h1,rfl,hv.symm),q rv);cases e
  .split at e
   .split at e
    .split at e;rename_i hz;let(c,hc,rfl):=FE.mp e;exact .inl<|.inr<|.inr (_,_,c,OG.mp rx,OE.mp ry,hz,hc,q<|OG.mpr rfl);cases e
    unfold Rv at rx;let(a,vs,rfl,s,r):=rx;let(v,hv,rv):=r.atI e;exact .inl<|.inr<|.inl (a,vs,_,v,rfl,OE.mp ry,s,hv,q rv)
    .split at e;rename_i l h' hl;let(rfl,a,vs,rfl,s,r):=nL R rx hl;let(v,hv,rv):=r.atI e;exact .inl<|.inl (a,vs,_,v,rfl,OE.mp ry,s,hv,q rv);cases e
   cases e
def Eh {fa fb:KU->M W}(hu:X.A.units+1<Jv)(ha:JE X E a fa)(hb:JE X E b fb)(hs:iI b):JE X E (.Subscript a b pos) (m2 ixW fa fb):=
 (Ah (MJ.or<|zy hu) ha.h hb.h hs).imp λJ J J h=>ux Bk h
noncomputable def LM {α:Type}(xs:↑α)(lo hi:Option Int):↑α:=(xs.drop<|HT.sIx ⇑xs 0 lo).take<|HT.sIx ⇑xs ⇑xs hi-HT.sIx ⇑xs 0 lo
def Rvs.cut {K:Zf}(h:Rvs K o l vs)(lo hi:Option Int):Rvs K o (LM l lo hi) (LK vs lo hi):=by unfold LM LK;rw[h.len];exact (h.drop _).take _
noncomputable def aj:KU->M (Option Int):=λJ=>pr none
noncomputable def Nt (f:KU->M W):KU->M (Option Int):=λρ=>bd (f ρ) λw=>match w with|.int i=>pr `i|_=>no
abbrev tP (c:Cg)(f:KU->M (Option Int)):TO:=tG c (λJ a b=>a=b) f
structure JO (X:Cx)(E:XK)(e:Option Expr)(f:KU->M (Option Int)):Prop where
 h:PO X e (tP (cg X E) f)
def PO.imp {f:KU->M (Option Int)}(h:PO X e t)(k:∀σ H Q ,tP (cg X E) f σ H Q->t σ H Q):JO X E e f:=⟨λP4 s σ H Q I q=>h P4 s σ H Q I<|k σ H Q q⟩
def y7:JO X E none aj:=Oc.imp λσ H Q h=>by let(o,ρ,rfl,R,S,h):=h;exact h.pr R rfl
def y6 {f:KU->M W}(he:JE X E e f):JO X E `e (Nt f):=(yq he.h).imp λσ H Q h=>by
 ac_nf;cases x with|int i=>exact(i,OE.mp r1,h1.pr R1 rfl)|_=>exact h1.elim
noncomputable def slW (x:W)(lo hi:Option Int):M W:=match x with|.str z=>gd (⇑z<=sizeLine) (pr<|.str<|StrLaws.sliceText z lo hi)|.tup l=>gd (¬(HT.sIx ⇑l 0 lo=0/\HT.sIx ⇑l ⇑l hi=⇑l)) (pr<|.tup<|LM l lo hi)|x=>bd (Na x) λl=>pr<|.tl<|LM l lo hi
noncomputable def m3 (f:W->Option Int->Option Int->M W)(fa:KU->M W)(fl fh:KU->M (Option Int)):KU->M W:=λρ=>bd (fa ρ) λx=>bd (fl ρ) λa=>bd (fh ρ) λb=>f x a b
def Ef {lo hi:Option Expr}{fa:KU->M W}{fl fh:KU->M (Option Int)}(he:JE X E e fa)(hl:JO X E lo fl)(hh:JO X E hi fh):
  JE X E (.Subscript e (.Slice lo hi none p2) pos) (m3 slW fa fl fh):=(vw (Pc.or<|Pe.or x8) he.h hl.h hh.h).imp λσ H Q h=>by
 let(o,ρ,rfl,R,S,h):=h;refine(o,ρ,rfl,R,S,Ps.bd h λp x vx e1 R1 r1 h1=>(p,ρ,rfl,R1,S.mono R e1,Ps.bd h1 λq a va e2 R2 r2 h2=>(q,ρ,rfl,R2,(S.mono R e1).mono R1 e2,Ps.bd h2 λw b vb e3 R3 r3 h3=>?_)));subst r2 r3;have rx:=(r1.mono R1 e2).mono R2 e3;unfold slW at h3;split at h3;let(hz,h3):=h3.gd;exact .inl (_,OG.mp rx,hz,h3.pr R3<|OG.mpr rfl);let(hz,h3):=h3.gd;unfold Rv at rx;let(a',vs,rfl,s,r):=rx;refine .inr<|.inl (a',vs,rfl,s,by rw[r.len];exact hz,λq' hq=>fk R3 hq (r.cut _ _) h3);let(l,a',vs,rfl,s,r,h3):=bT R3 rx h3;exact .inr<|.inr (a',vs,rfl,s,λq' hq=>fZ R3 hq (r.cut _ _) h3)
noncomputable def Ng (f:↑W->M W)(l:KU->M ↑W):KU->M W:=λρ=>bd (l ρ) f
def KP (X:Cx)(E:XK)(r:↑V->Hp->VK->Prop)(f:↑W->M W):Prop:=∀ (o:Wo) (ws:↑W) (vs:↑V) (Q:VK),Rel X.K o->Rvs X.K o ws vs->Ps (cg X E) (Rv X.K) o (f ws o.h) Q->r vs o.H Q
variable {x:Str}{p pos:JY}{e:Expr}{es:↑Expr}{l:KU->M ↑W}{f:↑W->M W}{r:↑V->Hp->VK->Prop}{id T:String}
def Ab (hf:KP X E r f)(h:tM (cg X E) (Ng f l) σ H Q):tCB r (tA (cg X E) l) σ H Q:=by let(o,ρ,rfl,R,S,h):=h;exact(o,ρ,rfl,R,S,Ps.bd h λp x vx e1 R1 r1 h1=>hf p x vx Q R1 r1 h1)
def cM (hc:CallR X (.builtin id) r)(hf:KP X E r f)(hg:Gl X x)(hm:X.mg x=none)(hv:JR x=some (.builtin id))(ha:JA X E (e::es) l)(hn:x≠"__name__":=by decide)(hdb:(x==("__debug__":Str))=false:=by decide)
  (he:J1 (e::es) X.env=(false ,JX e X.env)::J1 es X.env:=by rfl)(hpl:(JZ pos<|J1 es X.env).any (·.1)=false:=by rfl):JE X E (.Call (.Name x p) (e::es) [] pos) (Ng f l):=
 (nh hc hg hm hv ha.h hn hdb he hpl).imp λJ J J h=>Ab hf h
def tf (hc:CallR X (.type T) r)(hf:KP X E r f)(hg:Gl X x)(hm:X.mg x=none)(hv:JR x=some (.type T))(ha:JA X E (e::es) l)(hn:x≠"__name__":=by decide)(hdb:(x==("__debug__":Str))=false:=by decide)
  (he:J1 (e::es) X.env=(false ,JX e X.env)::J1 es X.env:=by rfl)(hpl:(JZ pos<|J1 es X.env).any (·.1)=false:=by rfl):JE X E (.Call (.Name x p) (e::es) [] pos) (Ng f l):=
 (gP hc hg hm hv ha.h hn hdb he hpl).imp λJ J J h=>Ab hf h
end
end
section
inductive Fl where|nx (r:KU)|bk (r:KU)|ct (r:KU)|rt (w:W)
inductive FlV where|nx (s:St)|bk (s:St)|ct (s:St)|rt (v:V)
noncomputable def RFl (K:Zf)(o:Wo):Fl->FlV->Prop|.nx r,f=>∃s,f=.nx s/\Re K o r s|.bk r,f=>∃s,f=.bk s/\Re K o r s|.ct r,f=>∃s,f=.ct s/\Re K o r s|.rt w,f=>∃v,f=.rt v/\Rv K o w v
noncomputable def DQ (D:KS):FlV->Hp->Prop|.nx s,H=>D.nx s H|.bk s,H=>D.bk s H|.ct s,H=>D.ct s H|.rt v,H=>D.rt v H
noncomputable def tS (c:Cg)(g:KU->M Fl):TS:=λD σ H=>tG c (RFl c.K) g σ H<|DQ D
structure JS (X:Cx)(E:XK)(e:J2)(f:KU->M Fl):Prop where
 h:PS X e (tS (cg X E) f)
structure JSs (X:Cx)(E:XK)(e:↑J2)(f:KU->M Fl):Prop where
 h:PSs X e (tS (cg X E) f)
def PSs.imp {f:KU->M Fl}(h:PSs X e t)(k:∀D σ H ,tS (cg X E) f D σ H->t D σ H):JSs X E e f:=⟨λP4 s σ H D I q=>h P4 s σ H D I<|k D σ H q⟩
def PS.imp {f:KU->M Fl}(h:PS X e t)(k:∀D σ H ,tS (cg X E) f D σ H->t D σ H):JS X E e f:=⟨λP4 s σ H D I q=>h P4 s σ H D I<|k D σ H q⟩
def aa {α β γ:Type}(a:M α)(b:α->M β)(d:β->M γ):bd (bd a b) d=bd a λx=>bd (b x) d:=by funext h;unfold bd;cases a h<;>rfl
section
variable {X:Cx}{E:XK}{pos:JY}
noncomputable def OV:KU->M Fl:=λρ=>pr<|.nx ρ
noncomputable def OY (f g:KU->M Fl):KU->M Fl:=λρ=>bd (f ρ) λx=>match x with|.nx r=>g r|x=>pr x
def yX:JSs X E [] OV:=Oh.imp λD σ H h=>by let(o,ρ,rfl,R,S,h):=h;exact h.pr R (σ,rfl,S)
def AE {f g:KU->M Fl}(h:tS (cg X E) (OY f g) D σ H):tSeq (tS (cg X E) f) (tS (cg X E) g) D σ H:=by
 let(o,ρ,rfl,R,S,h):=h;refine(o,ρ,rfl,R,S,Ps.bd h λp x b e1 R1 r1 h1=>?_);cases x with|nx r=>let(s,rfl,re):=r1;exact(p,r,rfl,R1,re,h1)|bk r=>have q:=h1.pr R1 r1;let(s,rfl,re):=r1;exact q|ct r=>have q:=h1.pr R1 r1;let(s,rfl,re):=r1;exact q|rt r=>have q:=h1.pr R1 r1;let(s,rfl,re):=r1;exact q
def v5 {st:J2}{rest:↑J2}{f g:KU->M Fl}(h1:JS X E st f)(h2:JSs X E rest g):JSs X E (st::rest) (OY f g):=(i7 h1.h h2.h).imp λD σ H h=>AE h
def yW {st:J2}{f:KU->M Fl}(h1:JS X E st f):JSs X E [st] f:=⟨qB h1.h⟩
variable {e:Expr}{f:KU->M W}
noncomputable def OZ (i:Nat)(f:KU->M W):KU->M Fl:=λρ=>bd (f ρ) λw=>pr<|.nx<|ρ.set i<|some w
def BO {i:Nat}{x:Str}(hN:X.N.Nodup)(hi:X.N[i]?=`x)(hx:Loc X.env.scope x)(he:JE X E e f)(hs:swapsWith e (some<|.Name x pos') pos.line X.env=pure false:=by rfl)(hf:X.fn x=true\/X.env.scope.names.lookup x=some .local :=by subst_vars):
  JS X E (.Assign [.Name x pos'] e pos) (OZ i f):=(u8 hN hi hx he.h hs hf).imp λD σ H h=>by
 let(o,ρ,rfl,R,S,h):=h;exact(o,ρ,rfl,R,S,Ps.bd h λp x b e1 R1 r1 h1=>Ps.pr (b:=FlV.nx<|σ.set i<|some b) h1 R1 (_,rfl,(S.mono R e1).set r1 i))
noncomputable def OW (f:KU->M W):KU->M Fl:=λρ=>bd (f ρ) λw=>pr<|.rt w
def BP (he:JE X E e f):JS X E (.Return `e pos) (OW f):=(u9 he.h).imp λD σ H h=>by let(o,ρ,rfl,R,S,h):=h;exact(o,ρ,rfl,R,S,Ps.bd h λp x b e1 R1 r1 h1=>Ps.pr (b:=FlV.rt b) h1 R1 (_,rfl,r1))
noncomputable def sEx (f:KU->M W):KU->M Fl:=λρ=>bd (f ρ) λJ=>pr<|.nx ρ
def yY (he:JE X E e f)(hs:swapsWith e none pos.line X.env=pure false):JS X E (.Expr e pos) (sEx f):=(ym he.h hs).imp λD σ H h=>by let(o,ρ,rfl,R,S,h):=h;exact(o,ρ,rfl,R,S,Ps.bd h λp x b e1 R1 r1 h1=>Ps.pr (b:=FlV.nx σ) h1 R1 (_,rfl,S.mono R e1))
noncomputable def sIf (t:KU->M Bool)(f g:KU->M Fl):KU->M Fl:=λρ=>bd (t ρ) λb=>if b=true then f ρ else g ρ
def D9 {t:KU->M Bool}{f g:KU->M Fl}(hc:JT X E c t)(ha:JSs X E a f)(hb:JSs X E b g):JS X E (.If c a b pos) (sIf t f g):=(ay hc.h ha.h hb.h).imp λD σ H h=>by
 ac_nf;subst r1;cases x with|true=>exact MF (p,ρ,rfl,R1,S.mono R e1,h1)|false=>exact ME (p,ρ,rfl,R1,S.mono R e1,h1)
noncomputable def bh (t:KU->M Bool)(g:KU->M Fl):Nat->KU->M Fl
 |0,_=>no
 |n+1,ρ=>bd (t ρ) λb=>if b=true then bd (g ρ) λx=>match x with|.nx r=>bh t g n r|.ct r=>bh t g n r|.bk r=>pr (.nx r)|.rt w=>pr (.rt w)
  else pr (.nx ρ)
def v6 (n:Nat){t:KU->M Bool}{g:KU->M Fl}(hp:Ka (Jx X.prog X.w) X.A X.env X.xe)(hc:JT X E c t)(hb:JSs X E body g):
  JS X E (.While c body [] pos) (bh t g n):=(u7 hp hc.h hb.h).imp λD σ H h=>by
 let(o,ρ,rfl,R,S,h):=h;refine(λm σ H=>∃o ρ,o.H=H/\Rel X.K o/\Re X.K o ρ σ/\Ps (cg X E) (RFl X.K) o (bh t g m ρ o.h) (DQ D),(n,o,ρ,rfl,R,S,h),?_)
 rintro m σ H ⟨o,ρ,rfl,R,S,h⟩
 cases m with
 |zero=>exact h.elim
 |succ m=>
  refine(o,ρ,rfl,R,S,Ps.bd h λp x vx e1 R1 r1 h1=>?_);subst r1;cases x with
  |false=>exact ME<|Ps.pr (b:=FlV.nx σ) h1 R1 (_,rfl,S.mono R e1)
  |true=>
   refine MF (_,λσ' H' w=>(m,HF _,w),p,ρ,rfl,R1,S.mono R e1,Ps.bd h1 λq x b e2 R2 r2 h2=>?_);cases x with|nx r=>let(s,rfl,re):=r2;exact(q,r,rfl,R2,re,h2)|ct r=>let(s,rfl,re):=r2;exact(q,r,rfl,R2,re,h2)|bk r=>let(s,rfl,re):=r2;exact h2.pr R2 (b:=.nx s) (s,rfl,re)|rt w=>let(v,rfl,rv):=r2;exact h2.pr R2 (b:=.rt v) (v,rfl,rv)
structure Lg (K:Zf)(m:Nat)(g:TG)(t:W->KU->Option KU):Prop where
 ok:∀ (o:Wo) (w:W) (v:V) (ρ ρ2:KU) (σ:St),Rv K o w v->Re K o ρ σ->t w ρ=`ρ2->∃σ2,(∀Q:St->Hp->Prop ,Q σ2 o.H->g v σ o.H Q)/\Re K o ρ2 σ2/\σ2.drop m=σ.drop m/\⇑σ2=⇑σ
noncomputable def tgN (i:Nat):W->KU->Option KU:=λw ρ=>some<|ρ.set i<|some w
def bJ {K:Zf}(m i:Nat)(h:i<m):Lg K m (Mh i) (tgN i):=⟨λo w v ρ ρ2 σ rv re e=>by
 cases e
 exact(_,λQ q=>q,re.set rv i,by rw[Ij h],by rw[F3])⟩
noncomputable def gNs:↑Nat->TGs|[]=>Mi|i::r=>Me (Mh i)<|gNs r
noncomputable def O6:↑Nat->↑W->KU->Option KU|[],[],ρ=>`ρ|i::r,w::l,ρ=>O6 r l (ρ.set i<|some w)|_,_,_=>none
theorem z9 {K:Zf}{m:Nat}:∀ (is:↑Nat) (l:↑W) (vs:↑V) (ρ ρ2:KU) (σ:St),(∀i∈is ,i<m)->Rvs K o l vs->Re K o ρ σ->O6 is l ρ=`ρ2->∃σ2,(∀Q:St->Hp->Prop ,Q σ2 o.H->gNs is vs σ o.H Q)/\Re K o ρ2 σ2/\σ2.drop m=σ.drop m/\⇑σ2=⇑σ
 |[],[],vs,ρ,ρ2,σ,_,rv,re,e=>by unfold Rvs at rv;cases e;exact(σ,λQ q=>(rv,q),re,rfl,rfl)
 |[],_::_,_,_,_,_,_,_,_,e=>by cases e
 |_::_,[],_,_,_,_,_,_,_,e=>by cases e
 |i::is,w::l,vs,ρ,ρ2,σ,hm,rv,re,e=>by
  unfold Rvs at rv;let(v,r,rfl,h1,h2):=rv;let(σ2,a,b,c,d):=z9 is l r (ρ.set i<|some w) ρ2 (σ.set i<|some v) (λj hj=>hm j<|FX _ hj) h2 (re.set h1 i) e;refine(σ2,λQ q=>(v,r,rfl,a Q q),b,?_,?_);rw[c,Ij<|hm i FQ];rw[d,F3]
noncomputable def tgT (is:↑Nat):W->KU->Option KU:=λw ρ=>match w with|.tup l=>O6 is l ρ|_=>none
theorem mO:∀ {is:↑Nat}{l:↑W}{ρ ρ2:KU},O6 is l ρ=`ρ2->⇑l=⇑is|[],[],_,_,_=>rfl|[],_::_,_,_,e=>by cases e|_::_,[],_,_,e=>by cases e|_::is,_::l,_,_,e=>by rw[FA,FA,mO (is:=is) (l:=l) e]
def fJ {K:Zf}(m:Nat)(is:↑Nat)(h:∀i∈is ,i<m):Lg K m (Mj K ⇑is<|gNs is) (tgT is):=⟨λo w v ρ ρ2 σ rv re e=>by
 cases w with
 |tup l=>
  unfold Rv at rv;let(a,vs,rfl,s,r):=rv;have e:O6 is l ρ=`ρ2:=e;let(σ2,a1,a2,a3,a4):=z9 is l vs ρ ρ2 σ h r re e;exact(σ2,λQ q=>(a,vs,rfl,s,by rw[r.len,mO e],a1 Q q),a2,a3,a4)
 |_=>cases e⟩
open Classical in
noncomputable def gdh {α:Type}(G:↑Ob->Prop)(m:M α):M α:=λh=>if G h then m h else .bad
def cU {α:Type}{G:↑Ob->Prop}{m:M α}(q:G h):gdh G m h=m h:=by unfold gdh;rw[np q]
theorem Ps.gdh {α β:Type}{r:Wo->α->β->Prop}{G:↑Ob->Prop}{m:M α}{Q:β->Hp->Prop}(h:Ps c r o (gdh G m o.h) Q):G o.h/\Ps c r o (m o.h) Q:=by
 unfold L2.gdh at h;by_cases q:G o.h;rw[np q]at h;exact(q,h);rw[gV q]at h;exact h.elim
structure Sr where
 l:↑W
 G:↑Ob->Prop
structure Le (K:Zf)(o0:Wo)(J:It)(s:Sr):Prop where
 stop:∀o,Ex o0 o->Rel K o->s.G o.h->J.stop ⇑s.l o.H
 go:∀o i w,Ex o0 o->Rel K o->s.G o.h->s.l[i]?=`w->J.go i o.H/\∀x H',J.yld i o.H x H'->∃p,p.H=H'/\p.h=o.h/\Ex o p/\Rel K p/\Rv K p w x
noncomputable def tI (c:Cg)(src:KU->M Sr):TI:=λσ H R=>tG c (λp s J=>Le c.K p J s) src σ H R
structure JI (X:Cx)(E:XK)(tg iter:Expr)(f:KU->M Sr):Prop where
 h:PI X tg iter (tI (cg X E) f)
def PI.imp {tg iter:Expr}{t:TI}{f:KU->M Sr}(h:PI X tg iter t)(k:∀σ H R ,tI (cg X E) f σ H R->t σ H R):JI X E tg iter f:=⟨λP4 s σ H R I q=>h P4 s σ H R I<|k σ H R q⟩
noncomputable def Pm (w:W):M Sr:=match w with
 |.tl l=>pr (l,λJ=>True)
 |.cl l=>pr (l,λJ=>True)
 |.loc k=>λh=>match h[k]? with|some (.lst l)=>.ok (l,λh=>h[k]?=some (.lst l)) h|_=>.bad
 |_=>no
noncomputable def Nu (f:KU->M W)(g:W->M Sr):KU->M Sr:=λρ=>bd (f ρ) g
def iS {K:Zf}(h:∀o ,Ex o0 o->Rel K o->s.G o.h->∃vs,SqL K o.H a vs/\Rvs K o s.l vs):Le K o0 (Itl K a) s:=by
 refine(λo X R g=>?_,λo i w X R g e=>?_);let(vs,s,r):=h o X R g;exact(vs,s,GV r.len)
 .let(vs,s,r):=h o X R g;let(v,hv,rv):=r.get e;refine((vs,v,s,hv),λx H' y=>?_);let(rfl,y):=y;have:x=v:=by have:=y vs s;rw[hv]at this;exact (Option.some.inj this).symm
  subst this;exact(o,rfl,rfl,Ex.refl _,R,rv)
set_option tactic.hygienic true in
def zc {fl:KU->M W}(hl:JE X E l fl):JI X E tg l (Nu fl Pm):=(yv hl.h).imp λσ H Q h=>by
 ac_nf;cases x with
 |tl l=>
  have r1':=r1;unfold Rv at r1;let(a,vs,rfl,s,n,r):=r1;refine(a,rfl,(vs,.of s),h1.pr R1<|iS λo X R g=>?_);exact(vs,.of (X.fr a _ s n).1,r.mono R1 X)
 |cl l=>
  unfold Rv at r1;let(a,vs,rfl,s,r):=r1;have sq:∀o,Ex p o->SqL X.K o.H a vs:=λo X=>by
   rcases s with⟨s,n⟩|s
   exact .inl (X.rd s n).1;exact .inr s
  exact(a,rfl,(vs,sq p<|Ex.refl _),h1.pr R1<|iS λo X R g=>(vs,sq o X,r.mono R1 X))
 |loc k=>
  unfold Rv at r1;let(hk,rfl):=r1;unfold Pm at h1;dsimp only at h1;split at h1;rename_i l hl;let(vs,h3,h4):=R1.ob k _ hl;refine(_,rfl,(vs,.of h3),Ps.at (p:=p) h1 rfl (Ex.refl _) R1<|iS λo X R g=>?_);let(vs',h5,h6):=R.ob k _ g;rw[X.mu k hk]at h5;exact(vs',.of h5,h6);exact h1.elim
 |_=>exact h1.elim
noncomputable def Pn (w:W):M Sr:=match w with|.tup l=>pr (l,λJ=>True)|_=>no
def BZ {fl:KU->M W}(hl:JE X E l fl):JI X E tg l (Nu fl Pn):=(Ba hl.h).imp λσ H Q h=>by
 ac_nf;cases x with
 |tup l=>
  unfold Rv at r1;let(a,vs,rfl,s,r):=r1;refine(a,rfl,(vs,s),h1.pr R1 (λo X R g=>(vs,X.rdT R1 s,GV r.len),λo i w X R g e=>?_));let(v,hv,rv):=(r.mono R1 X).get e;have sq:=X.rdT R1 s;refine((vs,v,sq,hv),λx H' y=>?_);let(rfl,y):=y;have:x=v:=by have:=y vs sq;rw[hv]at this;exact (Option.some.inj this).symm
  subst this;exact(o,rfl,rfl,Ex.refl _,R,rv)
 |_=>exact h1.elim
noncomputable def My (lo:Int):Nat->↑W
 |0=>[]
 |n+1=>.int lo::My (lo+1) n
theorem cu:∀ (n:Nat) (lo:Int),⇑(My lo n)=n|0,_=>rfl|n+1,lo=>by rw[My,FA,cu n]
theorem dG:∀ (n:Nat) (lo:Int) (i:Nat) (w:W),(My lo n)[i]?=`w->w=.int (lo+i)/\i<n|0,_,_,_,h=>by simp [My]at h|n+1,lo,0,w,h=>by rw[My]at h;cases h;exact(⇑_,HK _)|n+1,lo,i+1,w,h=>by rw[My,Gn]at h;let(e,l):=dG n (lo+1) i w h;exact(by rw[e];congr 1;omega,∅)
def ky {K:Zf}{lo:Int}{n:Nat}:Le K o0 (Itr lo n) (My lo n,λJ=>True):=by
 refine(λo X R g=>?_,λo i w X R g e=>?_);show n<=⇑(My lo n);rw[cu];exact Fw _;let(rfl,hi):=dG n lo i w e;refine(hi,λx H' y=>?_);let(rfl,rfl):=y;exact(o,rfl,rfl,Ex.refl _,R,OE.mpr rfl)
noncomputable def Ow (l:↑W):M Sr:=match l with|[.int j]=>gd (-(2^62)<=j/\j<2^62) (pr (My 0 j.toNat,λJ=>True))|_=>no
noncomputable def Ox (l:↑W):M Sr:=match l with|[.int i,.int j]=>gd (-(2^62)<=i/\i<2^62/\ -(2^62)<=j/\j<2^62) (pr (My i (j-i).toNat,λJ=>True))|_=>no
noncomputable def Nv (f:KU->M ↑W)(g:↑W->M Sr):KU->M Sr:=λρ=>bd (f ρ) g
def sW {fl:KU->M ↑W}(hg:Gl X "range")(hm:X.mg "range"=none)(ha:JA X E [a] fl)(hs:J1 [a] X.env=[(false ,JX a X.env)]):JI X E tg (.Call (.Name "range" p) [a] [] pos) (Nv fl Ow):=
 (sD hg hm ha.h hs).imp λσ H Q h=>by
 ac_nf;unfold Ow at h1;split at h1;let(hz,h1):=h1.gd;unfold Rvs Rvs at r1;let(v,r,rfl,a1,rfl):=r1;exact(_,by rw[OE.mp a1],hz.1,hz.2,h1.pr R1 ky);exact h1.elim
def sV {fl:KU->M ↑W}(hg:Gl X "range")(hm:X.mg "range"=none)(ha:JA X E [a,b] fl)(hs:J1 [a,b] X.env=[(false ,JX a X.env),(false ,JX b X.env)])(hs2:J1 [b] X.env=[(false ,JX b X.env)]):
  JI X E tg (.Call (.Name "range" p) [a,b] [] pos) (Nv fl Ox):=(sC hg hm ha.h hs hs2).imp λσ H Q h=>by
 ac_nf;unfold Ox at h1;split at h1;let(hz,h1):=h1.gd;unfold Rvs Rvs Rvs at r1;let(v,r,rfl,a1,v',r',rfl,a2,rfl):=r1;exact(_,_,by rw[OE.mp a1,OE.mp a2],hz,h1.pr R1 ky);exact h1.elim
noncomputable def forM (G:↑Ob->Prop)(t:W->KU->Option KU)(g:KU->M Fl):↑W->KU->M Fl
 |[],ρ=>gdh G<|pr<|.nx ρ
 |w::l,ρ=>gdh G (match t w ρ with
  |none=>no
  |some r=>bd (g r) λx=>match x with
   |.nx r'=>forM G t g l r'
   |.ct r'=>forM G t g l r'
   |.bk r'=>pr (.nx r')
   |.rt v=>pr<|.rt v)
noncomputable def OP (src:KU->M Sr)(t:W->KU->Option KU)(g:KU->M Fl):KU->M Fl:=λρ=>bd (src ρ) λs=>forM s.G t g s.l ρ
def BQ {tg iter:Expr}{body:↑J2}{src:KU->M Sr}{t:W->KU->Option KU}{gT:TG}{g:KU->M Fl}{m:Nat}(hp:Ka (Jx X.prog X.w) X.A X.env X.xe)(hc:X.calm=true)(hi:JI X E tg iter src)(hg:PG X tg gT)(ht:Lg X.K m gT t)(hb:JSs X E body g)
  (hs:∀x ,Kg iter X.env x=pure x:=by intro _;rfl):JS X E (.For tg iter body [] pos) (OP src t g):=(A4 hp hc hi.h hg hb.h hs).imp λD σ H h=>by
 let(o,ρ,rfl,R,S,h):=h;refine(o,ρ,rfl,R,S,Ps.bd h λo1 s J e1 R1 sk h1=>?_);refine(λi n σ H=>n=⇑s.l-i/\i<=⇑s.l/\∃o ρ,o.H=H/\Ex o1 o/\Rel X.K o/\Re X.K o ρ σ/\Ps (cg X E) (RFl X.K) o (forM s.G t g (s.l.drop i) ρ o.h) (DQ D),(_,rfl,FU _,o1,ρ,rfl,Ex.refl _,R1,S.mono R e1,h1),?_)
 rintro i n σ H ⟨rfl,hi,o,ρ,rfl,X1,R,S,h⟩
 by_cases hlt:i<⇑s.l
 .obtain⟨w,hw⟩:∃w,s.l[i]?=`w:=(_,FS hlt)
  have hd:s.l.drop i=w::s.l.drop (i+1):=by rw[He hlt];rw[FS hlt]at hw;rw[Option.some.inj hw]
  rw[hd]at h;unfold forM at h;let(hG,h):=h.gdh;let(hgo,hy):=sk.go o i w X1 R hG hw;refine .inr (hgo,λσ' H'=>∃o ρ,o.H=H'/\Ex o1 o/\Rel X.K o/\Re X.K o ρ σ'/\Ps (cg X E) (RFl X.K) o (forM s.G t g (s.l.drop<|i+1) ρ o.h) (DQ D),λσ' H' q=>(_,∅,rfl,hlt,q),λx H' y=>?_);let(p,rfl,eh,X2,R2,rv):=hy x H' y;cases et:t w ρ with
  |none=>rw[et]at h;exact h.elim
  |some r=>
   rw[et]at h;let(σ2,k1,k2,_,_):=ht.ok p w x ρ r σ rv (S.mono R X2) et;refine k1 _ ?_
   have h2:Ps (cg X E) (RFl X.K) p (bd (g r) (λx=>match x with
    |.nx r'=>forM s.G t g (s.l.drop<|i+1) r'
    |.ct r'=>forM s.G t g (s.l.drop<|i+1) r'
    |.bk r'=>pr (.nx r')
    |.rt v=>pr<|.rt v) p.h) (DQ D):=by rw[eh];exact h.after X2
   refine(p,r,rfl,R2,k2,Ps.bd h2 λq x b e3 R3 r3 h3=>?_);cases x with|nx r=>let(s',rfl,re):=r3;exact(q,r,rfl,(X1.trans X2).trans e3,R3,re,h3)|ct r=>let(s',rfl,re):=r3;exact(q,r,rfl,(X1.trans X2).trans e3,R3,re,h3)|bk r=>let(s',rfl,re):=r3;exact h3.pr R3 (b:=.nx s') (s',rfl,re)|rt w=>let(v,rfl,rv):=r3;exact h3.pr R3 (b:=.rt v) (v,rfl,rv)
 have e:i=⇑s.l:=∅;subst e;rw[Ik]at h;unfold forM at h;let(hG,h):=h.gdh;exact .inl (sk.stop o X1 R hG,Ps.pr (b:=FlV.nx σ) h R (σ,rfl,S))
end
end
section
section
variable {X:Cx}{E:XK}{pos:JY}
def Dm {l:KU->M ↑W}(h:tM (cg X E) (mTl l) σ H Q):tF (cg X E) l σ H Q:=by let(o,ρ,rfl,R,S,h):=h;exact(o,ρ,rfl,R,S,Ps.bd h λp x vx e1 R1 r1 h1=>λq hq=>Ps.at (p:=(p.mu,p.h,upd p.H q<|.lst vx)) h1 rfl (Ex.new hq) (R1.new hq)<|Rv.newL R1 hq r1)
def AD {i:Nat}{f:KU->M W}(h:tS (cg X E) (OZ i f) D σ H):Pv (tM (cg X E) f) (Mh i) D σ H:=by let(o,ρ,rfl,R,S,h):=h;exact(o,ρ,rfl,R,S,Ps.bd h λp x b e1 R1 r1 h1=>Ps.pr (b:=FlV.nx<|σ.set i<|some b) h1 R1 (_,rfl,(S.mono R e1).set r1 i))
noncomputable def LG (G:↑Ob->Prop)(t:W->KU->Option KU)(f:KU->M Bool)(e:KU->M W)(n:Nat):↑W->KU->M ↑W
 |[],ρ=>gdh G<|pr []
 |w::l,ρ=>gdh G (match t w (List.replicate n none++ρ) with
  |none=>no
  |some r=>bd (f r) λb=>if b=true then bd (e r) λx=>bd (LG G t f e n l ρ) λm=>pr (x::m) else LG G t f e n l ρ)
noncomputable def Nh (hs:↑Nat)(src:KU->M Sr)(t:W->KU->Option KU)(f:KU->M Bool)(e:KU->M W)(n:Nat):KU->M ↑W:=λρ=>
 gd ((hs.all λi=>(ρ[i]?.join).isNone)=true) (bd (src ρ) λs=>gd (⇑s.l<=sizeLine)<|LG s.G t f e n s.l ρ)
variable {elt iter tg:Expr}{ifs:↑Expr}{scope:JU}{ls:↑Str}{gT:TG}{t:W->KU->Option KU}{f:KU->M Bool}{e:KU->M W}{src:KU->M Sr}{hs:↑Nat}{wh:Prop}
def qf (ht:Lg X.K ⇑ls gT t)(h:tF (cg X E) (Nh hs src t f e ⇑ls) σ H Q):Pw X.N ls (tI (cg X E) src) gT (tT (cg X E) f) (tM (cg X E) e) σ H Q:=by
 let(o,ρ,rfl,R,S,h):=h;unfold Nh at h;let(h0,h):=h.gd;refine(rfl,o,ρ,rfl,R,S,Ps.bd h λo1 s J e1 R1 sk h1=>?_);let(hz,h1):=h1.gd;have S1:=S.mono R e1
 refine(λi n ys H=>n=⇑s.l-i/\i<=⇑s.l/\∃o acc,o.H=H/\Ex o1 o/\Rel X.K o/\Rvs X.K o acc ys/\⇑acc<=i/\Ps (cg X E) (Rvs X.K) o (bd (LG s.G t f e ⇑ls (s.l.drop i) ρ) (λm=>pr<|acc++m) o.h) (λvs H1=>∀q ,H1 q=none->Q (.ref q) (upd H1 q<|.lst vs)),
  (_,rfl,FU _,o1,[],rfl,Ex.refl _,R1,Rvs.nil,Fw _,?_),?_)
 .have:bd (LG s.G t f e ⇑ls (s.l.drop 0) ρ) (λm=>pr<|[]++m)=LG s.G t f e ⇑ls s.l ρ:=by funext h;rw[List.drop_zero];unfold bd;cases LG s.G t f e ⇑ls s.l ρ h<;>rfl
  rw[this];exact h1
 rintro i n ys H ⟨rfl,hi,o,acc,rfl,X1,R,A,ha,h⟩
 have S2:=S1.mono R1 X1;have gs:∀ {α β γ:Type}{r:Wo->β->γ->Prop}{m:M α}{k:α->M β}{Q':γ->Hp->Prop},Ps (cg X E) r o (bd (gdh s.G m) k o.h) Q'->s.G o.h/\Ps (cg X E) r o (bd m k o.h) Q':=λ{α β γ r m k Q'} q=>by
  have:bd (gdh s.G m) k o.h=gdh s.G (bd m k) o.h:=by
   unfold bd L2.gdh;by_cases z:s.G o.h;simp only[np z];simp only[gV z]
  rw[this]at q;exact q.gdh
 by_cases hlt:i<⇑s.l
 .obtain⟨w,hw⟩:∃w,s.l[i]?=`w:=(_,FS hlt)
  have hd:s.l.drop i=w::s.l.drop (i+1):=by rw[He hlt];rw[FS hlt]at hw;rw[Option.some.inj hw]
  rw[hd]at h;unfold LG at h;let(hG,h):=gs h;let(hgo,hy):=sk.go o i w X1 R hG hw;refine .inr (hgo,λys' H'=>∃o acc,o.H=H'/\Ex o1 o/\Rel X.K o/\Rvs X.K o acc ys'/\⇑acc<=i+1/\Ps (cg X E) (Rvs X.K) o (bd (LG s.G t f e ⇑ls (s.l.drop<|i+1) ρ) (λm=>pr<|acc++m) o.h) (λvs H1=>∀q ,H1 q=none->Q (.ref q) (upd H1 q<|.lst vs)),λys' H' q=>(_,∅,rfl,hlt,q),λx H' y=>?_);let(p,rfl,eh,X2,R2,rv):=hy x H' y;cases et:t w (List.replicate ⇑ls none++ρ) with
  |none=>rw[et]at h;exact h.elim
  |some r=>
   rw[et]at h;let(σ2,k1,k2,k3,k4):=ht.ok p w x _ r (List.replicate ⇑ls none++σ) rv ((S2.mono R X2).front _) et;refine k1 _ (?_,?_,?_);rw[k3,List.drop_left'<|by rw[GW]];rw[k4,FH,GW]
   have h2:Ps (cg X E) (Rvs X.K) p (bd (f r) (λb=>bd (if b=true then bd (e r) λx=>bd (LG s.G t f e ⇑ls (s.l.drop<|i+1) ρ) λm=>pr (x::m) else LG s.G t f e ⇑ls (s.l.drop<|i+1) ρ) λm=>pr<|acc++m) p.h) (λvs H1=>∀q ,H1 q=none->Q (.ref q) (upd H1 q<|.lst vs)):=by rw[eh];rw[aa]at h;exact h.after X2
   refine(p,r,rfl,R2,k2,Ps.bd h2 λq b vb e3 R3 r3 h3=>?_);subst r3;have A3:=(A.mono R X2).mono R2 e3;cases b with
   |false=>
    exact ME (q,acc,rfl,(X1.trans X2).trans e3,R3,A3,∅,h3)
   |true=>
    rw[np rfl,aa]at h3;refine MF (q,r,rfl,R3,k2.mono R2 e3,Ps.bd h3 λq2 x vx e4 R4 r4 h4=>(?_,q2,acc++[x],rfl,((X1.trans X2).trans e3).trans e4,R4,(A3.mono R3 e4).app<|Rvs.cons r4 Rvs.nil,?_,?_));rw[(A3.mono R3 e4).len];omega;rw[FH,Hr];omega
    .rw[aa]at h4;have ee:(λm=>bd (pr (x::m)) λm=>pr<|acc++m)=(λm:↑W=>(pr (acc++[x]++m):M ↑W)):=by funext m h;show Rs.ok (acc++(x::m)) h=Rs.ok (acc++[x]++m) h;rw[FZ];rfl
     rw[ee]at h4;exact h4
 have ei:i=⇑s.l:=∅;subst ei;rw[Ik]at h;unfold LG at h;let(hG,h):=gs h;have h:Ps (cg X E) (Rvs X.K) o (pr (acc++[]) o.h) (λvs H1=>∀q ,H1 q=none->Q (.ref q) (upd H1 q<|.lst vs)):=h;rw[F5]at h;exact .inl (sk.stop o X1 R hG,h.pr R A)
structure JQ (X:Cx)(E:XK)(ifs:↑Expr)(f:KU->M Bool):Prop where
 h:K8 X ifs (tT (cg X E) f)
noncomputable def Nz:KU->M Bool:=λJ=>pr true
def za:JQ X E [] Nz:=⟨λP4 s σ H Q I h=>yt P4 s σ H Q I (by
 let(o,ρ,rfl,R,S,h):=h
 exact Ps.pr (b:=true) h R rfl)⟩
def y9 (h:JT X E c f):JQ X E [c] f:=⟨yr h.h⟩
def bK (hcalm:X.calm=true)(S:CScope X ls scope)(hi:JI X E tg iter src)(hg:∀C s2 H2 fp ,PG (cxC X ls scope C s2 H2 fp) tg gT)(ht:Lg X.K ⇑ls gT t)
  (hf:∀C s2 H2 fp ,JQ (cxC X ls scope C s2 H2 fp) E ifs f)(he:∀C s2 H2 fp ,JE (cxC X ls scope C s2 H2 fp) E elt e)(hh:wh)
  (hs':∀x ,Kg iter X.env x=pure x:=by intro _;rfl):JF X E (.ListComp elt [(tg,iter,ifs,0)] scope pos) (Nh hs src t f e ⇑ls):=
 (yB hcalm S hi.h hg (λC s2 H2 fp=>(hf C s2 H2 fp).h) (λC s2 H2 fp=>(he C s2 H2 fp).h) hs').impF λσ H Q h=>qf ht h
def v8 {i:Nat}{x:Str}(hN:X.N.Nodup)(hx1:X.N[i]?=`x)(hx:X.env.scope.names.lookup x=some .local)(hcalm:X.calm=true)(S:CScope X ls scope)(hi:JI X E tg iter src)(hg:∀C s2 H2 fp ,PG (cxC X ls scope C s2 H2 fp) tg gT)(ht:Lg X.K ⇑ls gT t)
  (hf:∀C s2 H2 fp ,JQ (cxC X ls scope C s2 H2 fp) E ifs f)(he:∀C s2 H2 fp ,JE (cxC X ls scope C s2 H2 fp) E elt e)(hh:wh)
  (hsw:swapsWith (.ListComp elt [(tg,iter,ifs,0)] scope pos) (some<|.Name x px) spos.line X.env=pure true:=by rfl)
  (hs':∀x ,Kg iter X.env x=pure x:=by intro _;rfl):JS X E (.Assign [.Name x px] (.ListComp elt [(tg,iter,ifs,0)] scope pos) spos) (OZ i<|mTl<|Nh hs src t f e ⇑ls):=
 (oV hN hx1 hx hcalm S hi.h hg (λC s2 H2 fp=>(hf C s2 H2 fp).h) (λC s2 H2 fp=>(he C s2 H2 fp).h) hsw hs').imp λD σ H h=>qf ht<|Dm<|AD h
end
end
section
section
variable {X:Cx}{E:XK}{pos p:JY}{a b:Expr}{l:KU->M ↑W}
def Rvs.one {K:Zf}{w:W}(h:Rvs K o [w] vs):∃v,vs=[v]/\Rv K o w v:=by unfold Rvs Rvs at h;let(v,r,rfl,h1,rfl):=h;exact(v,rfl,h1)
def Rvs.two {K:Zf}{w x:W}(h:Rvs K o [w,x] vs):∃v u,vs=[v,u]/\Rv K o w v/\Rv K o x u:=by unfold Rvs Rvs Rvs at h;let(v,r,rfl,h1,u,r2,rfl,h2,rfl):=h;exact(v,u,rfl,h1,h2)
noncomputable def MY (ws:↑W):M W:=match ws with|[.str z]=>gd (⇑z<=sizeLine) (pr<|.int ⇑z)|[.tup l]=>pr (.int ⇑l)|[w]=>bd (Na w) λl=>pr (.int ⇑l)|_=>no
def C4:KP X E (λxs H Q=>(λxs H Q=>∃z ,xs=[.str z]/\⇑z<=sizeLine/\Q (.int ⇑z) H) xs H Q\/(λxs H Q=>∃p ys ,xs=[.ref p]/\(SqL X.K H p ys\/SqT X.K H p ys)/\Q (.int ⇑ys) H) xs H Q) MY:=by
 intro o ws vs Q R rv h;unfold MY at h;split at h;let(v,rfl,r):=rv.one;let(hz,h):=h.gd;exact .inl (_,by rw[OG.mp r],hz,h.pr R<|OE.mpr rfl);let(v,rfl,r):=rv.one;unfold Rv at r;let(a,us,rfl,s,r):=r;exact .inr (a,us,rfl,.inr s,by rw[r.len];exact h.pr R<|OE.mpr rfl);let(v,rfl,r):=rv.one;let(l,a,us,rfl,s,r,h):=bT R r h;exact .inr (a,us,rfl,.inl s,by rw[r.len];exact h.pr R<|OE.mpr rfl);exact h.elim
def Cf (hm:X.mg "len"=none)(ha:JA X E [a] l)(hg:Gl X "len")(he:J1 [a] X.env=(false ,JX a X.env)::J1 [] X.env)(hpl:(JZ pos<|J1 [] X.env).any (·.1)=false):JE X E (.Call (.Name "len" p) [a] [] pos) (Ng MY l):=
 cM (Ly.or mw) C4 hg hm PySem.boot_len ha (he:=he) (hpl:=hpl)
noncomputable def iOf:W->Option Int|.int i=>`i|_=>none
noncomputable def bOf:W->Option Bool|.bl i=>`i|_=>none
set_option tactic.hygienic true in
theorem cS {K:Zf}{α:Type}{f:W->Option α}{g:α->V}(hf:∀w a v ,f w=`a->Rv K o w v->v=g a):∀ {l:↑W}{xs:↑α}{vs:↑V},NU f l=`xs->Rvs K o l vs->vs=xs.map g
 |[],xs,vs,e,h=>by unfold Rvs at h;cases e;exact h
 |w::l,xs,vs,e,h=>by
  unfold Rvs at h;let(v,r,rfl,h1,h2):=h;unfold NU at e;split at e;rename_i d ds e1 e2;cases e;rw[hf w d v e1 h1,cS hf e2 h2];rfl;cases e
def g0 {K:Zf}:∀ (w:W) (a:Int) (v:V),iOf w=`a->Rv K o w v->v=.int a:=λw a v e h=>by cases w<;>first|(cases e;exact OE.mp h)|cases e
def xB {K:Zf}:∀ (w:W) (a:Bool) (v:V),bOf w=`a->Rv K o w v->v=.bl a:=λw a v e h=>by cases w<;>first|(cases e;exact OD.mp h)|cases e
noncomputable def Pu (ws:↑W):M W:=match ws with
 |[w]=>bd (Na w) λl=>match NU iOf l with|some ns=>pr (.int ns.sum)|none=>no
 |_=>no
def B4 (hc:X.calm=true)(hm:X.mg "sum"=none)(ha:JA X E [a] l)(hg:Gl X "sum")(he:J1 [a] X.env=(false ,JX a X.env)::J1 [] X.env)(hpl:(JZ pos<|J1 [] X.env).any (·.1)=false):JE X E (.Call (.Name "sum" p) [a] [] pos) (Ng Pu l):=
 cM (xu hc) (λo ws vs Q R rv h=>by
  unfold Pu at h;split at h
  .let(v,rfl,r):=rv.one;let(l,a,us,rfl,s,r,h):=bT R r h;cases e:NU iOf l with
   |none=>rw[e]at h;exact h.elim
   |some ns=>
    rw[e]at h;rw[cS g0 e r]at s;exact(a,ns,rfl,s,h.pr R<|OE.mpr rfl)
  .exact h.elim) hg hm PyProof.Rows.boot_sum ha (he:=he) (hpl:=hpl)
noncomputable def Lq (ws:↑W):M W:=match ws with
 |[w]=>bd (Na w) λl=>match NU bOf l with|some ns=>pr (.bl<|ns.all id)|none=>no
 |_=>no
def Cu (hc:X.calm=true)(hm:X.mg "all"=none)(ha:JA X E [a] l)(hg:Gl X "all")(he:J1 [a] X.env=(false ,JX a X.env)::J1 [] X.env)(hpl:(JZ pos<|J1 [] X.env).any (·.1)=false):JE X E (.Call (.Name "all" p) [a] [] pos) (Ng Lq l):=
 cM (xw hc) (λo ws vs Q R rv h=>by
  unfold Lq at h;split at h
  .let(v,rfl,r):=rv.one;let(l,a,us,rfl,s,r,h):=bT R r h;cases e:NU bOf l with
   |none=>rw[e]at h;exact h.elim
   |some ns=>
    rw[e]at h;rw[cS xB e r]at s;exact(a,ns,rfl,s,h.pr R<|OD.mpr rfl)
  .exact h.elim) hg hm PyProof.Rows.boot_all ha (he:=he) (hpl:=hpl)
noncomputable def gG (ws:↑W):M W:=match ws with|[.tup l]=>pr (.tup l)|[w]=>bd (Na w) λl=>pr (.tup l)|_=>no
def wc (hm:X.mg "tuple"=none)(ha:JA X E [a] l)(hg:Gl X "tuple")(he:J1 [a] X.env=(false ,JX a X.env)::J1 [] X.env)(hpl:(JZ pos<|J1 [] X.env).any (·.1)=false):JE X E (.Call (.Name "tuple" p) [a] [] pos) (Ng gG l):=
 tf j7 (λo ws vs Q R rv h=>by
  unfold gG at h;split at h;let(v,rfl,r):=rv.one;have r0:=r;unfold Rv at r;let(a,us,rfl,s,r):=r;exact(a,us,rfl,.inr (s,h.pr R r0));let(v,rfl,r):=rv.one;let(l,a,us,rfl,s,r,h):=bT R r h;exact(a,us,rfl,.inl (s,λq hq=>fk R hq r h))
  .exact h.elim) hg hm PyProof.Rows.boot_tuple ha (he:=he) (hpl:=hpl)
noncomputable def MZ (l:KU->M ↑W):KU->M ↑W:=λρ=>bd (l ρ) λws=>match ws with|[.tup l]=>pr l|[w]=>Na w|_=>no
def ww {w:W}{Q:↑V->Hp->Prop}(R:Rel X.K o)(hr:Rv X.K o w v)(h:Ps (cg X E) (Rvs X.K) o (Na w o.h) Q):∃l a vs,v=.ref a/\SqL X.K o.H a vs/\Rvs X.K o l vs/\Q vs o.H:=by
 have e:Na w=bd (Na w) λl=>pr l:=by funext h;unfold bd;cases Na w h<;>rfl
 rw[e]at h;let(l,a,vs,e1,e2,e3,h):=bT R hr h;exact(l,a,vs,e1,e2,e3,h.pr R e3)
def zf (hm:X.mg "list"=none)(ha:JA X E [a] l)(hg:Gl X "list")(he:J1 [a] X.env=(false ,JX a X.env)::J1 [] X.env)(hpl:(JZ pos<|J1 [] X.env).any (·.1)=false):JF X E (.Call (.Name "list" p) [a] [] pos) (MZ l):=
 (gP mr hg hm PyProof.Rows.boot_list ha.h (he:=he) (hpl:=hpl)).impF λσ H Q h=>by
  let(o,ρ,rfl,R,S,h):=h;refine(o,ρ,rfl,R,S,Ps.bd h λp x vx e1 R1 r1 h1=>?_);split at h1;let(v,rfl,r):=r1.one;unfold Rv at r;let(a,us,rfl,s,r):=r;exact(a,us,rfl,.inr s,h1.pr R1 r);let(v,rfl,r):=r1.one;let(l,a,us,rfl,s,r,q):=ww R1 r h1;exact(a,us,rfl,.inl s,q);exact h1.elim
noncomputable def No (chk:W->M W)(f:W->↑W->M W)(fo:KU->M W)(l:KU->M ↑W):KU->M W:=λρ=>bd (fo ρ) λx=>bd (chk x) λx=>bd (l ρ) λws=>f x ws
variable {o e:Expr}{apos cpos:JY}{fo:KU->M W}
noncomputable def isL (w:W):M W:=match w with
 |.loc k=>λh=>match h[k]? with|some (.lst _)=>.ok (.loc k) h|_=>.bad
 |_=>no
def pM {α β:Type}{r:Wo->α->β->Prop}{o:Wo}{w:W}{v:V}{k:W->M α}{Q:β->Hp->Prop}(R:Rel X.K o)(hr:Rv X.K o w v)(h:Ps (cg X E) r o (bd (isL w) k o.h) Q):
  ∃j l vs,w=.loc j/\o.h[j]?=some (.lst l)/\v=.ref (o.mu j)/\j<⇑o.h/\o.H (o.mu j)=some (.lst vs)/\Rvs X.K o l vs/\Ps (cg X E) r o (k (.loc j) o.h) Q:=by
 cases w with
 |loc j=>
  unfold Rv at hr;unfold isL bd at h;cases e:o.h[j]? with
  |none=>simp only[e]at h;exact h.elim
  |some b=>
   cases b with
   |lst l=>
    simp only[e]at h;let(vs,h1,h2):=R.ob j _ e;exact(j,l,vs,rfl,e,hr.2,hr.1,h1,h2,h)
   |_=>simp only[e]at h;exact h.elim
 |_=>exact h.elim
noncomputable def cA (x:W)(ws:↑W):M W:=match x,ws with
 |.loc k,[w]=>λh=>match h[k]? with|some (.lst l)=>if ⇑l<sizeLine then .ok .non (h.set k<|.lst<|l++[w]) else .bad|_=>.bad
 |_,_=>no
def tj (ho:JE X E o fo)(ha:JA X E [e] l)(hbase:Kj o "append" X.env (JX o X.env)=JX o X.env)
  (hfew:((JZ cpos<|J1 [e] X.env).all (λx=>!x.1)&&(Kk cpos<|Kl [] X.env).all (λx=>x.1.isSome)&&decide (⇑([e]:↑Expr)+⇑([]:↑Kr)+(if ([]:↑Kr).isEmpty then 0 else 1)<30))=true)
  (hline:(apos.endLine==cpos.line)=true)(hs:J1 [e] X.env=(false ,JX e X.env)::J1 [] X.env)(hplain:(JZ cpos<|J1 [] X.env).any (·.1)=false):
  JE X E (.Call (.Attribute o "append" apos) [e] [] cpos) (No isL cA fo l):=
 (vE PySem.F.plainAttrs_list PySem.F.slot_list_append PySem.F.type_list_append sR ho.h ha.h hbase hfew hline hs hplain).imp λσ H Q h=>by
  let(w,ρ,rfl,R,S,h):=h;refine(w,ρ,rfl,R,S,Ps.bd h λp x vx e1 R1 r1 h1=>?_);let(j,l0,vs0,rfl,hj,rfl,hlt,hH,hl0,h1):=pM R1 r1 h1;refine(.inl (rfl,vs0,.of hH),p,ρ,rfl,R1,S.mono R e1,Ps.bd h1 λq ws vs e2 R2 r2 h2=>?_);rcases ws with _|⟨w',_|⟨_,_⟩⟩
  exact h2.elim
  .unfold cA at h2;cases e:q.h[j]? with
   |none=>simp only[e]at h2;exact h2.elim
   |some b=>
    cases b with
    |lst l'=>
     simp only[e]at h2;let(v,rfl,r):=r2.one;let(us,k1,k2):=R2.ob j _ e;by_cases z:⇑l'<sizeLine
     .rw[np z]at h2;rw[e2.mu j hlt]at k1;refine(p.mu j,us,v,rfl,rfl,k1,by rw[k2.len];exact z,?_);have:=Ps.at (p:=q.put j (.lst<|l'++[w'])<|.lst<|us++[v]) (b:=V.non) h2 rfl (Ex.put e ⇑_) (R2.putL e ⇑_ (k2.app<|Rvs.cons r Rvs.nil))<|OF.mpr rfl;have em:q.mu j=p.mu j:=e2.mu j hlt;have ew:(q.put j (.lst<|l'++[w'])<|.lst<|us++[v]).H=upd q.H (p.mu j) (.lst<|us++[v]):=by show upd q.H (q.mu j) _=_;rw[em]
      rw[ew]at this;exact this
     rw[gV z]at h2;exact h2.elim
    |_=>simp only[e]at h2;exact h2.elim
  exact h2.elim
noncomputable def Mt (w:W):M W:=match w with
 |.loc k=>λh=>match h[k]? with|some (.lst l)=>.ok (.tl l) (h.set k .gone)|some (.dic ks ws)=>.ok (.dv ks ws) (h.set k .gone)|some (.din b ks ws)=>.ok (.dn b ks ws) (h.set k .gone)|_=>.bad
 |w=>pr w
set_option tactic.hygienic true in
def AG {f:KU->M W}(h:tM (cg X E) (m1 Mt f) σ H Q):tM (cg X E) f σ H Q:=by
 ac_nf;cases x with
 |loc k=>
  unfold Rv at r1;let(_,rfl):=r1;unfold Mt at h1;dsimp only at h1;split at h1;rename_i l hl;exact Ps.at (p:=p.ice k) h1 rfl Ex.ice R1.ice<|Rv.iceL R1 hl;rename_i ks ws hl;exact Ps.at (p:=p.ice k) h1 rfl Ex.ice R1.ice<|Rv.iceD R1 hl;rename_i b ks ws hl;exact Ps.at (p:=p.ice k) h1 rfl Ex.ice R1.ice<|Rv.iceN R1 hl;exact h1.elim
 |_=>exact Ps.pr (c:=cg X E) h1 R1 r1
def pA {f:KU->M W}(h:JE X E e f):JE X E e (m1 Mt f):=h.h.imp λJ J J q=>AG q
noncomputable def NA {κ:Type} [DecidableEq κ]:↑κ->↑W->κ->W->↑W
 |k::ks,w::ws,x,y=>(if k=x then y else w)::NA ks ws x y
 |_,_,_,_=>[]
noncomputable def Oo {κ:Type} [DecidableEq κ] (ks:↑κ)(ws:↑W)(x:κ)(y:W):↑κ×↑W:=if (ks.any λk=>decide<|k=x)=true then (ks ,NA ks ws x y) else (ks++[x] ,ws++[y])
noncomputable def ck (x i v:W):M Unit:=match x with
 |.loc k=>λh=>match h[k]? with
  |some (.lst l)=>match i with
   |.int n=>match ixN ⇑l n with|some j=>.ok () (h.set k<|.lst<|l.set j v)|none=>.bad
   |_=>.bad
  |some (.dic ks ws)=>match MO i with|some q=>if ⇑ks<sizeLine then .ok () (h.set k<|.dic (Oo ks ws q v).1 (Oo ks ws q v).2) else .bad|none=>.bad
  |some (.dit ks ws)=>match i with|.kt q=>if ⇑ks<sizeLine then .ok () (h.set k<|.dit (Oo ks ws q v).1 (Oo ks ws q v).2) else .bad|_=>.bad
  |_=>.bad
 |_=>no
noncomputable def Ou:Lf:=λo i v H Q=>∃a H',o=.ref a/\DPut H a i v H'/\Q H'
def mN (hu:X.A.units+1<Jv):PSet X Ou:=by intro P4 s σ H o i v ov iv u Q I ro ri rv h;let(a,H',rfl,g,q):=h;cases ro;exact t8 hu I g ri rv λs4 I4=>(H',I4,q)
def PSet.or (h:PSet X t)(h':PSet X t'):PSet X (λo i v H Q=>t o i v H Q\/t' o i v H Q):=by
 intro P4 s σ H o i v ov iv u Q I ro ri rv q;rcases q with q|q
 exact h P4 s σ H o i v ov iv u Q I ro ri rv q;exact h' P4 s σ H o i v ov iv u Q I ro ri rv q
theorem nK {κ:Type} [DecidableEq κ] {K:Zf}{o:Wo}{x:κ}{y:W}{v:V}(hy:Rv K o y v):∀ {ks:↑κ}{ws:↑W}{kvs:↑(κ×V)},kvs.map (·.1)=ks->Rvs K o ws (kvs.map (·.2))->Rvs K o (NA ks ws x y) ((kvs.map λkv=>if kv.1=x then (kv.1 ,v) else kv).map (·.2))
 |_,ws,[],e,h=>by subst e;unfold NA;exact Rvs.nil
 |_,ws,(k ,u)::r,e,h=>by
  subst e;cases ws with
  |nil=>unfold Rvs at h;cases h
  |cons w ws=>
   unfold Rvs at h;let(u',r',e',h1,h2):=h;cases e';have ih:=nK (x:=x) hy (ks:=r.map (·.1)) (ws:=ws) (kvs:=r) rfl h2;show Rvs K o ((if k=x then y else w)::NA (r.map (·.1)) ws x y) ((if k=x then (k ,v) else (k ,u)).2::_);by_cases z:k=x;rw[np z,np z];exact Rvs.cons hy ih;rw[gV z,gV z];exact Rvs.cons h1 ih
def fj {κ:Type} [DecidableEq κ] {K:Zf}{o:Wo}{x:κ}{y:W}{v:V}{ks:↑κ}{ws:↑W}{kvs:↑(κ×V)}(hy:Rv K o y v)(hk:kvs.map (·.1)=ks)(h:Rvs K o ws (kvs.map (·.2))):
  (Om kvs x v).map (·.1)=(Oo ks ws x y).1/\Rvs K o (Oo ks ws x y).2 ((Om kvs x v).map (·.2)):=by
 subst hk;have ea:((kvs.map (·.1)).any λk=>decide<|k=x)=(kvs.any λkv=>decide<|kv.1=x):=by rw[Hv];rfl
 unfold Om Oo;rw[ea];by_cases z:(kvs.any λkv=>decide<|kv.1=x)=true;rw[np z,np z];refine(?_,nK hy rfl h);rw[F4];refine Go λkv J=>?_;show (if kv.1=x then (kv.1 ,v) else kv).1=kv.1;split<;>rfl;rw[gV z,gV z];refine(⇑_,?_);show Rvs K o (ws++[y]) ((kvs++[(x ,v)]).map (·.2));rw[FF];exact h.app<|Rvs.cons hy Rvs.nil
noncomputable def av (fo fi fv:KU->M W):KU->M Fl:=λρ=>bd (fv ρ) λv=>bd (fo ρ) λx=>bd (fi ρ) λi=>bd (ck x i v) λJ=>pr<|.nx ρ
variable {i value:Expr}{tpos:JY}{fi fv:KU->M W}
def v7 (hu:X.A.units+1<Jv)(ho:JE X E o fo)(hi:JE X E i fi)(hv:JE X E value fv)
  (ha:∀v ,assign (.Subscript o i tpos) X.env v=(do
   let ov<-J7 [v] (JX o X.env);let iv<-J7 [v,ov] (JX i X.env)
   J6 tpos
   J7 [v,ov,iv] (setItem ov iv v)
   release [v,ov,iv] []))
  (hs:swapsWithSole [.Subscript o i tpos] value pos.line X.env=pure false)(hw:swappedStores [.Subscript o i tpos] value X.env=pure none)
  (h1:(J9 [.Subscript o i tpos] X.env).map (·.2)=[assign (.Subscript o i tpos) X.env]):JS X E (.Assign [.Subscript o i tpos] value pos) (av fo fi fv):=
 (vc hv.h (vq ho.h hi.h (O8.or<|mN hu) ha) hs hw h1).imp λD σ H h=>by
  let(w,ρ,rfl,R,S,h):=h;refine(w,ρ,rfl,R,S,Ps.bd h λp v vv e1 R1 r1 h1=>(p,ρ,rfl,R1,S.mono R e1,Ps.bd h1 λq x vx e2 R2 r2 h2=>(q,ρ,rfl,R2,(S.mono R e1).mono R1 e2,Ps.bd h2 λs i vi e3 R3 r3 h3=>?_)));have S3:=((S.mono R e1).mono R1 e2).mono R2 e3;have rv:=(r1.mono R1 e2).mono R2 e3;have rx:=r2.mono R2 e3;cases x with
  |loc k=>
   unfold Rv at rx;let(hk,rfl):=rx;unfold ck bd at h3;cases e:s.h[k]? with
   |none=>simp only[e]at h3;exact h3.elim
   |some b=>
    cases b with
    |ins c ns ws=>simp only[e]at h3;exact h3.elim
    |din b ks ws=>simp only[e]at h3;exact h3.elim
    |gone=>simp only[e]at h3;exact h3.elim
    |lst l=>
     simp only[e]at h3;cases i with
     |int n=>
      simp only at h3;cases ej:ixN ⇑l n with
      |none=>simp only[ej]at h3;exact h3.elim
      |some j=>
       simp only[ej]at h3;let(us,k1,k2):=R3.ob k _ e;refine .inl (_,us,n,j,rfl,OE.mp r3,k1,by rw[k2.len];exact ej,?_);exact Ps.at (p:=s.put k (.lst<|l.set j v)<|.lst<|us.set j vv) (b:=FlV.nx σ) h3 rfl (Ex.put e ⇑_) (R3.putL e ⇑_ (k2.set rv j)) (σ,rfl,S3.mono R3<|Ex.put e ⇑_)
     |_=>exact h3.elim
    |dit ks ws=>
     simp only[e]at h3;cases i with
     |kt x=>
      simp only at h3;by_cases z:⇑ks<sizeLine;simp only[np z]at h3;let(kvs,k1,k2,k3):=R3.ob k _ e;unfold Rv at r3;let(b,rfl,hb):=r3;let(b1,b2):=fj (x:=x) rv k2 k3;refine .inr (_,_,rfl,.inr (kvs,x,b,k1,rfl,hb,by rw[<-k2,Fv]at z;exact z,rfl),?_);exact Ps.at (p:=s.put k (.dit (Oo ks ws x v).1 (Oo ks ws x v).2)<|.dT<|Om kvs x vv) (b:=FlV.nx σ) h3 rfl (Ex.put e ⇑_) (R3.putT e ⇑_ b1 b2) (σ,rfl,S3.mono R3<|Ex.put e ⇑_);simp only[gV z]at h3;exact h3.elim
     |_=>exact h3.elim
    |dic ks ws=>
     simp only[e]at h3;cases ej:MO i with
     |none=>simp only[ej]at h3;exact h3.elim
     |some x=>
      simp only[ej]at h3;by_cases z:⇑ks<sizeLine;simp only[np z]at h3;let(kvs,k1,k2,k3):=R3.ob k _ e;rw[da ej r3];let(b1,b2):=fj (x:=x) rv k2 k3;refine .inr (_,_,rfl,.inl (kvs,x,k1,rfl,by rw[<-k2,Fv]at z;exact z,rfl),?_);exact Ps.at (p:=s.put k (.dic (Oo ks ws x v).1 (Oo ks ws x v).2)<|.dK<|Om kvs x vv) (b:=FlV.nx σ) h3 rfl (Ex.put e ⇑_) (R3.putD e ⇑_ b1 b2) (σ,rfl,S3.mono R3<|Ex.put e ⇑_);simp only[gV z]at h3;exact h3.elim
  |_=>exact h3.elim
end
end
section
noncomputable def OB (n:Nat)(g:KU->M Fl)(ws:↑W):M W:=bd (g<|ws.map some++List.replicate (n-⇑ws) none) λx=>match x with|.rt w=>pr w|.nx _=>pr .non|_=>no
section
variable {P:Jn}{w:Jo}{K:Zf}{mg:Str->Option Jk}{base:Jp}{x qual:Str}{st:J2}{f:Jq}{fd:Km}{N ps:↑Str}{k:Nat}{g:KU->M Fl}
noncomputable def Pj (K:Zf)(mg:Str->Option Jk)(n:Nat)(f:↑W->M W):Sp:=λvs H Q J=>∃o ws,o.H=H/\⇑ws=n/\Rel K o/\Rvs K o ws vs/\Ps (K,mg,E0) (Rv K) o (f ws o.h) Q
def Ar {n m:Nat}{fn:↑W->M W}(F:Fun K x qual st f fd)(S:KW N ps (ab st))(hn:N.length=n)(hm:⇑ps=m)(hf:fn=OB n g)
  (hb:∀ (cdv:Jk) (A:Ju) (outer:↑Env) (s:Js) (H:Hp) (E:XK) ,Room k (A.deeper<|Kt qual (ab st) ↥s f cdv)->JSs (LO CX0 P w K mg base N qual (ab st) f cdv A outer s H E).nox E0 (aF st) g):
  FnOk P w K mg base CX0 (k+1) f fd ps (Pj K mg m fn):=by
 subst hn hm hf;refine F.ok S (λvs H Q E h=>?_) (λcdv A outer s H vs Q E hr h=>?_);let(o,ws,_,hl,_,rv,_):=h;rw[rv.len,hl]
 .let(o,ws,rfl,hl,R,rv,h):=h;refine(_,(hb cdv A outer s o.H E hr).h,?_);have e:Pq N vs=vs.map some++List.replicate (N.length-⇑ws) none:=by unfold Pq;rw[rv.len]
  rw[e];refine(o,_,rfl,R,Re.args _ rv,Ps.bd h λp x b e1 R1 r1 h1=>?_);cases x with|rt w=>let(v,rfl,r):=r1;exact h1.pr R1 r|nx r=>let(s,rfl,r):=r1;exact h1.pr R1 (OF.mpr rfl)|bk r=>exact h1.elim|ct r=>exact h1.elim
def C1 {m:Nat}{fn:↑W->M W}(h:∀ws h ,fn ws h=.bad):FnOk P w K mg base CX0 k f fd ps (Pj K mg m fn):=by
 have no:∀vs H Q E,¬Pj K mg m fn vs H Q E:=λvs H Q E (o,ws,_,_,_,_,q)=>by rw[h]at q;exact q
 exact(λvs H Q E h=>absurd h<|no vs H Q E,λA outer s H args us vs Q E J J J J h=>absurd h<|no vs H Q E)
structure CG (P:Jn)(w:Jo)(K:Zf)(mg:Str->Option Jk)(base:Jp)(k:Nat)(x:Str)(f:Jq)(fd:Km)(ps:↑Str)(m:Nat)(fn:↑W->M W):Prop where
 ok:FnOk P w K mg base CX0 k f fd ps (Pj K mg m fn)
 bi:Binds K fd ps []
 kp:Jh K (.ref f)=true
 mg:mg x=some (.ref f)
end
noncomputable def arW (n:Nat)(f:↑W->M W)(ws:↑W):M W:=if ⇑ws=n then f ws else no
section
variable {X:Cx}{p pos:JY}{e:Expr}{es:↑Expr}{l:KU->M ↑W}{f:↑W->M W}{k:Nat}{fA:Jq}{fd:Km}{ps:↑Str}{x:Str}
def Ep {m:Nat}(C:CG X.prog X.w X.K X.mg X.base k x fA fd ps m f)(hr:Room k X.A)(ha:JA X E0 (e::es) l)(hg:Gl X x:=by rfl)
  (hdb:(x==("__debug__":Str))=false:=by decide)(he:J1 (e::es) X.env=(false ,JX e X.env)::J1 es X.env:=by rfl)(hpl:(JZ pos<|J1 es X.env).any (·.1)=false:=by rfl):
  JE X E0 (.Call (.Name x p) (e::es) [] pos) (Ng (arW m f) l):=(qF C.ok hr hg C.mg C.kp C.bi .nil NX ha.h hdb he hpl).imp λσ H Q h=>by
 ac_nf;unfold arW at h1;by_cases z:⇑x=m;rw[np z]at h1;exact(p,x,rfl,z,R1,by rw[F5];exact r1,h1);rw[gV z]at h1;exact h1.elim
end
section
variable {X:Cx}{E:XK}{p pos:JY}
noncomputable def NG (n:Int):↑W->↑W
 |[]=>[]
 |w::l=>.tup [.int n,w]::NG (n+1) l
theorem cK:∀ (l:↑W) (n:Int),⇑(NG n l)=⇑l|[],_=>rfl|w::l,n=>by rw[NG,FA,FA,cK l]
theorem c9:∀ (l:↑W) (n:Int) (i:Nat) (w:W),(NG n l)[i]?=`w->∃x,l[i]?=`x/\w=.tup [.int<|n+i,x]|[],_,_,_,h=>by simp [NG]at h|x::l,n,0,w,h=>by rw[NG]at h;cases h;exact(x,rfl,⇑_)|x::l,n,i+1,w,h=>by rw[NG,Gn]at h;let(y,e1,e2):=c9 l (n+1) i w h;exact(y,by simpa using e1,by rw[e2];congr 3;omega)
noncomputable def L5 (ws:↑W):M Sr:=match ws with|[w]=>bd (Pm w) λs=>pr (NG 0 s.l,s.G)|_=>no
def qk {α β:Type}{r:Wo->α->β->Prop}{w:W}{k:Sr->M α}{Q:β->Hp->Prop}(R:Rel X.K o)(hr:Rv X.K o w v)(h:Ps (cg X E) r o (bd (Pm w) k o.h) Q):
  ∃s a,v=.ref a/\(∃vs ,SqL X.K o.H a vs)/\(∀p ,Ex o p->Rel X.K p->s.G p.h->∃vs,SqL X.K p.H a vs/\Rvs X.K p s.l vs)/\Ps (cg X E) r o (k s o.h) Q:=by
 cases w with
 |tl l=>
  unfold Rv at hr;let(a,vs,rfl,s,n,r):=hr;exact((l,λJ=>True),a,rfl,(vs,.of s),λp X J J=>(vs,.of (X.fr a _ s n).1,r.mono R X),h)
 |cl l=>
  unfold Rv at hr;let(a,vs,rfl,s,r):=hr;have sq:∀q,Ex o q->SqL X.K q.H a vs:=λq X=>by
   rcases s with⟨s,n⟩|s
   exact .inl (X.rd s n).1;exact .inr s
  exact((l,λJ=>True),a,rfl,(vs,sq o<|Ex.refl _),λp X J J=>(vs,sq p X,r.mono R X),h)
 |loc j=>
  unfold Rv at hr;let(hj,rfl):=hr;unfold Pm bd at h;cases e:o.h[j]? with
  |none=>simp only[e]at h;exact h.elim
  |some b=>
   cases b with
   |lst l=>
    simp only[e]at h;let(vs,h1,h2):=R.ob j _ e;refine((l,λh=>h[j]?=some (.lst l)),_,rfl,(vs,.of h1),λp X Rp g=>?_,h);let(vs',h5,h6):=Rp.ob j _ g;rw[X.mu j hj]at h5;exact(vs',.of h5,h6)
   |_=>simp only[e]at h;exact h.elim
 |_=>exact h.elim
def zd {x1}{fl:KU->M ↑W}(hm:X.mg "enumerate"=none)(ha:JA X E [a] fl)(hg:Gl X "enumerate")(hs:J1 [a] X.env=[(false ,JX a X.env)]):
  JI X E (.Tuple elts x1 tpos) (.Call (.Name "enumerate" p) [a] [] pos) (Nv fl L5):=(yw hg hm ha.h hs).imp λσ H Q h=>by
 ac_nf;rcases x with _|⟨w,_|⟨_,_⟩⟩
 exact h1.elim
 .have h1:Ps (cg X E) (λp s J=>Le X.K p J s) p (bd (Pm w) (λs=>pr (NG 0 s.l,s.G)) p.h) Q:=h1;let(v,rfl,r):=r1.one;let(s,a,rfl,hq,sk,h1):=qk R1 r h1;refine(a,rfl,hq,h1.pr R1 (λo X R g=>?_,λo i w X R g e=>?_));let(vs,k1,k2):=sk o X R g;exact(vs,k1,by rw[k2.len];exact (cK _ _).symm)
  .let(vs,k1,k2):=sk o X R g;let(x,e1,rfl):=c9 _ _ _ _ e;let(v,hv,rv):=k2.get e1;refine((vs,v,k1,hv),λy H' q=>?_);let(T,z,hT,rfl,hz,rfl):=q;have:z=v:=by have:=hz vs k1;rw[hv]at this;exact (Option.some.inj this).symm
   subst this;refine((o.mu,o.h,upd o.H T<|.tup [.int i,z]),rfl,rfl,Ex.new hT,R.new hT,Rv.newT R hT<|Rvs.cons (OE.mpr ⇑_)<|Rvs.cons rv Rvs.nil)
 exact h1.elim
noncomputable def tyN (w:W)(h:↑Ob):Option String:=match w with
 |.non=>some "NoneType"
 |.bl _=>some "bool"
 |.int _=>some "int"
 |.str _=>some "str"
 |.tl _=>some "list"
 |.loc k=>match h[k]? with|some (.lst _)=>some "list"|some (.dic _ _)=>some "dict"|_=>none
 |_=>none
noncomputable def isT (t c:String):Bool:=t==c||(t=="bool" && c=="int")
noncomputable def tys:↑String:=["int","str","bool","list","tuple","dict"]
noncomputable def MD (ws:↑W):M W:=match ws with
 |[.tup _,.ty c]=>gd (c∈tys)<|pr<|.bl<|isT "tuple" c
 |[x,.ty c]=>λh=>match tyN x h with|some t=>if c∈tys then .ok (.bl<|isT t c) h else .bad|none=>.bad
 |_=>no
def wH {K:Zf}(ht:t∈"NoneType"::tys)(hc:c∈tys):kitOne K (.type t) (.type c)=some (isT t c):=by simp only[tys,FC,FV,or_false]at ht hc;rcases ht with rfl|rfl|rfl|rfl|rfl|rfl|rfl<;>rcases hc with rfl|rfl|rfl|rfl|rfl|rfl<;>kernel_rfl
end
end
section
section
variable {X:Cx}{E:XK}{p pos:JY}{a b:Expr}{l:KU->M ↑W}
def rIsT (K:Zf):↑V->Hp->VK->Prop:=λxs H Q=>∃ (a:Jq) (ys:↑V) (c:String) (k:Bool),xs=[.ref a,.ty c]/\SqT K H a ys/\kitOne K (.type "tuple") (.type c)=`k/\Q (.bl k) H
def uc:CallR X (.builtin "isinstance") (rIsT X.K):=by intro P4 s σ H xs us Q I r h;let(a,ys,c,k,rfl,hq,e,q):=h;let(u,u',rfl,ru,ru'):=PN r;cases ru;cases ru';let(its,rv,(o,e1,e2,n,e3),hz):=I.tuple hq;exact Ji PySem.W.kitx_tuple I.kIn (o,e1,e2) e (λz=>nomatch z) λtk=>(.bl k,H,I.tok tk,rfl,q)
set_option tactic.hygienic true in
def Az {w:W}(R:Rel X.K o)(h:Rv X.K o w v)(e:tyN w o.h=`t):Lk X.K o.H v (.type t)/\t∈"NoneType"::tys:=by
 cases w with
 |non=>cases e;rw[OF.mp h];exact(.non,↥_)
 |bl _=>cases e;rw[OD.mp h];exact(.bl _,↥_)
 |int _=>cases e;rw[OE.mp h];exact(.int _,↥_)
 |str _=>cases e;rw[OG.mp h];exact(.str _,↥_)
 |tl _=>cases e;unfold Rv at h;let(a,vs,rfl,s,_):=h;exact(.lst s,↥_)
 |loc k=>
  unfold Rv at h;let(_,rfl):=h;unfold tyN at e;dsimp only at e;split at e;rename_i l hl;cases e;let(vs,h1,_):=R.ob k _ hl;exact(.lst h1,↥_);rename_i ks ws hl;cases e;let(vs,h1,_):=R.ob k _ hl;exact(.dK h1,↥_);cases e
 |_=>cases e
set_option tactic.hygienic true in
def Cj (hm:X.mg "isinstance"=none)(ha:JA X E [a,b] l)(hg:Gl X "isinstance")(he:J1 [a,b] X.env=(false ,JX a X.env)::J1 [b] X.env)(hpl:(JZ pos<|J1 [b] X.env).any (·.1)=false):JE X E (.Call (.Name "isinstance" p) [a,b] [] pos) (Ng MD l):=
 cM (Lx.or uc) (λo ws vs Q R rv h=>by
  unfold MD at h;split at h;rename_i l c;let(v,u,rfl,r1,r2):=rv.two;let(hc,h):=h.gd;unfold Rv at r1;let(a,us,rfl,s,r):=r1;rw[OH.mp r2];exact .inr (a,us,c,_,rfl,s,wH ↥_ hc,h.pr R<|OD.mpr rfl)
  .rename_i x c _;let(v,u,rfl,r1,r2):=rv.two;dsimp only at h;cases e:tyN x o.h with
   |none=>rw[e]at h;exact h.elim
   |some t=>
    rw[e]at h;by_cases hc:c∈tys;simp only[np hc]at h;let(ty,hm):=Az R r1 e;rw[OH.mp r2];exact .inl (v,.ty c,.type c,.type t,_,rfl,rfl,ty,wH hm hc,Ps.pr (c:=cg X E) (r:=Rv X.K) (a:=W.bl<|isT t c) h R<|OD.mpr rfl);simp only[gV hc]at h;exact h.elim
  .exact h.elim) hg hm PyProof.Rows.boot_isinstance ha (he:=he) (hpl:=hpl)
def Ee {x:Str}(hm:X.mg x=none)(hv:JR x=some (.type T))(hg:Gl X x)(hn:x≠"__name__")(hd:(x==("__debug__":Str))=false):JE X E (.Name x pos) (mC<|.ty T):=
 (yD (v:=.ty T) hg hm hv rfl hn hd).imp λJ J J h=>r9 (λo=>OH.mpr rfl) h
noncomputable def Nj:KU->M W:=λJ h=>.ok (.loc ⇑h)<|h++[.dic [] []]
def Rv.addLoc {K:Zf}{o:Wo}{q:Jq}{b:Ob}{u:HO}:Rv K (o.add q b u) (.loc ⇑o.h) (.ref q):=by unfold Rv;exact(by show _<⇑(o.h++[b]);simp,by show V.ref q=V.ref (if ⇑o.h=⇑o.h then q else _);rw[np rfl])
def zm:JE X E (.Dict [] [] pos) Nj:=NY.imp λσ H Q h=>by let(o,ρ,rfl,R,S,h):=h;intro q hq;exact Ps.at (p:=o.add q (.dic [] [])<|.dK []) h rfl (Ex.add hq) (R.addD hq rfl Rvs.nil) Rv.addLoc
end
end
section
section
variable {fa fb fc:KU->M W}
end
section
variable {es:↑Expr}{env:Env}{pos:JY}
def BG:(JZ pos<|J1 [] env).any (·.1)=false:=by rfl
def yS (hs:J1 (e::es) env=(false ,JX e env)::J1 es env)(h:(JZ pos<|J1 es env).any (·.1)=false):(JZ pos<|J1 (e::es) env).any (·.1)=false:=by rw[hs];show ((false||(JZ pos<|J1 es env).any (·.1)):Bool)=false;rw[h];rfl
end
end
section
section
variable {X:Cx}{E:XK}{p pos:JY}{a b:Expr}{l:KU->M ↑W}
variable {x:Str}{m:Nat}
noncomputable def LC (fa fb:KU->M W):KU->M ↑W:=λρ=>bd (fa ρ) λx=>bd (fb ρ) λy=>bd (M9 x) λa=>bd (M9 y) λb=>gd (⇑a+⇑b<=sizeLine)<|pr<|a++b
def B1 {fa fb:KU->M W}(ha:JE X E a fa)(hb:JE X E b fb):JF X E (.BinOp a .Add b pos) (LC fa fb):=(Ag vP ha.h hb.h).impF λσ H Q h=>by let(o,ρ,rfl,R,S,h):=h;refine(o,ρ,rfl,R,S,Ps.bd h λp x vx e1 R1 r1 h1=>(p,ρ,rfl,R1,S.mono R e1,Ps.bd h1 λq y vy e2 R2 r2 h2=>?_));let(l,a,vs,rfl,s1,r3,h3):=fm R2 (r1.mono R1 e2) h2;let(m,b,us,rfl,s2,r4,h4):=fm R2 r2 h3;let(hz,h4):=h4.gd;exact(a,b,vs,us,rfl,rfl,s1,s2,by rw[r3.len,r4.len];exact hz,h4.pr R2<|r3.app r4)
end
end
end L2
namespace L2
open PySem
def bW {α β:Type}{f:M α}{g:α->M β}{a:α}(e:f h=.ok a h'):bd f g h=g a h':=by unfold bd;rw[e]
@[simp] def bd_pr {α β:Type}(a:α)(g:α->M β):bd (pr a) g=g a:=rfl
@[simp] def bd_no {α β:Type}(g:α->M β):bd (no:M α) g=no:=rfl
def ag {α:Type}{p:Prop} [Decidable p] {m:M α}(hp:p):gd p m=m:=by funext h;unfold gd;rw[np hp]
@[simp] def addW_int (i j:Int):Lo (.int i) (.int j)=pr (.int<|i+j):=rfl
def xM {a b:Str}(h:⇑a+⇑b<=sizeLine):Lo (.str a) (.str b)=pr (.str<|a++b):=by unfold Lo;exact ag h
@[simp] def subW_int (i j:Int):Pt (.int i) (.int j)=pr (.int<|i-j):=ag trivial
def dF {i j:Int}(h:KM i j):ND (.int i) (.int j)=pr (.int<|i*j):=by unfold ND;exact ag h
def BK {i j:Int}(h1: -(2^64)<i)(h2:i<2^64):KM i j:=.inl<|.inl (h1,h2)
def lN {i j:Int}(h1: -(2^64)<j)(h2:j<2^64):KM i j:=.inl<|.inr (h1,h2)
def kP {i j:Int}(h1:0<j)(h2:j<2^200):Ma (.int i) (.int j)=pr (.int<|i / j):=ag (h1,h2)
def cL {i j:Int}(h1:0<j):NC (.int i) (.int j)=pr (.int<|i%j):=ag h1
def ng {i j:Int}(h:KO i j):Oe (.int i) (.int j)=pr (.int<|i^j.toNat):=ag h
@[simp] def ltW_int (i j:Int):ltW (.int i) (.int j)=pr (.bl<|decide<|i<j):=ag trivial
@[simp] def leW_int (i j:Int):leW (.int i) (.int j)=pr (.bl<|decide<|i<=j):=ag trivial
@[simp] def gtW_int (i j:Int):gtW (.int i) (.int j)=pr (.bl<|decide<|j<i):=ag trivial
@[simp] def geW_int (i j:Int):geW (.int i) (.int j)=pr (.bl<|decide<|j<=i):=ag trivial
@[simp] def asB_bl (b:Bool):asB (.bl b)=pr b:=rfl
@[simp] def eqW_int (i j:Int):eqW (.int i) (.int j)=pr (.bl<|decide<|i=j):=by funext h;show Rs.ok (W.bl<|decide<|V.int i=V.int j) h=Rs.ok (W.bl<|decide<|i=j) h;congr 2;rw[decide_eq_decide];exact(V.int.inj,congrArg _)
@[simp] def eqW_str (i j:Str):eqW (.str i) (.str j)=pr (.bl<|decide<|i=j):=by funext h;show Rs.ok (W.bl<|decide<|V.str i=V.str j) h=Rs.ok (W.bl<|decide<|i=j) h;congr 2;rw[decide_eq_decide];exact(V.str.inj,congrArg _)
@[simp] def neW_int (i j:Int):neW (.int i) (.int j)=pr (.bl<|!decide (i=j)):=by funext h;show Rs.ok (W.bl<|!decide (V.int i=V.int j)) h=Rs.ok (W.bl<|!decide (i=j)) h;congr 3;rw[decide_eq_decide];exact(V.int.inj,congrArg _)
@[simp] def neW_str (i j:Str):neW (.str i) (.str j)=pr (.bl<|!decide (i=j)):=by funext h;show Rs.ok (W.bl<|!decide (V.str i=V.str j)) h=Rs.ok (W.bl<|!decide (i=j)) h;congr 3;rw[decide_eq_decide];exact(V.str.inj,congrArg _)
@[simp] def neW_bl (i j:Bool):neW (.bl i) (.bl j)=pr (.bl<|!decide (i=j)):=by funext h;show Rs.ok (W.bl<|!decide (V.bl i=V.bl j)) h=Rs.ok (W.bl<|!decide (i=j)) h;congr 3;rw[decide_eq_decide];exact(V.bl.inj,congrArg _)
def fR {i:Int}{w:W}(h:atI l i=`w):ixW (.tl l) (.int i)=pr w:=by funext hh;unfold ixW;have:ixO (.tl l) (.int i) hh=`w:=h;rw[this];rfl
def cE {i:Int}{w:W}(h:atI l i=`w):ixW (.tup l) (.int i)=pr w:=by funext hh;unfold ixW;have:ixO (.tup l) (.int i) hh=`w:=h;rw[this];rfl
def zB {z:Str}{i:Int}{c:Nat}(hz:⇑z<=sizeLine)(h:atI z.cps.toList i=`c):ixW (.str z) (.int i)=pr (.str ⟨#[c]⟩):=by
 funext hh;unfold ixW;have:ixO (.str z) (.int i) hh=some (.str ⟨#[c]⟩):=by show (if ⇑z<=sizeLine then (atI z.cps.toList i).map λc=>W.str ⟨#[c]⟩ else none)=_;rw[np hz,h];rfl
 rw[this];rfl
@[simp] def slW_tl (l:↑W)(lo hi:Option Int):slW (.tl l) lo hi=pr (.tl<|LM l lo hi):=rfl
@[simp] def slW_cl (l:↑W)(lo hi:Option Int):slW (.cl l) lo hi=pr (.tl<|LM l lo hi):=rfl
@[simp] def lenW_tl (l:↑W):MY [.tl l]=pr (.int ⇑l):=rfl
@[simp] def lenW_tup (l:↑W):MY [.tup l]=pr (.int ⇑l):=rfl
def xH {n:Nat}{f:↑W->M W}(h:⇑ws=n):arW n f ws=f ws:=np h
def nG {α:Type}(f:α->W)(l:↑α)(d:α){i:Int}(h0:0<=i)(h:i<⇑l):atI (l.map f) i=some (f<|l.getD i.toNat d):=by have hi:i.toNat<⇑l:=∅;have e:atI (l.map f) ((i.toNat:Nat):Int)=some (f<|l.getD i.toNat d):=dB (by rw[FB,FS hi,GP,FS hi];rfl);have e2:((i.toNat:Nat):Int)=i:=∅;rw[e2]at e;exact e
def eJ {α:Type}{xs:↑α}{i:Int}{v:α}(h0:0<=i)(h:xs[i.toNat]?=`v):atI xs i=`v:=by have q:=dB h;have e:((i.toNat:Nat):Int)=i:=∅;rw[e]at q;exact q
noncomputable def Mb:Fl->M W:=λx=>match x with|.rt w=>pr w|.nx _=>pr .non|_=>no
def gdn0 {α:Type}(m:M α):gd (0<=sizeLine) m=m:=ag ↥_
def gdn1 {α:Type}(m:M α):gd (0+1<=sizeLine) m=m:=ag ↥_
def gdn2 {α:Type}(m:M α):gd (0+1+1<=sizeLine) m=m:=ag ↥_
def gdn3 {α:Type}(m:M α):gd (0+1+1+1<=sizeLine) m=m:=ag ↥_
def gdn4 {α:Type}(m:M α):gd (0+1+1+1+1<=sizeLine) m=m:=ag ↥_
def gdn6 {α:Type}(m:M α):gd (0+1+1+1+1+1+1<=sizeLine) m=m:=ag ↥_
def ah {src:KU->M Sr}{t:W->KU->Option KU}{f:KU->M Bool}{e:KU->M W}{n:Nat}:Nh [] src t f e n ρ=bd (src ρ) λs=>gd (⇑s.l<=sizeLine) (LG s.G t f e n s.l ρ):=by unfold Nh;exact ag rfl
section
theorem vK {α:Type}{f:W->Option α}{g:α->W}(hf:∀a ,f (g a)=`a):∀l:↑α,NU f (l.map g)=`l
 |[]=>rfl
 |a::l=>by
  show (match f (g a) ,NU f (l.map g) with
   |some b,some r=>some (b::r)
   |_,_=>none)=_
  rw[hf,vK hf l]
theorem br {β:Type}{α:Type}{f:W->Option β}{g:α->W}{k:α->β}(hf:∀a ,f (g a)=some (k a)):∀l:↑α,NU f (l.map g)=some (l.map k)
 |[]=>rfl
 |a::l=>by
  show (match f (g a) ,NU f (l.map g) with
   |some b,some r=>some (b::r)
   |_,_=>none)=_
  rw[hf,br hf l];rfl
theorem fT {α:Type}{g:α->W}{k:α->V}(hf:∀a ,vOf (g a)=some (k a)):∀l:↑α,PQ (l.map g)=some (l.map k)
 |[]=>rfl
 |a::l=>by
  show (match vOf (g a) ,PQ (l.map g) with
   |some v,some vs=>some (v::vs)
   |_,_=>none)=_
  rw[hf,fT hf l];rfl
def t5 (h1:NU (LQ h 49) l=`ds)(h2:NU (LQ h 49) m=`es)(c1:KC.canLayAll0 ds=true)(c2:KC.canLayAll0 es=true):eqB (.tl l) (.tl m) h=some (KC.eqvAll ds es):=by
 show (match (NU (LQ h 49) l).map KC.list ,(NU (LQ h 49) m).map KC.list with
  |some d,some e=>if d.canLay0=true/\e.canLay0=true then some (KC.eqv d e) else none
  |_,_=>none)=_
 rw[h1,h2];show (if (KC.list ds).canLay0=true/\(KC.list es).canLay0=true then some (KC.eqv (.list ds)<|.list es) else none)=_;rw[np (by rw[KC.canLay0];exact c1,by rw[KC.canLay0];exact c2),KC.eqv]
def xb (h1:NU (LQ h 49) l=`ds)(h2:NU (LQ h 49) m=`es)(c1:KC.canLayAll0 ds=true)(c2:KC.canLayAll0 es=true):eqB (.tup l) (.tup m) h=some (KC.eqvAll ds es):=by
 show (match (NU (LQ h 49) l).map KC.tuple ,(NU (LQ h 49) m).map KC.tuple with
  |some d,some e=>if d.canLay0=true/\e.canLay0=true then some (KC.eqv d e) else none
  |_,_=>none)=_
 rw[h1,h2];show (if (KC.tuple ds).canLay0=true/\(KC.tuple es).canLay0=true then some (KC.eqv (.tuple ds)<|.tuple es) else none)=_;rw[np (by rw[KC.canLay0];exact c1,by rw[KC.canLay0];exact c2),KC.eqv]
def ma {b:Bool}(h:∀h ,eqB x y h=`b):eqW x y=pr (.bl b):=by funext hh;unfold eqW;rw[h];rfl
mutual
theorem nX:∀d:KC,d.canLay0=true->KC.eqv d d=true|.none,_=>by rw[KC.eqv]|.bool b,_=>by rw[KC.eqv];simp|.int b,_=>by rw[KC.eqv];simp|.str b,_=>by rw[KC.eqv];simp|.list l,h=>by rw[KC.eqv];exact dz l (by rw[KC.canLay0]at h;exact h)|.tuple l,h=>by rw[KC.eqv];exact dz l (by rw[KC.canLay0]at h;exact h)|.dict l,h=>by rw[KC.canLay0]at h;cases h
theorem dz:∀l:↑KC,KC.canLayAll0 l=true->KC.eqvAll l l=true|[],_=>by rw[KC.eqvAll]|d::l,h=>by rw[KC.canLayAll0,Gd]at h;rw[KC.eqvAll,nX d h.1,dz l h.2];rfl
end
theorem mj {α:Type}{k:α->KC}:∀ (l:↑α),(∀a∈l ,(k a).canLay0=true)->KC.canLayAll0 (l.map k)=true|[],_=>by rw[GB,KC.canLayAll0]|a::l,h=>by rw[Fz,KC.canLayAll0,h a FQ,mj l λb hb=>h b<|FX _ hb];rfl
end
end L2
namespace L2
open PySem PySem.Spec PyProof.Rows
section
variable {X:Cx}{E:XK}{p pos:JY}
noncomputable def L6 (ws:↑W):M Sr:=match ws with|[w]=>bd (Pn w) λs=>pr (NG 0 s.l,s.G)|_=>no
def wa {x1}{fl:KU->M ↑W}(hm:X.mg "enumerate"=none)(ha:JA X E [a] fl)(hg:Gl X "enumerate")(hs:J1 [a] X.env=[(false ,JX a X.env)]):
  JI X E (.Tuple elts x1 tpos) (.Call (.Name "enumerate" p) [a] [] pos) (Nv fl L6):=(vp hg hm ha.h hs).imp λσ H Q h=>by
 ac_nf;rcases x with _|⟨w,_|⟨_,_⟩⟩
 exact h1.elim
 .have h1:Ps (cg X E) (λp s J=>Le X.K p J s) p (bd (Pn w) (λs=>pr (NG 0 s.l,s.G)) p.h) Q:=h1;let(v,rfl,r):=r1.one;cases w with
  |tup l=>
   unfold Rv at r;let(a,vs,rfl,s,r):=r;have h1:Ps (cg X E) (λp s J=>Le X.K p J s) p (pr (NG 0 l,λZ=>True) p.h) Q:=h1;refine(a,rfl,(vs,s),h1.pr R1 (λo X R g=>(vs,X.rdT R1 s,by rw[r.len];exact (cK _ _).symm),λo i w X R g e=>?_));let(x,e1,rfl):=c9 _ _ _ _ e;let(v,hv,rv):=(r.mono R1 X).get e1;have sq:=X.rdT R1 s;refine((vs,v,sq,hv),λy H' q=>?_);let(T,z,hT,rfl,hz,rfl):=q;have:z=v:=by have:=hz vs sq;rw[hv]at this;exact (Option.some.inj this).symm
   subst this;refine((o.mu,o.h,upd o.H T<|.tup [.int i,z]),rfl,rfl,Ex.new hT,R.new hT,Rv.newT R hT<|Rvs.cons (OE.mpr ⇑_)<|Rvs.cons rv Rvs.nil)
  |_=>exact h1.elim
 exact h1.elim
end
end L2
namespace L2
open PySem
def au {α β:Type}(a:α)(g:α->M β):bd (pr a) g=g a:=funext λh=>bW (f:=pr a) (a:=a) (h:=h) (h':=h) rfl
def Ok {α:Type}(m:M α)(h:↑Ob)(Q:α->↑Ob->Prop):Prop:=∃a h',m h=.ok a h'/\Q a h'
section
variable {α β:Type}{m:M α}{k:α->M β}{h h':↑Ob}{a:α}
def Ok.imp {P Q:α->↑Ob->Prop}(p:Ok m h P)(q:∀a h' ,P a h'->Q a h'):Ok m h Q:=let (a,h',e,r):=p;(a,h',e,q a h' r)
def ap {P:α->↑Ob->Prop}{Q:β->↑Ob->Prop}(p:Ok m h P)(q:∀a h' ,P a h'->Ok (k a) h' Q):Ok (bd m k) h Q:=by let(a,h',e,r):=p;let(b,h2,e2,r2):=q a h' r;exact(b,h2,(bW e).trans e2,r2)
def Aj {Q:α->↑Ob->Prop}(e:m h=.ok a h')(q:Q a h'):Ok m h Q:=(a,h',e,q)
def aq {Q:β->↑Ob->Prop}(e:m h=.ok a h')(q:Ok (k a) h' Q):Ok (bd m k) h Q:=by let(b,h2,e2,r2):=q;exact(b,h2,(bW e).trans e2,r2)
def ae {Q:α->↑Ob->Prop}(q:Q a h):Ok (pr a) h Q:=(a,h,rfl,q)
end
section
variable {β:Type}{h:↑Ob}{Q:β->↑Ob->Prop}{j:Nat}{l:↑W}
def nr {i:Int}{w:W}{k:W->M β}(e:h[j]?=some (.lst l))(e2:atI l i=`w)(q:Ok (k w) h Q):Ok (bd (ixW (.loc j)<|.int i) k) h Q:=by
 refine aq (a:=w) (h':=h) ?_ q;have d:LS (.loc j) h=none:=by unfold LS;simp only[e]
 have lo:Na (.loc j) h=.ok l h:=by unfold Na;simp only[e]
 have:ixO (.loc j) (.int i) h=`w:=by unfold ixO;simp only[d,lo,e2]
 unfold ixW;rw[this]
def Ai {n:Int}{i:Nat}{k:Unit->M β}(e:h[j]?=some (.lst l))(e2:ixN ⇑l n=`i)(q:Ok (k ()) (h.set j<|.lst<|l.set i v) Q):Ok (bd (ck (.loc j) (.int n) v) k) h Q:=by refine aq (a:=()) (h':=h.set j<|.lst<|l.set i v) ?_ q;unfold ck;simp only[e,e2]
def ju {w:W}{k:W->M β}(e:h[j]?=some (.lst l))(z:⇑l<sizeLine)(q:Ok (k .non) (h.set j<|.lst<|l++[w]) Q):Ok (bd (cA (.loc j) [w]) k) h Q:=by refine aq (a:=.non) (h':=h.set j<|.lst<|l++[w]) ?_ q;unfold cA;simp only[e,np z]
def dQ {k:W->M β}(e:h[j]?=some (.lst l))(q:Ok (k<|.loc j) h Q):Ok (bd (isL<|.loc j) k) h Q:=by refine aq (a:=.loc j) (h':=h) ?_ q;unfold isL;simp only[e]
def dC {k:W->M β}(q:Ok (k<|.loc ⇑h) (h++[.lst l]) Q):Ok (bd (newW l) k) h Q:=aq (a:=.loc ⇑h) (h':=h++[.lst l]) rfl q
def lH {k:W->M β}(e:h[j]?=some (.lst l))(q:Ok (k<|.tl l) (h.set j .gone) Q):Ok (bd (Mt<|.loc j) k) h Q:=by refine aq (a:=.tl l) (h':=h.set j .gone) ?_ q;unfold Mt;simp only[e]
def vS {k:Sr->M β}(e:h[j]?=some (.lst l))(q:Ok (k (l,λh=>h[j]?=some (.lst l))) h Q):Ok (bd (Pm<|.loc j) k) h Q:=by refine aq (a:=(l,λh=>h[j]?=some (.lst l))) (h':=h) ?_ q;unfold Pm;simp only[e]
def Lw (h:↑Ob)(x:W)(l:↑W):Prop:=x=.tl l\/ ∃j,x=.loc j/\h[j]?=some (.lst l)
def Lw.of (p:Lw h x l):Na x h=.ok l h:=by
 rcases p with rfl|⟨j,rfl,e⟩
 rfl;unfold Na;simp only[e]
def Lw.len {k:W->M β}(p:Lw h x l)(q:Ok (k<|.int ⇑l) h Q):Ok (bd (MY [x]) k) h Q:=by
 refine aq (a:=.int ⇑l) (h':=h) ?_ q;have e:=p.of;rcases p with rfl|⟨j,rfl,_⟩
 rfl;show bd (Na<|.loc j) (λl=>pr<|W.int ⇑l) h=_;rw[bW e];rfl
def Lw.ix {x w:W}{i:Int}{k:W->M β}(p:Lw h x l)(e2:atI l i=`w)(q:Ok (k w) h Q):Ok (bd (ixW x<|.int i) k) h Q:=by
 rcases p with rfl|⟨j,rfl,e⟩
 rw[fR e2,bd_pr];exact q;exact nr e e2 q
def qV {i:Int}{b:Bool}(hc:c∈tys)(hb:isT "int" c=b):MD [.int i,.ty c]=pr (.bl b):=by funext h;subst hb;show (if c∈tys then Rs.ok (W.bl<|isT "int" c) h else .bad)=_;rw[np hc];rfl
def zC {b:Bool}(hc:c∈tys)(hb:isT "tuple" c=b):MD [.tup i,.ty c]=pr (.bl b):=by subst hb;show gd (c∈tys) (pr<|W.bl<|isT "tuple" c)=_;rw[ag hc]
end
def nS {x:Str}{ss:↑Str}:inV (.str x) (ss.map V.str)=decide (x∈ss):=by
 unfold inV;rw[Gv,G1,decide_eq_true_eq];constructor
 .rintro⟨v,hv,q⟩
  let(y,hy,rfl):=FY.mp hv;have:y=x:=by simpa [eqV] using q
  subst this;exact hy
 intro q;exact(.str x,FY.mpr (x,q,rfl),by simp [eqV])
def i6 {i:Int}(h0: -(2^62)<=i)(h1:i<2^62):Ow [.int i]=pr (My 0 i.toNat,λJ=>True):=ag (h0,h1)
def uW {i j:Int}(h0: -(2^62)<=i)(h1:i<2^62)(h2: -(2^62)<=j)(h3:j<2^62):Ox [.int i,.int j]=pr (My i (j-i).toNat,λJ=>True):=ag (h0,h1,h2,h3)
theorem pO {G:↑Ob->Prop}{t:W->KU->Option KU}{g:KU->M Fl}(I:Nat->KU->↑Ob->Prop)(l:↑W)(hG:∀i ρ h ,I i ρ h->G h)
  (hs:∀i w ρ h ,l[i]?=`w->I i ρ h->∃r,t w ρ=`r/\Ok (g r) h λx h'=>∃r',x=.nx r'/\I (i+1) r' h'):
  ∀ (m:↑W) (n:Nat) (ρ:KU) (h:↑Ob),l.drop n=m->n<=⇑l->I n ρ h->Ok (forM G t g m ρ) h λx h'=>∃r',x=.nx r'/\I ⇑l r' h'
 |[],n,ρ,h,e,hn,i=>by have:⇑l<=n:=Il.mp e;have hn:n=⇑l:=∅;subst hn;refine(.nx ρ,h,?_,ρ,rfl,i);unfold forM;rw[cU<|hG _ _ _ i];rfl
 |w::m,n,ρ,h,e,hn,i=>by
  have hw:l[n]?=`w:=by have:=congrArg Im e;rw[Io,Ip]at this;exact this
  have hl:n<⇑l:=(FD.mp hw).1;have em:l.drop (n+1)=m:=by rw[<-Iq,e];rfl
  let(r,e1,x,h',e2,r',rfl,i'):=hs n w ρ h hw i;let(y,h2,e3,q):=pO I l hG hs m (n+1) r' h' em hl i';refine(y,h2,?_,q);unfold forM;rw[cU<|hG _ _ _ i,e1];dsimp only;rw[bW e2];exact e3
def bF {β:Type}{G:↑Ob->Prop}{t:W->KU->Option KU}{g:KU->M Fl}{k:Fl->M β}{Q:β->↑Ob->Prop}(I:Nat->KU->↑Ob->Prop)(h0:I 0 ρ h)(hG:∀i ρ h ,I i ρ h->G h)
  (hs:∀i w ρ h ,l[i]?=`w->I i ρ h->∃r,t w ρ=`r/\Ok (g r) h λx h'=>∃r',x=.nx r'/\I (i+1) r' h')(hd:∀ρ h ,I ⇑l ρ h->Ok (k<|.nx ρ) h Q):Ok (bd (forM G t g l ρ) k) h Q:=
 ap (pO I l hG hs l 0 ρ h rfl (FU _) h0) λx h' (r',e,i)=>by subst e;exact hd r' h' i
theorem rE {G:↑Ob->Prop}{t:W->KU->Option KU}{f:KU->M Bool}{g:KU->M W}{c:Nat}(I:Nat->↑W->↑Ob->Prop)(l:↑W)(hf:∀r ,f r=pr true)(hG:∀i a h ,I i a h->G h)
  (hs:∀i w a h ,l[i]?=`w->I i a h->∃r,t w (List.replicate c none++ρ)=`r/\Ok (g r) h λv h'=>I (i+1) (a++[v]) h'):
  ∀ (m:↑W) (n:Nat) (a:↑W) (h:↑Ob),l.drop n=m->n<=⇑l->I n a h->Ok (LG G t f g c m ρ) h λr h'=>I ⇑l (a++r) h'
 |[],n,a,h,e,hn,i=>by have:⇑l<=n:=Il.mp e;have hn:n=⇑l:=∅;subst hn;refine([],h,?_,by show I ⇑l (a++[]) h;rw[F5];exact i);unfold LG;rw[cU<|hG _ _ _ i];rfl
 |w::m,n,a,h,e,hn,i=>by
  have hw:l[n]?=`w:=by have:=congrArg Im e;rw[Io,Ip]at this;exact this
  have hl:n<⇑l:=(FD.mp hw).1;have em:l.drop (n+1)=m:=by rw[<-Iq,e];rfl
  let(r,e1,v,h',e2,i'):=hs n w a h hw i;let(y,h2,e3,q):=rE I l hf hG hs m (n+1) (a++[v]) h' em hl i';refine(v::y,h2,?_,by show I ⇑l (a++v::y) h2;have q:I ⇑l (a++[v]++y) h2:=q;rw[FZ]at q;exact q);unfold LG;rw[cU<|hG _ _ _ i,e1];dsimp only;rw[hf,bd_pr,np rfl,bW e2,bW e3];rfl
def bY {β:Type}{G:↑Ob->Prop}{t:W->KU->Option KU}{f:KU->M Bool}{g:KU->M W}{c:Nat}{k:↑W->M β}{Q:β->↑Ob->Prop}(I:Nat->↑W->↑Ob->Prop)(h0:I 0 [] h)(hf:∀r ,f r=pr true)(hG:∀i a h ,I i a h->G h)
  (hs:∀i w a h ,l[i]?=`w->I i a h->∃r,t w (List.replicate c none++ρ)=`r/\Ok (g r) h λv h'=>I (i+1) (a++[v]) h')(hd:∀a h ,I ⇑l a h->Ok (k a) h Q):Ok (bd (LG G t f g c l ρ) k) h Q:=
 ap (rE I l hf hG hs l 0 [] h rfl (FU _) h0) λr h' i=>hd r h' i
def cQ (r:KU):Nz r=pr true:=rfl
structure Fr (j:Nat)(h h':↑Ob):Prop where
 len:⇑h'=⇑h
 eq:∀i,i≠j->h'[i]?=h[i]?
theorem Fr.trans {j:Nat}(x:Fr j a b)(y:Fr j b c):Fr j a c:=(y.len.trans x.len,λi hi=>(y.eq i hi).trans<|x.eq i hi)
theorem Fr.set {j:Nat}:Fr j h (h.set j b):=(F3 ..,λi hi=>by rw[FG<|Ne.symm hi])
def aU {j:Nat}{h:↑Ob}{a b:Ob}(e:h[j]?=`a):(h.set j b)[j]?=`b:=by rw[GJ (FD.mp e).1]
def bm {j:Nat}{h:↑Ob}{a:Ob}(e:h[j]?=`a):j<⇑h:=(FD.mp e).1
def dX {j:Nat}{h r:↑Ob}{a:Ob}(e:h[j]?=`a):(h++r)[j]?=`a:=by rw[F2<|bm e];exact e
def bL :(h++[a])[⇑h]?=`a:=⇑_
theorem least {p:Nat->Prop}:∀ {n:Nat},(∃r ,r<n/\p r)->∃r,r<n/\p r/\∀j,j<r->¬p j
 |0,(_,h,_)=>absurd h<|Nat.not_lt_zero _
 |n+1,(r,h,q)=>by
  by_cases z:∃r,r<n/\p r;let(r,h1,h2,h3):=least z;exact(r,∅,h2,h3)
  .have:r=n:=by
    by_cases e:r<n;exact absurd (r,e,q) z;omega
   subst this;exact(r,h,q,λj hj hp=>z (j,hj,hp))
section
def iy {G:↑Ob->Prop}{t:W->KU->Option KU}{g:KU->M Fl}{Q:Fl->↑Ob->Prop}(I:Nat->KU->↑Ob->Prop)(h0:I 0 ρ h)(hG:∀i ρ h ,I i ρ h->G h)
  (hs:∀i w ρ h ,l[i]?=`w->I i ρ h->∃r,t w ρ=`r/\Ok (g r) h λx h'=>∃r',x=.nx r'/\I (i+1) r' h')(hd:∀ρ h ,I ⇑l ρ h->Q (.nx ρ) h):Ok (forM G t g l ρ) h Q:=
 (pO I l hG hs l 0 ρ h rfl (FU _) h0).imp λx h' (r',e,i)=>by subst e;exact hd r' h' i
def xg (l:↑W):L5 [.tl l]=pr (NG 0 l,λJ=>True):=rfl
def t7 (l:↑W):L6 [.tup l]=pr (NG 0 l,λJ=>True):=rfl
def bp (l:↑W):Na (.tl l)=pr l:=rfl
def ix0 (a:W)(l:↑W):ixW (.tup (a::l)) (.int 0)=pr a:=cE<|eJ ↥_ rfl
def ix1 (a b:W)(l:↑W):ixW (.tup (a::b::l)) (.int 1)=pr b:=cE<|eJ ↥_ rfl
def ix2 (a b c:W)(l:↑W):ixW (.tup (a::b::c::l)) (.int 2)=pr c:=cE<|eJ ↥_ rfl
def ix3 (a b c d:W)(l:↑W):ixW (.tup (a::b::c::d::l)) (.int 3)=pr d:=cE<|eJ ↥_ rfl
def ix4 (a b c d e:W)(l:↑W):ixW (.tup (a::b::c::d::e::l)) (.int 4)=pr e:=cE<|eJ ↥_ rfl
def ix5 (a b c d e f:W)(l:↑W):ixW (.tup (a::b::c::d::e::f::l)) (.int 5)=pr f:=cE<|eJ ↥_ rfl
def zL {α:Type}(f:α->W)(l:↑α)(lo hi:Option Int):LM (l.map f) lo hi=(LM l lo hi).map f:=by unfold LM;rw[Fv,List.map_take,List.map_drop]
end
end L2
namespace L2
open PySem PySem.Spec PyProof.Rows
section
variable {X:Cx}{E:XK}{p pos:JY}
noncomputable def Pk (j:Bool):W->M Sr:=match j with|true=>Pn|false=>Pm
def iq {j:Bool}{α β:Type}{r:Wo->α->β->Prop}{w:W}{k:Sr->M α}{Q:β->Hp->Prop}(R:Rel X.K o)(hr:Rv X.K o w v)(h:Ps (cg X E) r o (bd (Pk j w) k o.h) Q):
  ∃s a,v=.ref a/\(∃vs ,SqK j X.K o.H a vs)/\(∀p ,Ex o p->Rel X.K p->s.G p.h->∃vs,SqK j X.K p.H a vs/\Rvs X.K p s.l vs)/\Ps (cg X E) r o (k s o.h) Q:=by
 cases j with
 |false=>exact qk R hr h
 |true=>
  cases w with
  |tup l=>
   unfold Rv at hr;let(a,vs,rfl,s,r'):=hr;exact((l,λJ=>True),a,rfl,(vs,s),λp X J J=>(vs,X.rdT R s,r'.mono R X),h)
  |_=>exact h.elim
noncomputable def P0 (l m:↑W):↑W:=Hw (λa b=>.tup [a,b]) l m
def eK {i:Nat}{w:W}(e:(P0 l m)[i]?=`w):∃x y,l[i]?=`x/\m[i]?=`y/\w=.tup [x,y]:=by
 unfold P0 at e;rw[Hy]at e;cases h1:l[i]? with
 |none=>rw[h1]at e;cases e
 |some x=>
  cases h2:m[i]? with|none=>rw[h1,h2]at e;cases e|some y=>rw[h1,h2]at e;cases e;exact(x,y,rfl,rfl,rfl)
noncomputable def Po (j k:Bool)(ws:↑W):M Sr:=match ws with|[x,y]=>bd (Pk j x) λs=>bd (Pk k y) λt=>pr (P0 s.l t.l,λh=>s.G h/\t.G h)|_=>no
def BY (j k:Bool){x1}{fl:KU->M ↑W}(hm:X.mg "zip"=none)(ha:JA X E [a,b] fl)(hg:Gl X "zip")(hs:J1 [a,b] X.env=[(false ,JX a X.env),(false ,JX b X.env)])(hs2:J1 [b] X.env=[(false ,JX b X.env)]):
  JI X E (.Tuple elts x1 tpos) (.Call (.Name "zip" p) [a,b] [] pos) (Nv fl<|Po j k):=(A9 (j:=j) (k:=k) hg hm ha.h hs hs2).imp λσ H Q h=>by
 ac_nf;rcases x with _|⟨w,_|⟨w2,_|⟨_,_⟩⟩⟩
 exact h1.elim;exact h1.elim
 .have h1:Ps (cg X E) (λp s J=>Le X.K p J s) p (bd (Pk j w) (λs=>bd (Pk k w2) λt=>pr (P0 s.l t.l,λh=>s.G h/\t.G h)) p.h) Q:=h1;let(v,u,rfl,rv,ru):=r1.two;let(s,a,rfl,hq,sk,h1):=iq R1 rv h1;let(t,b,rfl,hq2,sk2,h1):=iq R1 ru h1;refine(a,b,rfl,hq,hq2,h1.pr R1 (λo X R g=>?_,λo i w X R g e=>?_));let(vs,k1,k2):=sk o X R g.1;let(us,k3,k4):=sk2 o X R g.2;exact(vs,us,k1,k3,by rw[k2.len,k4.len];show _=⇑(P0 s.l t.l);unfold P0;rw[Gq]);let(vs,k1,k2):=sk o X R g.1;let(us,k3,k4):=sk2 o X R g.2;let(x,y,ex,ey,rfl):=eK e;let(v1,hv1,rv1):=k2.get ex;let(v2,hv2,rv2):=k4.get ey;refine((vs,us,v1,v2,k1,k3,hv1,hv2),λq H' yl=>?_);let(T,z1,z2,hT,rfl,hz,rfl):=yl;let(g1,g2):=hz vs us k1 k3;have e1:z1=v1:=Option.some.inj<|g1.symm.trans hv1;have e2:z2=v2:=Option.some.inj<|g2.symm.trans hv2;subst e1 e2;refine((o.mu,o.h,upd o.H T<|.tup [z1,z2]),rfl,rfl,Ex.new hT,R.new hT,Rv.newT R hT<|Rvs.cons rv1<|Rvs.cons rv2 Rvs.nil)
 exact h1.elim
variable {o e:Expr}{apos cpos:JY}{fo:KU->M W}{l:KU->M ↑W}
noncomputable def dy (x:W)(ws:↑W):M W:=match x,ws with
 |.loc k,[w]=>bd (M9 w) λm h=>match h[k]? with|some (.lst l)=>if ⇑l+⇑m<=sizeLine then .ok .non (h.set k<|.lst<|l++m) else .bad|_=>.bad
 |_,_=>no
def s9 (ho:JE X E o fo)(ha:JA X E [e] l)(hbase:Kj o "extend" X.env (JX o X.env)=JX o X.env)
  (hfew:((JZ cpos<|J1 [e] X.env).all (λx=>!x.1)&&(Kk cpos<|Kl [] X.env).all (λx=>x.1.isSome)&&decide (⇑([e]:↑Expr)+⇑([]:↑Kr)+(if ([]:↑Kr).isEmpty then 0 else 1)<30))=true)
  (hline:(apos.endLine==cpos.line)=true)(hs:J1 [e] X.env=(false ,JX e X.env)::J1 [] X.env)(hplain:(JZ cpos<|J1 [] X.env).any (·.1)=false):
  JE X E (.Call (.Attribute o "extend" apos) [e] [] cpos) (No isL dy fo l):=
 (vE PySem.F.plainAttrs_list PySem.F.slot_list_extend PySem.F.type_list_extend sQ ho.h ha.h hbase hfew hline hs hplain).imp λσ H Q h=>by
  let(w,ρ,rfl,R,S,h):=h;refine(w,ρ,rfl,R,S,Ps.bd h λp x vx e1 R1 r1 h1=>?_);let(j,l0,vs0,rfl,hj,rfl,hlt,hH,hl0,h1):=pM R1 r1 h1;refine(.inl (rfl,vs0,.of hH),p,ρ,rfl,R1,S.mono R e1,Ps.bd h1 λq ws vs e2 R2 r2 h2=>?_);rcases ws with _|⟨w',_|⟨_,_⟩⟩
  exact h2.elim
  .let(v,rfl,r):=r2.one
   have h2:Ps (cg X E) (Rv X.K) q (bd (M9 w') (λm h=>match h[j]? with
    |some (.lst l)=>if ⇑l+⇑m<=sizeLine then .ok .non (h.set j<|.lst<|l++m) else .bad
    |_=>.bad) q.h) Q:=h2
   let(m,am,us',rfl,hm,rm,h2):=fm R2 r h2;cases e:q.h[j]? with
   |none=>simp only[e]at h2;exact h2.elim
   |some b=>
    cases b with
    |lst l'=>
     simp only[e]at h2;let(us,k1,k2):=R2.ob j _ e;by_cases z:⇑l'+⇑m<=sizeLine
     .rw[np z]at h2;rw[e2.mu j hlt]at k1;refine(p.mu j,am,us,us',rfl,rfl,k1,hm,by rw[k2.len,rm.len];exact z,?_);have:=Ps.at (p:=q.put j (.lst<|l'++m)<|.lst<|us++us') (b:=V.non) h2 rfl (Ex.put e ⇑_) (R2.putL e ⇑_ (k2.app rm))<|OF.mpr rfl;have em:q.mu j=p.mu j:=e2.mu j hlt;have ew:(q.put j (.lst<|l'++m)<|.lst<|us++us').H=upd q.H (p.mu j) (.lst<|us++us'):=by show upd q.H (q.mu j) _=_;rw[em]
      rw[ew]at this;exact this
     rw[gV z]at h2;exact h2.elim
    |_=>simp only[e]at h2;exact h2.elim
  exact h2.elim
noncomputable def i9 (x:W)(ws:↑W):M W:=match x,ws with
 |.loc k,[.int i]=>λh=>match h[k]? with
  |some (.lst l)=>if -(2^63)<=i/\i<2^63 then (match ixN ⇑l i with
   |some j=>(match l[j]? with
    |some w=>.ok w (h.set k<|.lst<|l.eraseIdx j)
    |none=>.bad)
   |none=>.bad) else .bad
  |_=>.bad
 |_,_=>no
theorem Rvs.eraseIdx {K:Zf}{o:Wo}:∀ {l:↑W}{vs:↑V} (i:Nat),Rvs K o l vs->Rvs K o (l.eraseIdx i) (vs.eraseIdx i)|[],vs,i,h=>by unfold Rvs at h;subst h;exact Rvs.nil|w::l,vs,0,h=>by unfold Rvs at h;let(v,r,rfl,_,h2):=h;exact h2|w::l,vs,i+1,h=>by unfold Rvs at h;let(v,r,rfl,h1,h2):=h;exact Rvs.cons h1<|Rvs.eraseIdx i h2
def we (ho:JE X E o fo)(ha:JA X E [e] l)(hbase:Kj o "pop" X.env (JX o X.env)=JX o X.env)
  (hfew:((JZ cpos<|J1 [e] X.env).all (λx=>!x.1)&&(Kk cpos<|Kl [] X.env).all (λx=>x.1.isSome)&&decide (⇑([e]:↑Expr)+⇑([]:↑Kr)+(if ([]:↑Kr).isEmpty then 0 else 1)<30))=true)
  (hline:(apos.endLine==cpos.line)=true)(hs:J1 [e] X.env=(false ,JX e X.env)::J1 [] X.env)(hplain:(JZ cpos<|J1 [] X.env).any (·.1)=false):
  JE X E (.Call (.Attribute o "pop" apos) [e] [] cpos) (No isL i9 fo l):=
 (vE PySem.F.plainAttrs_list PySem.F.slot_list_pop PySem.F.type_list_pop v4 ho.h ha.h hbase hfew hline hs hplain).imp λσ H Q h=>by
  let(w,ρ,rfl,R,S,h):=h;refine(w,ρ,rfl,R,S,Ps.bd h λp x vx e1 R1 r1 h1=>?_);let(j,l0,vs0,rfl,hj,rfl,hlt,hH,hl0,h1):=pM R1 r1 h1;refine(.inl (rfl,vs0,.of hH),p,ρ,rfl,R1,S.mono R e1,Ps.bd h1 λq ws vs e2 R2 r2 h2=>?_);rcases ws with _|⟨w',_|⟨_,_⟩⟩
  exact h2.elim
  .let(v,rfl,r):=r2.one;cases w' with
   |int i=>
    have h2:Ps (cg X E) (Rv X.K) q (match q.h[j]? with
     |some (.lst l)=>if -(2^63)<=i/\i<2^63 then (match ixN ⇑l i with
      |some j'=>(match l[j']? with
       |some w=>.ok w (q.h.set j<|.lst<|l.eraseIdx j')
       |none=>.bad)
      |none=>.bad) else .bad
     |_=>.bad) Q:=h2
    cases e:q.h[j]? with
    |none=>simp only[e]at h2;exact h2.elim
    |some b=>
     cases b with
     |lst l'=>
      simp only[e]at h2;let(us,k1,k2):=R2.ob j _ e;by_cases z: -(2^63)<=i/\i<2^63
      .rw[np z]at h2;cases e3:ixN ⇑l' i with
       |none=>rw[e3]at h2;exact h2.elim
       |some j'=>
        simp only[e3]at h2;cases e4:l'[j']? with
        |none=>rw[e4]at h2;exact h2.elim
        |some w2=>
         simp only[e4]at h2;let(y,hy,ry):=k2.get e4;have k0:=k1;rw[e2.mu j hlt]at k1;refine(p.mu j,us,i,j',y,rfl,by rw[OE.mp r],k1,z.1,z.2,by rw[k2.len];exact (lU e3).1,hy,?_);have:=Ps.at (p:=q.put j (.lst<|l'.eraseIdx j')<|.lst<|us.eraseIdx j') (b:=y) h2 rfl (Ex.put e ⇑_) (R2.putL e ⇑_ (k2.eraseIdx j'))<|ry.mono R2<|Ex.put e ⇑_;have em:q.mu j=p.mu j:=e2.mu j hlt;have ew:(q.put j (.lst<|l'.eraseIdx j')<|.lst<|us.eraseIdx j').H=upd q.H (p.mu j) (.lst<|us.eraseIdx j'):=by show upd q.H (q.mu j) _=_;rw[em]
         rw[ew]at this;exact this
      rw[gV z]at h2;exact h2.elim
     |_=>simp only[e]at h2;exact h2.elim
   |_=>exact h2.elim
  cases w'<;>exact h2.elim
noncomputable def LD (x y:W):M W:=match x,y with|.tup a,.tup b=>if a.isEmpty=true then pr (.tup b) else gd (⇑a+⇑b<=sizeLine) (pr<|.tup<|a++b)|_,_=>no
set_option tactic.hygienic true in
def vN:OpM X E (λx y H Q=>Op X.K x y H Q\/Oq X.K x y H Q) LD:=by
 intro o x y vx vy Q R rx ry h;unfold LD at h;split at h
 .rename_i a b;have rx0:=rx;have ry0:=ry;unfold Rv at rx ry;let(p,vs,rfl,s1,r1):=rx;let(q,us,rfl,s2,r2):=ry;cases a with
  |nil=>
   have h:Ps (cg X E) (Rv X.K) o (pr (W.tup b) o.h) Q:=h;unfold Rvs at r1;subst r1;exact .inl (p,q,us,rfl,rfl,s1,s2,h.pr R ry0)
  |cons w a=>
   have h:Ps (cg X E) (Rv X.K) o (gd (⇑(w::a)+⇑b<=sizeLine) (pr<|W.tup<|(w::a)++b) o.h) Q:=h;let(hz,h):=h.gd;refine .inr (p,q,vs,us,rfl,rfl,s1,s2,λz=>?_,by rw[r1.len,r2.len];exact hz,λz=>?_,λz c hc=>?_);have:=r1.len;rw[z]at this;cases this;subst z;have lb:=r2.len;have:b=[]:=List.length_eq_zero_iff.mp lb.symm;subst this;rw[F5]at h;exact h.pr R rx0;exact fk R hc (r1.app r2) h
 exact h.elim
def zn {fa fb:KU->M W}(ha:JE X E a fa)(hb:JE X E b fb):JE X E (.BinOp a .Add b pos) (m2 LD fa fb):=jw (NM.or NN) vN ha hb
def wg {x:Str}{zs:↑Str}(hm:X.mg x=some (.ref a))(hq:∀H ,SqT X.K H a<|zs.map V.str)(hg:Gl X x:=by rfl)(hd:(x==("__debug__":Str))=false:=by decide):JE X E (.Name x pos) (mC<|.tup<|zs.map W.str):=
 iz (v:=.ref a) hg hm rfl (λo=>by
  unfold Rv;refine(a,_,rfl,hq _,?_)
  induction zs with
  |nil=>exact Rvs.nil
  |cons z zs ih=>exact Rvs.cons (OG.mpr rfl)<|rvs_strs zs) hd
where
 rvs_strs {K:Zf}{o:Wo}:∀zs:↑Str,Rvs K o (zs.map W.str) (zs.map V.str)
  |[]=>Rvs.nil
  |z::zs=>Rvs.cons (OG.mpr rfl)<|rvs_strs zs
end
section
noncomputable def Mx (lo:Int):Nat->↑V
 |0=>[]
 |n+1=>.int lo::Mx (lo+1) n
theorem dH:∀ (n:Nat) (lo:Int),⇑(Mx lo n)=n|0,_=>rfl|n+1,lo=>by rw[Mx,FA,dH n]
theorem dE {K:Zf}:∀ (n:Nat) (lo:Int),Rvs K o (My lo n) (Mx lo n)|0,_=>Rvs.nil|n+1,lo=>Rvs.cons (OE.mpr rfl)<|dE n<|lo+1
theorem c8:∀ (n:Nat) (lo:Int) (its:↑Jk),⇑its=n->(∀ (i:Nat) (v:Jk) ,its[i]?=`v->∃t,v=Jk.int (lo+(i:Int)) t)->Vals (Mx lo n) its
 |0,_,[],_,_=>.nil
 |0,_,_::_,h,_=>by cases h
 |n+1,lo,[],h,_=>by cases h
 |n+1,lo,v::its,h,q=>by
  rw[Mx];refine .cons ?_ (c8 n (lo+1) its (GQ.inj h) λi u e=>?_);let(t,e):=q 0 v rfl;exact(t,by rw[e];congr 1;omega);let(t,e):=q (i+1) u (by rw[Gn];exact e);exact(t,by rw[e];congr 1;omega)
noncomputable def tLR (ta:TA):TE:=λσ H Q=>ta σ H λvs H1=>∃i j:Int,vs=[.int i,.int j]/\(-(2^62)<=i/\i<2^62/\ -(2^62)<=j/\j<2^62)/\(j-i).toNat<=sizeLine/\∀l,H1 l=none->Q (.ref l) (upd H1 l<|.lst<|Mx i (j-i).toNat)
section
variable {X:Cx}{E:XK}{a b:Expr}{p p2 pos pos2:JY}
def sF (hc:X.calm=true)(hgl:Gl X "list")(hml:X.mg "list"=none)(hg:Gl X "range")(hm:X.mg "range"=none)(ha:PA X [a,b] ta)(hs:J1 [a,b] X.env=[(false ,JX a X.env),(false ,JX b X.env)]:=by rfl)(hs2:J1 [b] X.env=[(false ,JX b X.env)]:=by rfl)
  (he:J1 [.Call (.Name "range" p2) [a,b] [] pos2] X.env=(false ,JX (.Call (.Name "range" p2) [a,b] [] pos2) X.env)::J1 [] X.env:=by rfl)(hpl:(JZ pos<|J1 [] X.env).any (·.1)=false:=by rfl):
  PE X (.Call (.Name "list" p) [.Call (.Name "range" p2) [a,b] [] pos2] [] pos) (tLR ta):=by
 intro P4 s σ H Q I h;refine Kq<|bu I hgl hml PyProof.Rows.boot_list ?_ ↥_ ↥_;refine PyProof.Rows.callWith_type1 ?_ he hpl;rw[he];refine Calls.spliced_cons ?_;refine Call_ (bu I hg hm boot_range<|PyProof.Rows.callWith_type1 (thn (ha pos2 P4 s σ H _ I h) λus s1 qz=>?_) (by rw[hs,hs2])<|by rw[hs2];rfl);let(vs,H1,I1,r1,q1):=qz;let(i,j,e,(q1,q2,q3,q4),hz,q):=q1;subst e;cases r1 with
 |cons r rr=>
  cases rr with
  |cons r' rr=>
   cases rr;let(t,rfl):=r;let(t',rfl):=r';refine call_range_2<|Calls.spliced_nil ?_;have I2:Inv X P4 σ H1 {s1 with heap:=s1.heap.push {cls:=.type "range",data:=.fields #[.int i t,.int j t',.int 1 s1.toks]},toks:=s1.toks+1}:=I1.kept λb o e=>Fx _ e;have hn:Jl.Range.rangeSize i j 1=((j-i).toNat:Int):=by rw[rangeSize_one];split<;>omega
   refine call_list_range (I2.ok.hd hc) (IsRange.new ..) (small_one q1 q2 q3 q4) hn (F1 hz ↥_) λh' tk acc' c' hk hS hacc=>?_;have vs:Vals (Mx i (j-i).toNat) acc'.toList:=c8 _ _ _ (by rw[F6,hacc.1]) λk v e=>by let(t,e):=hacc.2 k v (by rw[<-Gb];exact e);exact(t,by rw[e];congr 1;omega)
   exact(.ref _,_,I2.laid (t':=tk) hk (Fw _) (show ObjOk X.prog X.w _ h' _ (.lst<|Mx i (j-i).toNat) from(by rw[dH];exact hz,acc'.toList,c',vs,by rw[Hf];exact hS)),rfl,q _<|I2.hok.fresh<|Fw _)
noncomputable def lrL (l:KU->M ↑W):KU->M ↑W:=λρ=>bd (l ρ) λws=>match ws with|[.int i,.int j]=>gd ((-(2^62)<=i/\i<2^62/\ -(2^62)<=j/\j<2^62)/\(j-i).toNat<=sizeLine) (pr<|My i (j-i).toNat)|_=>no
def sX {l:KU->M ↑W}(hc:X.calm=true)(hml:X.mg "list"=none)(hm:X.mg "range"=none)(ha:JA X E [a,b] l)(hgl:Gl X "list")(hg:Gl X "range")(hs:J1 [a,b] X.env=[(false ,JX a X.env),(false ,JX b X.env)])(hs2:J1 [b] X.env=[(false ,JX b X.env)])
  (he:J1 [.Call (.Name "range" p2) [a,b] [] pos2] X.env=(false ,JX (.Call (.Name "range" p2) [a,b] [] pos2) X.env)::J1 [] X.env)(hpl:(JZ pos<|J1 [] X.env).any (·.1)=false):JF X E (.Call (.Name "list" p) [.Call (.Name "range" p2) [a,b] [] pos2] [] pos) (lrL l):=
 (sF hc hgl hml hg hm ha.h hs hs2 he hpl).impF λσ H Q h=>by
  let(o,ρ,rfl,R,S,h):=h;refine(o,ρ,rfl,R,S,Ps.bd h λp x vx e1 R1 r1 h1=>?_);split at h1;let(v,u,rfl,r,ru):=r1.two;let(hz,h1):=h1.gd;exact(_,_,by rw[OE.mp r,OE.mp ru],hz.1,hz.2,h1.pr R1<|dE _ _);exact h1.elim
end
end
section
section
variable {X:Cx}{E:XK}
def yM:OpR X (J4 .IsNot) (λx y H Q=>∃c d ,x=.bl c/\y=.bl d/\Q (.bl<|!(c==d)) H):=by intro P4 s σ H x y v u Q I rx ry h;let(c,d,rfl,rfl,q):=h;cases rx;cases ry;exact isnot_bool<|aC I q rfl
noncomputable def isBW (x y:W):M W:=match x,y with|.bl c,.bl d=>pr (.bl<|c==d)|_,_=>no
noncomputable def NF (x y:W):M W:=match x,y with|.bl c,.bl d=>pr (.bl<|!(c==d))|_,_=>no
def vM:OpM X E (λx y H Q=>∃c d ,x=.bl c/\y=.bl d/\Q (.bl<|!(c==d)) H) NF:=by
 intro o x y vx vy Q R rx ry h;unfold NF at h;split at h;exact(_,_,OD.mp rx,OD.mp ry,h.pr R<|OD.mpr rfl);exact h.elim
end
theorem jQ {G:↑Ob->Prop}{t:W->KU->Option KU}{f:KU->M Bool}{g:KU->M W}{c:Nat}(I:Nat->↑W->↑Ob->Prop)(l:↑W)(hG:∀i a h ,I i a h->G h)
  (hs:∀i w a h ,l[i]?=`w->I i a h->∃r,t w (List.replicate c none++ρ)=`r/\Ok (f r) h λb h'=>(b=false/\I (i+1) a h')\/(b=true/\Ok (g r) h' λv h''=>I (i+1) (a++[v]) h'')):
  ∀ (m:↑W) (n:Nat) (a:↑W) (h:↑Ob),l.drop n=m->n<=⇑l->I n a h->Ok (LG G t f g c m ρ) h λr h'=>I ⇑l (a++r) h'
 |[],n,a,h,e,hn,i=>by have:⇑l<=n:=Il.mp e;have hn:n=⇑l:=∅;subst hn;refine([],h,?_,by show I ⇑l (a++[]) h;rw[F5];exact i);unfold LG;rw[cU<|hG _ _ _ i];rfl
 |w::m,n,a,h,e,hn,i=>by
  have hw:l[n]?=`w:=by have:=congrArg Im e;rw[Io,Ip]at this;exact this
  have hl:n<⇑l:=(FD.mp hw).1;have em:l.drop (n+1)=m:=by rw[<-Iq,e];rfl
  let(r,e1,b,h',e2,q):=hs n w a h hw i;rcases q with⟨rfl,i'⟩|⟨rfl,v,h'',e3,i'⟩
  let(y,h2,e3,q):=jQ I l hG hs m (n+1) a h' em hl i';refine(y,h2,?_,q);unfold LG;rw[cU<|hG _ _ _ i,e1];dsimp only;rw[bW e2,gV ↥_];exact e3;let(y,h2,e4,q):=jQ I l hG hs m (n+1) (a++[v]) h'' em hl i';refine(v::y,h2,?_,by show I ⇑l (a++v::y) h2;have q:I ⇑l (a++[v]++y) h2:=q;rw[FZ]at q;exact q);unfold LG;rw[cU<|hG _ _ _ i,e1];dsimp only;rw[bW e2,np rfl,bW e3,bW e4];rfl
def nz {β:Type}{G:↑Ob->Prop}{t:W->KU->Option KU}{f:KU->M Bool}{g:KU->M W}{c:Nat}{k:↑W->M β}{Q:β->↑Ob->Prop}(I:Nat->↑W->↑Ob->Prop)(h0:I 0 [] h)(hG:∀i a h ,I i a h->G h)
  (hs:∀i w a h ,l[i]?=`w->I i a h->∃r,t w (List.replicate c none++ρ)=`r/\Ok (f r) h λb h'=>(b=false/\I (i+1) a h')\/(b=true/\Ok (g r) h' λv h''=>I (i+1) (a++[v]) h''))(hd:∀a h ,I ⇑l a h->Ok (k a) h Q):Ok (bd (LG G t f g c l ρ) k) h Q:=
 ap (jQ I l hG hs l 0 [] h rfl (FU _) h0) λr h' i=>hd r h' i
section
variable {β:Type}{h:↑Ob}{Q:β->↑Ob->Prop}{x:W}{l:↑W}
def Lw.src {k:Sr->M β}(p:Lw h x l)(q:∀G ,(∀h' ,Lw h' x l->G h')->Ok (k (l,G)) h Q):Ok (bd (Pm x) k) h Q:=by
 rcases p with rfl|⟨j,rfl,e⟩
 show Ok (bd (pr (l,λJ=>True)) k) h Q;rw[au];exact q _ λJ J=>trivial
 .refine vS e (q _ λh' r=>?_);rcases r with r|⟨i,r,e'⟩
  cases r;cases r;exact e'
def Lw.keep (p:Lw h x l)(q:∀i ,i<⇑h->h'[i]?=h[i]?):Lw h' x l:=by
 rcases p with rfl|⟨j,rfl,e⟩
 exact .inl rfl;exact .inr (j,rfl,(q j<|bm e).trans e)
end
def Lw.len_eq {β:Type}{Q:β->↑Ob->Prop}{k:W->M β}{N:Int}(p:Lw h x l)(hN:N=(⇑l:Int))(q:Ok (k<|.int N) h Q):Ok (bd (MY [x]) k) h Q:=by subst hN;exact p.len q
end
section
noncomputable def M0:↑Str->↑W->Str->Option W|n::ns,w::ws,f=>if f=n then `w else M0 ns ws f|_,_,_=>none
noncomputable def putN:↑Str->↑W->Str->W->↑Str×↑W
 |n::ns,w::ws,f,y=>if n=f then (n::ns ,y::ws) else (n::(putN ns ws f y).1 ,w::(putN ns ws f y).2)
 |_,_,f,y=>([f] ,[y])
section
variable {K:Zf}{o:Wo}
theorem jx {f:Str}{w:W}:∀ {fs:↑(Str×V)}{ns:↑Str}{ws:↑W},fs.map (·.1)=ns->Rvs K o ws (fs.map (·.2))->M0 ns ws f=`w->∃v,fs.lookup f=`v/\Rv K o w v
 |[],_,ws,e,_,h=>by subst e;cases ws<;>cases h
 |(g ,x)::fs,_,[],e,r,h=>by subst e;cases h
 |(g ,x)::fs,_,y::ws,e,r,h=>by
  subst e;unfold Rvs at r;let(v,t,e2,r1,r2):=r;cases e2;have h:(if f=g then `y else M0 (fs.map (·.1)) ws f)=`w:=h;by_cases z:f=g;rw[np z]at h;cases h;exact(x,by rw[GC,z];simp,r1);rw[gV z]at h;let(v,e3,r3):=jx rfl r2 h;refine(v,?_,r3);rw[GC,show (f==g)=false by simpa using z];exact e3
theorem nN {f:Str}:∀ {fs:↑(Str×V)},f ∉fs.map (·.1)->fs.lookup f=none|[],_=>rfl|(g ,x)::fs,h=>by rw[Fz,FC,not_or]at h;rw[GC,show (f==g)=false by simpa using h.1];exact nN h.2
theorem qy {f:Str}(hy:Rv K o y v):∀ {fs:↑(Str×V)}{ns:↑Str}{ws:↑W},fs.map (·.1)=ns->Rvs K o ws (fs.map (·.2))->(Oj f v fs).map (·.1)=(putN ns ws f y).1/\Rvs K o (putN ns ws f y).2 ((Oj f v fs).map (·.2))
 |[],_,[],e,r=>by subst e;exact(rfl,Rvs.cons hy Rvs.nil)
 |[],_,w::ws,e,r=>by unfold Rvs at r;let(_,_,e2,_):=r;cases e2
 |(g ,x)::fs,_,[],e,r=>by unfold Rvs at r;cases r
 |(g ,x)::fs,_,w::ws,e,r=>by
  subst e;unfold Rvs at r;let(u,t,e2,r1,r2):=r;cases e2;show (List.map (·.1) (if g=f then (g ,v)::fs else (g ,x)::Oj f v fs))=(if g=f then (g::fs.map (·.1) ,y::ws) else (g::(putN (fs.map (·.1)) ws f y).1 ,w::(putN (fs.map (·.1)) ws f y).2)).1/\Rvs K o (if g=f then (g::fs.map (·.1) ,y::ws) else (g::(putN (fs.map (·.1)) ws f y).1 ,w::(putN (fs.map (·.1)) ws f y).2)).2 ((if g=f then (g ,v)::fs else (g ,x)::Oj f v fs).map (·.2));by_cases z:g=f;rw[np z,np z];exact(rfl,Rvs.cons hy r2);rw[gV z,gV z];let(a,b):=qy hy (fs:=fs) rfl r2;exact(by rw[Fz,a],Rvs.cons r1 b)
def Rel.putI (R:Rel K o){k:Nat}{c:Str}{ns:↑Str}{fs:↑(Str×V)}(hk:o.h[k]?=`b)(hb:b≠.gone)(hn:Jj K JP c=some (some<|.ref C))(h1:fs.map (·.1)=ns)(hl:Rvs K o ws (fs.map (·.2))):Rel K (o.put k (.ins c ns ws)<|.ins C dx fs):=
 R.put hk hb (C,dx,fs,hn,aB,h1,hl.mono R<|Ex.put hk hb)
end
section
variable {X:Cx}{E:XK}
noncomputable def Mv (c:Str)(x:W):M (Nat×↑Str×↑W):=match x with
 |.loc k=>λh=>match h[k]? with|some (.ins c' ns ws)=>if c'=c then .ok (k ,ns,ws) h else .bad|_=>.bad
 |_=>no
def iB {α β:Type}{r:Wo->α->β->Prop}{c:Str}{k:Nat×↑Str×↑W->M α}{Q:β->Hp->Prop}(hn:Jj X.K JP c=some (some<|.ref C))(R:Rel X.K o)(hr:Rv X.K o x v)(h:Ps (cg X E) r o (bd (Mv c x) k o.h) Q):
  ∃ (j:Nat) (ns:↑Str) (ws:↑W) (dx:Jq) (fs:↑(Str×V)),x=.loc j/\j<⇑o.h/\o.h[j]?=some (.ins c ns ws)/\v=.ref (o.mu j)/\o.H (o.mu j)=some (.ins C dx fs)/\fs.map (·.1)=ns/\Rvs X.K o ws (fs.map (·.2))/\Ps (cg X E) r o (k (j ,ns,ws) o.h) Q:=by
 cases x with
 |loc j=>
  unfold Rv at hr;let(hj,rfl):=hr;unfold Mv bd at h;cases e:o.h[j]? with
  |none=>simp only[e]at h;exact h.elim
  |some b=>
   cases b with
   |ins c' ns ws=>
    simp only[e]at h;by_cases z:c'=c;subst z;rw[np rfl]at h;let(C',dx,fs,q1,q2,q3,q4):=R.ob j _ e;rw[hn]at q1;cases q1;exact(j,ns,ws,dx,fs,rfl,hj,e,rfl,q2,q3,q4,h);rw[gV z]at h;exact h.elim
   |_=>simp only[e]at h;exact h.elim
 |_=>exact h.elim
noncomputable def Md (c f:Str)(x:W):M W:=bd (Mv c x) λt=>match M0 t.2.1 t.2.2 f with|some w=>pr w|none=>no
noncomputable def Ol (c f:Str)(x y:W):M Unit:=bd (Mv c x) λt=>λh=>if ⇑t.2.1<1000 then .ok () (h.set t.1<|.ins c (putN t.2.1 t.2.2 f y).1 (putN t.2.1 t.2.2 f y).2) else .bad
variable {c f:Str}{C:Jq}{o:Expr}{fo:KU->M W}{pos pos':JY}
def Cn (hn:Jj X.K JP c=some (some<|.ref C))(cl:Cls X.K C)(na:NoAttr X.K C f)(ho:JE X E o fo)(hb:Kj o f X.env (JX o X.env)=JX o X.env:=by rfl):JE X E (.Attribute o f pos) (m1 (Md c f) fo):=
 (Be ho.h hb).imp λσ H Q h=>by
  let(w,ρ,rfl,R,S,h):=h;refine(w,ρ,rfl,R,S,Ps.bd h λp x vx e1 R1 r1 h1=>?_);let(j,ns,ws,dx,fs,rfl,hj,e,rfl,q2,q3,q4,h1):=iB hn R1 r1 h1;cases l:M0 ns ws f with
  |none=>simp only[l]at h1;exact h1.elim
  |some y=>
   simp only[l]at h1;let(v,lv,rv):=jx q3 q4 l;exact(_,C,dx,fs,v,rfl,q2,cl,na,lv,h1.pr R1 rv)
noncomputable def OO (c f:Str)(fo fv:KU->M W):KU->M Fl:=λρ=>bd (fv ρ) λy=>bd (fo ρ) λx=>bd (Ol c f x y) λJ=>pr<|.nx ρ
def qA (hn:Jj X.K JP c=some (some<|.ref C))(R:Rel X.K p)(S:Re X.K p ρ σ)(rx:Rv X.K p x vx)(ry:Rv X.K p y vy)(h:Ps (cg X E) (RFl X.K) p (bd (Ol c f x y) (λJ=>pr<|.nx ρ) p.h) (DQ D)):
  ∃a dx fs,vx=.ref a/\p.H a=some (.ins C dx fs)/\⇑fs<1000/\D.nx σ (upd p.H a<|.ins C dx<|Oj f vy fs):=by
 unfold Ol at h;rw[aa]at h;let(j,ns,ws,dx,fs,rfl,hj,e,rfl,q2,q3,q4,h):=iB hn R rx h;have ln:⇑fs=⇑ns:=by rw[<-q3,Fv]
 by_cases z:⇑ns<1000
 .have h:Ps (cg X E) (RFl X.K) p (.ok (.nx ρ)<|p.h.set j<|.ins c (putN ns ws f y).1 (putN ns ws f y).2) (DQ D):=by
   have e2:(bd (λh=>if ⇑ns<1000 then Rs.ok () (h.set j<|.ins c (putN ns ws f y).1 (putN ns ws f y).2) else .bad) (λJ=>pr<|Fl.nx ρ) p.h)=.ok (.nx ρ) (p.h.set j<|.ins c (putN ns ws f y).1 (putN ns ws f y).2):=by unfold bd;simp only[np z];rfl
   rw[<-e2];exact h
  let(a,b):=qy ry q3 q4;refine(p.mu j,dx,fs,rfl,q2,∅,?_);exact Ps.at (p:=p.put j (.ins c (putN ns ws f y).1 (putN ns ws f y).2)<|.ins C dx<|Oj f vy fs) (b:=FlV.nx σ) h rfl (Ex.put e ⇑_) (R.putI e ⇑_ hn a b) (σ,rfl,S.mono R<|Ex.put e ⇑_)
 .have e2:(bd (λh=>if ⇑ns<1000 then Rs.ok () (h.set j<|.ins c (putN ns ws f y).1 (putN ns ws f y).2) else .bad) (λJ=>pr<|Fl.nx ρ) p.h)=.bad:=by unfold bd;simp only[gV z]
  have h:Ps (cg X E) (RFl X.K) p (bd (λh=>if ⇑ns<1000 then Rs.ok () (h.set j<|.ins c (putN ns ws f y).1 (putN ns ws f y).2) else .bad) (λJ=>pr<|Fl.nx ρ) p.h) (DQ D):=h;rw[e2]at h;exact h.elim
variable {value:Expr}{fv:KU->M W}{tpos:JY}
def BR (hn:Jj X.K JP c=some (some<|.ref C))(cl:Cls X.K C)(na:NoAttr X.K C f)(ho:JE X E o fo)(hv:JE X E value fv)(hs:swapsWith value (some<|.Attribute o f pos') pos.line X.env=pure false:=by rfl):JS X E (.Assign [.Attribute o f pos'] value pos) (OO c f fo fv):=
 (A5 ho.h hv.h hs).imp λD σ H h=>by let(w,ρ,rfl,R,S,h):=h;refine(w,ρ,rfl,R,S,Ps.bd h λp y vy e1 R1 r1 h1=>(p,ρ,rfl,R1,S.mono R e1,Ps.bd h1 λq x vx e2 R2 r2 h2=>?_));let(a,dx,fs,ex,q1,q2,q3):=qA hn R2 ((S.mono R e1).mono R1 e2) r2 (r1.mono R1 e2) h2;exact(a,C,dx,fs,ex,q1,cl,na,q2,q3)
noncomputable def Ln (x y:W):M W:=match x,y with|.int i,.int j=>pr (.int<|i+j)|_,_=>no
noncomputable def OK (c f:Str)(fo fv:KU->M W):KU->M Fl:=λρ=>bd (fo ρ) λx=>bd (Md c f x) λv=>bd (fv ρ) λy=>bd (Ln v y) λz=>bd (Ol c f x z) λJ=>pr<|.nx ρ
set_option tactic.hygienic true in
def sT (hn:Jj X.K JP c=some (some<|.ref C))(cl:Cls X.K C)(na:NoAttr X.K C f)(ho:JE X E o fo)(hv:JE X E value fv):JS X E (.AugAssign (.Attribute o f tpos) .Add value pos) (OK c f fo fv):=
 (sw ho.h hv.h wQ).imp λD σ H h=>by
  let(w,ρ,rfl,R,S,h):=h;refine(w,ρ,rfl,R,S,Ps.bd h λp x vx e1 R1 r1 h1=>?_);unfold Md at h1;rw[aa]at h1;let(j,ns,ws,dx,fs,rfl,hj,e,rfl,q2,q3,q4,h1):=iB hn R1 r1 h1;cases l:M0 ns ws f with
  |none=>simp only[l]at h1;exact h1.elim
  |some v=>
   simp only[l,au]at h1;let(vv,lv,rv):=jx q3 q4 l;refine(_,C,dx,fs,vv,rfl,q2,cl,na,lv,p,ρ,rfl,R1,S.mono R e1,Ps.bd h1 λq y vy e2 R2 r2 h2=>?_);unfold Ln at h2;split at h2
   .rename_i a b;rw[au]at h2;refine(a,b,OE.mp rv,OE.mp r2,?_);have rl:Rv X.K q (.loc j) (.ref<|p.mu j):=by have:=r1.mono R1 e2;exact this
    let(ad,dx',fs',ex,k1,k2,k3):=qA (vy:=V.int<|a+b) hn R2 ((S.mono R e1).mono R1 e2) rl (OE.mpr rfl) h2;cases ex;exact(dx',fs',k1,k2,k3)
   exact h2.elim
structure CGm (P:Jn)(w:Jo)(K:Zf)(mg:Str->Option Jk)(base:Jp)(k:Nat)(C:Jq)(m:Str)(f:Jq)(fd:Km)(ps:↑Str)(n:Nat)(fn:↑W->M W):Prop where
 ok:FnOk P w K mg base CX0 k f fd ps (Pj K mg n fn)
 bi:Binds K fd ps []
 me:K0 K C m f
noncomputable def isI (c m:Str)(x:W):M W:=bd (Mv c x) λt=>if m∈t.2.1 then no else pr x
noncomputable def Nn (c m:Str)(n:Nat)(fn:↑W->M W)(fo:KU->M W)(l:KU->M ↑W):KU->M W:=λρ=>bd (fo ρ) λx=>bd (isI c m x) λx=>bd (l ρ) λws=>arW n fn (x::ws)
def CQ {α β:Type}{r:Wo->α->β->Prop}{m:Str}{k:W->M α}{Q:β->Hp->Prop}(hn:Jj X.K JP c=some (some<|.ref C))(R:Rel X.K p)(hr:Rv X.K p x v)(h:Ps (cg X E) r p (bd (isI c m x) k p.h) Q):
  ∃a dx fs,v=.ref a/\p.H a=some (.ins C dx fs)/\fs.lookup m=none/\Ps (cg X E) r p (k x p.h) Q:=by
 unfold isI at h;rw[aa]at h;let(j,ns,ws,dx,fs,rfl,hj,e,rfl,q2,q3,q4,h):=iB hn R hr h;by_cases z:m∈ns;simp only[np z]at h;exact h.elim;simp only[gV z,au]at h;exact(_,dx,fs,rfl,q2,nN (by rw[q3];exact z),h)
end
section
variable {X:Cx}{c m:Str}{C fA:Jq}{fd:Km}{ps:↑Str}{k n:Nat}{fn:↑W->M W}{o e:Expr}{es:↑Expr}{fo:KU->M W}{l:KU->M ↑W}{pos apos p:JY}
def Ce (hn:Jj X.K JP c=some (some<|.ref C))(cl:Cls X.K C)(F:CGm X.prog X.w X.K X.mg X.base k C m fA fd ps n fn)(hr:Room k X.A)(ho:JE X E0 o fo)(ha:JA X E0 (e::es) l)
  (hst:J1 (e::es) X.env=(false ,JX e X.env)::J1 es X.env:=by rfl)(hpl:(JZ pos<|J1 es X.env).any (·.1)=false:=by rfl)
  (ht:JX (.Call (.Attribute o m apos) (e::es) [] pos) X.env=(do
   let ov<-JX o X.env
   J6 apos.atName
   let (f ,first)<-J7 [ov] (Ki ov m pl)
   callWith pos f first (JZ pos<|J1 (e::es) X.env) (Kk pos<|Kl [] X.env)):=by rfl):
  JE X E0 (.Call (.Attribute o m apos) (e::es) [] pos) (Nn c m n fn fo l):=(yx ho.h cl F.me F.ok hr F.bi .nil NX ha.h hst hpl ht).imp λσ H Q h=>by
 let(w,ρ,rfl,R,S,h):=h;refine(w,ρ,rfl,R,S,Ps.bd h λp x vx e1 R1 r1 h1=>?_);let(a,dx,fs,rfl,q1,q2,h1):=CQ hn R1 r1 h1;refine(a,dx,fs,rfl,q1,q2,p,ρ,rfl,R1,S.mono R e1,Ps.bd h1 λq ws vs e2 R2 r2 h2=>?_);unfold arW at h2;by_cases z:⇑(x::ws)=n;rw[np z]at h2;exact(q,x::ws,rfl,z,R2,by rw[F5];exact Rvs.cons (r1.mono R1 e2) r2,h2);rw[gV z]at h2;exact h2.elim
noncomputable def Nm (c:Str)(n:Nat)(fn:↑W->M W)(l:KU->M ↑W):KU->M W:=λρ=>bd (l ρ) λws=>λh=>match arW n fn (.loc ⇑h::ws) (h++[.ins c [] []]) with|.ok .non h'=>.ok (.loc ⇑h) h'|_=>.bad
def Rv.addLocI {K:Zf}{o:Wo}{q:Jq}{b:Ob}{u:HO}:Rv K (o.add q b u) (.loc ⇑o.h) (.ref q):=by unfold Rv;refine(by show _<⇑(o.h++[b]);simp,?_);show V.ref q=V.ref (if ⇑o.h=⇑o.h then q else o.mu ⇑o.h);rw[np rfl]
def zh (M:Mk X.K C fA)(hn:Jj X.K JP c=some (some<|.ref C))(F:FnOk X.prog X.w X.K X.mg X.base CX0 k fA fd ps (Pj X.K X.mg n fn))(hb:Binds X.K fd ps [])(hr:Room (k+1) X.A)(hm:X.mg c=some (.ref C))(ha:JA X E0 (e::es) l)(hg:Gl X c:=by rfl)
  (hdb:(c==("__debug__":Str))=false:=by decide)(he:J1 (e::es) X.env=(false ,JX e X.env)::J1 es X.env:=by rfl)(hpl:(JZ pos<|J1 es X.env).any (·.1)=false:=by rfl):
  JE X E0 (.Call (.Name c p) (e::es) [] pos) (Nm c n fn l):=(yy M F hr hg hm hb .nil NX ha.h hdb he hpl).imp λσ H Q h=>by
 let(w,ρ,rfl,R,S,h):=h;refine(w,ρ,rfl,R,S,Ps.bd h λp ws vs e1 R1 r1 h1=>?_);intro x dx hx hdx hne;have X1:Ex p (p.mu,p.h,upd p.H dx<|.own x):=Ex.new hdx;have N1:Rel X.K (p.mu,p.h,upd p.H dx<|.own x):=R1.new hdx;have hx1:((p.mu,p.h,upd p.H dx<|.own x):Wo).H x=none:=by show upd p.H dx (.own x) x=none;rw[af<|Ne.symm hne];exact hx
 have X2:Ex (p.mu,p.h,upd p.H dx<|.own x) (Wo.add (p.mu,p.h,upd p.H dx<|.own x) x (.ins c [] [])<|.ins C dx []):=Ex.add hx1;have N2:Rel X.K (Wo.add (p.mu,p.h,upd p.H dx<|.own x) x (.ins c [] [])<|.ins C dx []):=N1.add hx1 (C,dx,[],hn,aB,rfl,Rvs.nil)
 have h1:Ps (cg X E0) (Rv X.K) p (match arW n fn (.loc ⇑p.h::ws) (p.h++[.ins c [] []]) with
  |.ok .non h'=>.ok (.loc ⇑p.h) h'
  |_=>.bad) Q:=h1
 by_cases z:⇑(W.loc ⇑p.h::ws)=n
 .rw[xH z]at h1;refine(Wo.add (p.mu,p.h,upd p.H dx<|.own x) x (.ins c [] [])<|.ins C dx [],.loc ⇑p.h::ws,rfl,z,N2,?_,?_);rw[F5];exact Rvs.cons Rv.addLocI ((r1.mono R1 X1).mono N1 X2)
  .show Ps (X.K,X.mg,E0) (Rv X.K) _ (fn (.loc ⇑p.h::ws)<|p.h++[.ins c [] []]) _;cases ef:fn (.loc ⇑p.h::ws) (p.h++[.ins c [] []]) with
   |ok a h'=>
    rw[ef]at h1;cases a with
    |non=>
     intro p' b hp X3 R3 rb;refine(OF.mp rb,Ps.at (p:=p') h1 hp ((X1.trans X2).trans X3) R3 ?_);have lt:⇑p.h<(Wo.add (p.mu,p.h,upd p.H dx<|.own x) x (.ins c [] [])<|.ins C dx []).h.length:=by show _<⇑(p.h++[_]);simp
     unfold Rv;refine(FT lt X3.le,?_);rw[X3.mu _ lt];show V.ref x=V.ref (if ⇑p.h=⇑p.h then x else p.mu ⇑p.h);rw[np rfl]
    |_=>exact h1.elim
   |ex y h'=>rw[ef]at h1;exact h1.elim
   |bad=>rw[ef]at h1;exact h1.elim
 have:arW n fn (.loc ⇑p.h::ws)=no:=gV z;rw[this]at h1;exact h1.elim
end
end
end L2
namespace PySem
open Sem (wp)
def lY {w:Jo}{E:Jk->Js->Prop}{k:Nat}{name:Str}{Q:Option Jk->Js->Prop}
  (hx:s.heap.get? a=`o)(hc:o.cls=.type "list")(hdat:o.data=.seq xs k)(hd:o.dict=none)(hmiss:typeLookup (.type "list") name=pure none)(hname:(["__module__","__name__","__qualname__","__doc__","__annotations__"]:↑Str).contains name=false)(hA:A.handled=none)
  (h:∀h' tk ,(∀b ob ,s.heap.get? b=`ob->h'.get? b=`ob)->Q none {s with heap:=h',toks:=tk})(hsz:⇑name+100<=sizeLine:=by size_fits):
  Jw (Jx prog w) A (getAttr? (.ref a) name) Q E s:=by
 let(c,dct,dat,sl):=o;simp only at hc hdat hd;subst hc hdat hd;let(hp,g,d,tk,os):=s;have hT:∀tk',((hp,g,d,tk',os):Js).TypeIs (.ref a) "list":=λJ=>(_,hx,rfl)
 have f1:=sub_AttributeError;have f3:=F.slot_list_getattribute.lookup;have f4:=F.slot_list_getattribute.bind<|.ref a;have f5:=am_list_getattr_none;unfold getAttr? getAttrBy? getAttrBy
 repeat (any_goals (first|assumption|exact hT _|((with_reducible show Jw _ _ (call (Jk.builtin "list.__getattribute__") _ _) _ _ _);refine Kx F.slot_list_getattribute (hT _) am_entry_list_getattribute (F.args_list_getattribute_2 _ _) (meets_getattribute_miss_list a xs k sl name _ hmiss hname hsz) (hx,hA,λh' tk' e hx'=>?_))|wp_step))
 let(t',u',he):=hx'.there;show Jw _ _ (getattributeRaised _ _ _ _ _ _ _) _ _ _;unfold getattributeRaised
 repeat (any_goals (first|assumption|wp_step))
 exact h _ _ hx'.keeps
def F.entry_dul:entryFor table "dict.update.loop"=some Jl.«dict.update.loop»:=entryFor_of_tree (by kernel_rfl)
def F.plain_dul:plainId "dict.update.loop"=true:=⋯
structure K9 (K:Type) where
 t:Jq
 k:K
 key:Jk
 val:Jk
section
variable {prog:Jn}{w:Jo}{K:Type} [DecidableEq K] {knd:KeyKind prog w K}{A:Ju}{R:Result->Js->Prop}
def xk (hh:A.in1.handled=none)(I ax D:Jq)(hI:ax≠I)(hD:D≠I)(hx:D≠ax)(ps:↑(K9 K))(res:Jk)(hk:∀p∈ps ,knd.is p.k p.key=true)(ht:∀p∈ps ,p.t≠I/\p.t≠D):
  ∀ (k i:Nat) (s:Js) (kvs:↑(K×Jk)),⇑ps-i=k->i<=⇑ps->s.heap.IsListIter I ax i->s.heap.IsList ax (ps.map λp=>Jk.ref p.t).toArray->s.heap.DictOf knd D kvs->(∀p∈ps ,∃o n,s.heap.get? p.t=`o/\o.cls=.type "tuple"/\o.data=.seq #[p.key,p.val] n)->⇑kvs+(⇑ps-i)<=sizeLine->
  (∀h' tk ,h'.DictOf knd D ((ps.drop i).foldl (λacc p=>stored acc p.k p.val) kvs)->(∀b o ,b≠I->b≠D->s.heap.get? b=`o->h'.get? b=`o)->R (.ok<|.ret res) {s with heap:=h',toks:=tk})->
  codeAny (Jx prog w) A (.builtin "dict.update.loop" ([.ref D,.ref I,Ke (i:Int),res],[])) R s:=by
 have W:=Walks.list (prog:=prog) (w:=w) (A:=A.in1) hh I ax hI (ps.map λp=>Jk.ref p.t).toArray;have hn:(ps.map λp=>Jk.ref p.t).toArray.size=⇑ps:=⇑_;intro k
 induction k with
 |zero=>
  intro i s kvs hk' hi hit hl hd htp hz hR;have hin:i=⇑ps:=∅;subst hin;refine codeAny_builtin F.entry_dul ?_;rw[Ju.under_plainId F.plain_dul _];show Jw _ A.in1 (Kc (.ref I)>>=_) _ _ s
  refine Jy (W.done s _ _ (by rw[hn];exact hit,hl) λh' tk hm=>?_);show Jw _ _ (Jl.Dict.addKeywords D []>>=_) _ _ _;refine Jy (JC<|JC<|hR h' tk ?_ λb o hb J e=>hm b o (by simpa using hb) e);rw[Ik];exact hd.extBut (λb o hb e=>hm b o (by simpa using hb) e) hD
 |succ k ih=>
  intro i s kvs hk' hi hit hl hd htp hz hR;have hlt:i<⇑ps:=∅;refine codeAny_builtin F.entry_dul ?_;rw[Ju.under_plainId F.plain_dul _];show Jw _ A.in1 (Kc (.ref I)>>=_) _ _ s
  refine Jy (W.item i s _ _ (by rw[hn];exact hlt) (hit,hl) λv h' tk hP hst hm=>?_);obtain⟨p,hp⟩:∃p,ps[i]?=`p:=(_,FS hlt)
  have hv:v=.ref p.t:=by
   have:(ps.map λp=>Jk.ref p.t)[i]?=`v:=by simpa using hP
   rw[FB,hp]at this;exact (Option.some.inj this).symm
  subst hv;have pm:p∈ps:=FK hp;let(o,n,ho,hc,hdt):=htp p pm;have ho':h'.get? p.t=`o:=hm p.t o (by simpa using (ht p pm).1) ho;have hT:((h',s.gens,s.drawn,tk,s.os):Js).TypeIs (.ref p.t) "tuple":=(_,ho',hc)
  dsimp only;refine Jy<|JH<|Jy<|wpAny_tryCatch ?_;unfold Jl.Dict.pairItems;refine Jy<|wpAny_typeOf hT ?_;rw[np ↥_];refine Jy<|JK ho' hdt<|JC ?_;show Jw _ _ (J7 [p.key,p.val]<|dictSet D p.key p.val) _ _ _;have hd1:h'.DictOf knd D kvs:=hd.extBut (λb o hb e=>hm b o (by simpa using hb) e) hD;refine JH<|wpAny_dictSet_pairs (s:=(h',s.gens,s.drawn,tk,s.os)) (hk p pm) hd1 (λh2 hd2 hs2=>?_) ∅;have kp2:∀b o,b≠D->h'.get? b=`o->h2.get? b=`o:=λb o hb e=>(hs2.2 b hb).trans e;have ei:((i:Int)+1)=((i+1:Nat):Int):=∅;rw[ei];refine JC (plainId_quiet F.plain_dul _,ih (i+1) _ (stored kvs p.k p.val) ∅ ∅ (hst.1.at λo e=>kp2 I o (Ne.symm hD) e) (hst.2.at λo e=>kp2 ax o (Ne.symm hx) e) hd2 (λq hq=>?_) ?_ λh3 tk3 hd3 hk3=>?_);let(o,n,e1,e2,e3):=htp q hq;exact(o,n,kp2 _ _ (ht q hq).2<|hm _ _ (by simpa using (ht q hq).1) e1,e2,e3)
  .have:⇑(stored kvs p.k p.val)<=⇑kvs+1:=by
    unfold stored;split;rw[Fv];omega;rw[FH];simp
   omega
  .refine hR h3 tk3 ?_ λb o hb hb2 e=>hk3 b o hb hb2<|kp2 b o hb2<|hm b o (by simpa using hb) e;have ed:ps.drop i=p::ps.drop (i+1):=by rw[He hlt];congr 1;have:=FS hlt;rw[hp]at this;exact (Option.some.inj this).symm
   rw[ed,GA];exact hd3
def tD:typeLookup (.type "list") "keys"=pure none:=am_miss_of_fast ⋯
def j8 {E:Jk->Js->Prop}{s:Js}{a:Jq}{ps:↑(K9 K)}{Q:Jk->Js->Prop}(hh:A.handled=none)(hl:PlainL s.heap a (ps.map λp=>Jk.ref p.t).toArray)(hk:∀p∈ps ,knd.is p.k p.key=true)
  (ht:∀p∈ps ,∃o n,s.heap.get? p.t=`o/\o.cls=.type "tuple"/\o.data=.seq #[p.key,p.val] n)(hz:⇑ps<=sizeLine)
  (h:∀h' tk ,h'.DictOf knd ↥s (ps.foldl (λacc p=>stored acc p.k p.val) [])->(∀b o ,s.heap.get? b=`o->h'.get? b=`o)->Q (.ref ↥s) {s with heap:=h',toks:=tk}):
  Jw (Jx prog w) A (call (.type "dict") [.ref a]) Q E s:=by
 refine callType_codes (Q₁:=λobj s₁=>obj=.ref ↥s/\s₁={s with heap:=s.heap.push {cls:=.type "dict",data:=.dict #[]}}) F.kt_called_dict (F.kt_typeCall_dict_1 _) F.entry_dict_init (kt_code_dict_new _ (rfl,rfl)) ?_
 rintro obj s₁ ⟨rfl,rfl⟩
 have hnew:(s.heap.push {cls:=.type "dict",data:=.dict #[]}).DictOf knd ↥s []:=Jp.DictOf.new s.heap;have kp1:∀b o,s.heap.get? b=`o->(s.heap.push {cls:=.type "dict",data:=.dict #[]}).get? b=`o:=λb o e=>Fx _ e;have hl1:=hl.keeps kp1;have hT:({s with heap:=s.heap.push {cls:=.type "dict",data:=.dict #[]}}:Js).TypeIs (.ref a) "list":=let (o,n,e,c,_,_):=hl1;(o,e,c);have al:a<↥s:=let (o,n,e,_):=hl;Fy e;refine(hnew.typeIs,F.args_dict_init_2 _ _,?_);unfold Jl.«dict.__init__»;refine Jy ?_;unfold Jl.Dict.selfAndRest;refine Jy<|wpAny_notOrdered_dict hnew.typeIs ?_;show Jw _ _ (pure (↥s ,[Jk.ref a])) _ _ _;refine JC ?_;show Jw _ _ (Jl.Dict.updateFrom "dict.__init__" ↥s (.ref a) [] .none) _ _ _;unfold Jl.Dict.updateFrom;refine Jy<|wpAny_typeOf hT ?_;rw[np ↥_];let(o,n,e1,e2,e3,e4):=hl1;refine Jy<|lY e1 e2 e4 e3 tD ⋯ hh (λh2 tk2 kp2=>?_) ⋯;rw[np<|show (none:Option Jk).isNone=true from rfl];refine Jy<|JD ?_;have hl2:PlainL h2 a (ps.map λp=>Jk.ref p.t).toArray:=PlainL.keeps (o,n,e1,e2,e3,e4) kp2;refine Jy<|wpAny_pyIter_list (s:=(h2,s.gens,s.drawn,tk2,s.os)) hl2.isList ?_;have d2:↥s<h2.objs.size:=by let(o',_,_,e',_):=hnew;exact Fy<|kp2 _ _ e'
 have kp3:∀b o,s.heap.get? b=`o->(h2.push {cls:=.type "list_iterator",data:=.fields #[.ref a,.int 0 0]}).get? b=`o:=λb o e=>Fx _<|kp2 b o<|kp1 b o e;have hnew3:(h2.push {cls:=.type "list_iterator",data:=.fields #[.ref a,.int 0 0]}).DictOf knd ↥s []:=by let(o',es,ep,e',r):=hnew;exact(o',es,ep,Fx _<|kp2 _ _ e',r)
 have tl:∀p∈ps,p.t<↥s:=λp hp=>by let(o,n,e,_):=ht p hp;exact Fy e
 refine JC (plainId_quiet F.plain_dul _,xk (A:=A.in1) (knd:=knd) hh h2.objs.size a ↥s (FJ<|HH al d2) (FJ d2) (Ne.symm<|FJ al) ps .none hk (λp hp=>(FJ<|HH (tl p hp) d2,FJ<|tl p hp)) ⇑ps 0 _ [] rfl (FU _) (_,FM _ rfl,rfl,rfl) (PlainL.keeps hl2 λb o e=>Fx _ e).isList hnew3 (λp hp=>?_) (by show 0+(⇑ps-0)<=sizeLine;omega) λh4 tk4 hd4 hk4=>?_);let(o,n,e,r):=ht p hp;exact(o,n,kp3 _ _ e,r)
 .refine(rfl,h h4 tk4 hd4 λb o e=>hk4 b o ?_ ?_<|kp3 b o e);exact FJ<|HH (Fy e) d2;exact FJ<|Fy e
end
end PySem
namespace L2
open PySem PySem.Spec PyProof.Rows
inductive La (K:Zf)(H:Hp):↑V->↑(Key×V)->Prop|nil:La K H [] []|cons {t:Jq}{k:Key}{v:V}{vs:↑V}{ps:↑(Key×V)} (e:SqT K H t [kV k,v]) (r:La K H vs ps):La K H (.ref t::vs) ((k ,v)::ps)
theorem jv:∀ (ps kvs:↑(Key×V)),⇑(dS kvs ps)<=⇑kvs+⇑ps|[],kvs=>by simp [dS]|p::ps,kvs=>by have h1:=jv ps<|Om kvs p.1 p.2;have h2:=di kvs p.1 p.2;show ⇑(dS (Om kvs p.1 p.2) ps)<=_;rw[FA];omega
section
variable {X:Cx}
theorem vf (I:Inv X P4 σ H s):∀ {vs:↑V}{kvs:↑(Key×V)}{its:↑Jk},La X.K H vs kvs->Vals vs its->
  ∃ps:↑(K9 Key),its=ps.map (λp=>Jk.ref p.t)/\(∀p∈ps ,(aS X.prog X.w).is p.k p.key=true)/\(∀p∈ps ,∃o n,s.heap.get? p.t=`o/\o.cls=.type "tuple"/\o.data=.seq #[p.key,p.val] n)/\
   ⇑ps=⇑kvs/\∀ (acc:↑(Key×V)) (ac:↑(Key×Jk)),KV acc ac->KV (dS acc kvs) (ps.foldl (λacc p=>stored acc p.k p.val) ac)
 |_,_,_,.nil,.nil=>([],rfl,λp hp=>absurd hp FV,λp hp=>absurd hp FV,rfl,λJ J h=>h)
 |_,_,_,.cons (t:=t) (k:=k) (v:=v) e r,.cons ru rr=>by
  cases ru;let(ps,e1,h1,h2,h3,h4):=vf I r rr;let(is,rv,tp,_):=I.tuple e;let(u,w',rfl,rk,rw'):=PN rv;let(o,ho,hc,n,hd):=tp;refine((t,k,u,w')::ps,by rw[Fz,e1],λp hp=>?_,λp hp=>?_,by rw[FA,FA,h3],λacc ac q=>?_)
  .rcases FC.mp hp with rfl|hp
   exact jE rk;exact h1 p hp
  .rcases FC.mp hp with rfl|hp
   exact(o,n,ho,hc,hd);exact h2 p hp
  rw[GA];exact h4 _ _<|q.put k rw'
def my (hc:X.calm=true):CallR X (.type "dict") (λxs H Q=>∃ (a:Jq) (vs:↑V) (kvs:↑(Key×V)) ,xs=[.ref a]/\SqL X.K H a vs/\La X.K H vs kvs/\∀p,H p=none->Q (.ref p) (upd H p<|.dK<|dS [] kvs)):=by
 intro P4 s σ H xs us Q I r h;let(a,vs,kvs,rfl,sq,pr',q):=h;let(u,rfl,ru):=PM r;cases ru;let(its,rv,pl,hz):=I.list sq;let(ps,rfl,h1,h2,h3,h4):=vf I pr' rv;have hl:⇑vs=⇑kvs:=by rw[⇑rv,Fv,h3]
 have ml:=jv kvs [];rw[GM]at ml;refine j8 (knd:=aS X.prog X.w) (I.ok.hd hc) pl h1 h2 ∅ λh' tk hd kp=>?_;exact(.ref ↥s,_,I.laid (a:=↥s) (o:=.dK<|dS [] kvs) (t':=tk) kp (Fw _)<|xp ∅ (beq_eq_false_iff_ne.mpr<|Ne.symm<|FJ I.big) (h4 [] [] .nil) hd,rfl,q _<|I.hok.fresh<|Fw _)
end
section
noncomputable def prW:W->Option (Key×W)
 |.tup [k,v]=>(MO k).map λq=>(q ,v)
 |_=>none
noncomputable def dD (ks:↑Key)(ws:↑W):↑(Key×W)->↑Key×↑W
 |[]=>(ks ,ws)
 |p::ps=>dD (Oo ks ws p.1 p.2).1 (Oo ks ws p.1 p.2).2 ps
section
variable {K:Zf}{o:Wo}
set_option tactic.hygienic true in
theorem ve:∀ {l:↑W}{us:↑V}{ps:↑(Key×W)},NU prW l=`ps->Rvs K o l us->∃kvs:↑(Key×V),La K o.H us kvs/\∀ (acc:↑(Key×V)) (ks:↑Key) (ws:↑W),acc.map (·.1)=ks->Rvs K o ws (acc.map (·.2))->(dS acc kvs).map (·.1)=(dD ks ws ps).1/\Rvs K o (dD ks ws ps).2 ((dS acc kvs).map (·.2))
 |[],_,ps,e,r=>by cases e;unfold Rvs at r;subst r;exact([],.nil,λacc ks ws h1 h2=>(h1,h2))
 |x::l,_,ps,e,r=>by
  unfold Rvs at r;let(v,t,rfl,r1,r2):=r;unfold NU at e;cases ex:prW x with
  |none=>simp only[ex]at e;cases e
  |some p=>
   cases el:NU prW l with
   |none=>simp only[ex,el]at e;cases e
   |some qs=>
    simp only[ex,el]at e;cases e;let(kvs,h1,h2):=ve el r2;unfold prW at ex;split at ex
    .rename_i kx vx;cases ek:MO kx with
     |none=>rw[ek]at ex;cases ex
     |some q=>
      rw[ek]at ex;cases ex;unfold Rv at r1;let(a,vs,rfl,sq,rr):=r1;let(u,y,rfl,ru,ry):=rr.two;have:=da ek ru;subst this;refine((q ,y)::kvs,.cons sq h1,λacc ks ws g1 g2=>?_);let(b1,b2):=fj (x:=q) ry g1 g2;exact h2 _ _ _ b1 b2
    cases ex
end
noncomputable def LP (ws:↑W):M W:=match ws with
 |[x]=>bd (Na x) λl=>match NU prW l with|some ps=>λh=>.ok (.loc ⇑h) (h++[.dic (dD [] [] ps).1 (dD [] [] ps).2])|none=>no
 |_=>no
section
variable {X:Cx}{E:XK}{a:Expr}{p pos:JY}{l:KU->M ↑W}
def wu (hc:X.calm=true)(hm:X.mg "dict"=none)(ha:JA X E [a] l)(hg:Gl X "dict")(he:J1 [a] X.env=(false ,JX a X.env)::J1 [] X.env)(hpl:(JZ pos<|J1 [] X.env).any (·.1)=false):JE X E (.Call (.Name "dict" p) [a] [] pos) (Ng LP l):=
 (gP (my hc) hg hm PyProof.Rows.boot_dict ha.h (he:=he) (hpl:=hpl)).imp λσ H Q h=>by
  let(o,ρ,rfl,R,S,h):=h;refine(o,ρ,rfl,R,S,Ps.bd h λp x vx e1 R1 r1 h1=>?_);unfold LP at h1;split at h1
  .let(v,rfl,r):=r1.one;let(m,a',us,rfl,s,rr,h1):=bT R1 r h1;cases el:NU prW m with
   |none=>simp only[el]at h1;exact h1.elim
   |some ps=>
    simp only[el]at h1;let(kvs,k1,k2):=ve el rr;let(b1,b2):=k2 [] [] [] rfl Rvs.nil;refine(a',us,kvs,rfl,s,k1,λq hq=>?_);exact Ps.at (p:=p.add q (.dic (dD [] [] ps).1 (dD [] [] ps).2)<|.dK<|dS [] kvs) h1 rfl (Ex.add hq) (R1.addD hq b1 b2) Rv.addLoc
  exact h1.elim
end
end
section
section
variable {X:Cx}{E:XK}{e:Expr}{f:KU->M W}{pos:JY}
noncomputable def OI (i:Nat)(f:KU->M W):KU->M Fl:=λρ=>bd (Ny i ρ) λx=>bd (f ρ) λy=>bd (Ln x y) λz=>pr<|.nx<|ρ.set i<|some z
def qE:PIp X .Add rAdd:=λP4 s σ H x y u v Q I rx ry q=>wQ P4 s σ H x y u v Q I rx ry q
set_option tactic.hygienic true in
def BS {i:Nat}{x:Str}(hN:X.N.Nodup)(hi:X.N[i]?=`x)(hx:Loc X.env.scope x)(he:JE X E e f)(hf:X.fn x=true\/X.env.scope.names.lookup x=some .local ):
  JS X E (.AugAssign (.Name x pos') .Add e pos) (OI i f):=⟨λP4 s σ H D I h=>by
 let(o,ρ,rfl,R,S,h):=h;unfold OI Ny at h;split at h
 .rename_i w hw;let(v,hv,rv):=S.get hw;rw[au]at h;refine A6 hN hi hx he.h qE hf P4 s σ o.H D I (v,hv,o,ρ,rfl,R,S,Ps.bd h λp y vy e1 R1 r1 h1=>?_);unfold Ln at h1;split at h1;rename_i a b;rw[au]at h1;exact(a,b,OE.mp<|rv.mono R e1,OE.mp r1,Ps.pr (b:=FlV.nx<|σ.set i<|some<|.int<|a+b) h1 R1 (_,rfl,(S.mono R e1).set (OE.mpr rfl) i));exact h1.elim
 .exact h.elim⟩
end
end
end L2
namespace L2
open PySem
section
variable {β:Type}{h:↑Ob}{Q:β->↑Ob->Prop}{j d:Nat}
def lG {c:Str}{ns:↑Str}(e:h[d]?=some (.ins c ns ws)):Mv c (.loc d) h=.ok (d ,ns,ws) h:=by unfold Mv;simp only[e,if_true]
def aZ {c f:Str}{ns:↑Str}{w:W}{k:W->M β}(e:h[d]?=some (.ins c ns ws))(e2:M0 ns ws f=`w)(q:Ok (k w) h Q):Ok (bd (Md c f<|.loc d) k) h Q:=by refine aq (a:=w) (h':=h) ?_ q;unfold Md;rw[bW<|lG e];simp only[e2];rfl
def jq {c f:Str}{ns ns':↑Str}{k:Unit->M β}(e:h[d]?=some (.ins c ns ws))(z:⇑ns<1000)(e2:putN ns ws f y=(ns' ,ws'))(q:Ok (k ()) (h.set d<|.ins c ns' ws') Q):Ok (bd (Ol c f (.loc d) y) k) h Q:=by refine aq (a:=()) (h':=h.set d<|.ins c ns' ws') ?_ q;unfold Ol;rw[bW<|lG e];simp only[np z,e2]
def dR {c m:Str}{ns:↑Str}{k:W->M β}(e:h[d]?=some (.ins c ns ws))(z:m ∉ns)(q:Ok (k<|.loc d) h Q):Ok (bd (isI c m<|.loc d) k) h Q:=by refine aq (a:=.loc d) (h':=h) ?_ q;unfold isI;rw[bW<|lG e];simp only[gV z];rfl
def BF {z:Str}{k:W->M β}(e:h[j]?=some (.dic ks ws))(e2:atK ks ws (.inr z)=`v)(q:Ok (k v) h Q):Ok (bd (ixW (.loc j)<|.str z) k) h Q:=by
 refine aq (a:=v) (h':=h) ?_ q;have d:LS (.loc j) h=some (ks ,ws):=by unfold LS;simp only[e]
 have:ixO (.loc j) (.str z) h=`v:=by unfold ixO;simp only[d,MO,e2]
 unfold ixW;rw[this]
def vQ {z:Str}{k:Unit->M β}(e:h[j]?=some (.dic ks ws))(hz:⇑ks<sizeLine)(e2:Oo ks ws (.inr z) v=(ks' ,ws'))(q:Ok (k ()) (h.set j<|.dic ks' ws') Q):Ok (bd (ck (.loc j) (.str z) v) k) h Q:=by refine aq (a:=()) (h':=h.set j<|.dic ks' ws') ?_ q;unfold ck;simp only[e,MO,np hz,e2]
def yN {c:Str}{n:Nat}{fn:↑W->M W}{P:↑Ob->Prop}{k:W->M β}(hn:⇑ws+1=n)(p:Ok (fn (.loc ⇑h::ws)) (h++[.ins c [] []]) λw h'=>w=.non/\P h')(q:∀h' ,P h'->Ok (k<|.loc ⇑h) h' Q):
  Ok (bd (λh=>match arW n fn (.loc ⇑h::ws) (h++[.ins c [] []]) with
 |.ok .non h'=>.ok (.loc ⇑h) h'
 |_=>.bad) k) h Q:=by
 let(w,h',e,rfl,hp):=p;refine aq (a:=.loc ⇑h) (h':=h') ?_<|q h' hp;have:arW n fn (.loc ⇑h::ws)=fn (.loc ⇑h::ws):=xH hn;simp only[this,e]
def D5 {k:W->M β}(L:Lw h x l)(e:NU prW l=`ps)(e2:dD [] [] ps=(ks ,ws))(q:Ok (k<|.loc ⇑h) (h++[.dic ks ws]) Q):Ok (bd (LP [x]) k) h Q:=by refine aq (a:=.loc ⇑h) (h':=h++[.dic ks ws]) ?_ q;unfold LP;dsimp only;rw[bW L.of];simp only[e,e2]
def lI {k:W->M β}(q:Ok (k<|.loc ⇑h) (h++[.dic [] []]) Q):Ok (bd (Nj ρ) k) h Q:=aq (a:=.loc ⇑h) (h':=h++[.dic [] []]) rfl q
def vU {k:↑W->M β}(L:Lw h x l)(q:Ok (k l) h Q):Ok (bd (Na x) k) h Q:=aq L.of q
end
def Dj {t:KU->M Bool}{g:KU->M Fl}{n:Nat}{Q:Fl->↑Ob->Prop}(c:Ok (t ρ) h λb h'=>b=true/\h'=h)(b:Ok (g ρ) h λx h'=>(∃r ,x=.nx r/\Ok (bh t g n r) h' Q)\/ ∃w ,x=.rt w/\Q (.rt w) h'):Ok (bh t g (n+1) ρ) h Q:=by
 let(b0,h0,e0,rfl,rfl):=c;let(x,h1,e1,q):=b;rcases q with⟨r,rfl,y,h2,e2,q⟩|⟨w,rfl,q⟩
 refine(y,h2,?_,q);unfold bh;rw[bW e0,np rfl,bW e1];exact e2;refine(.rt w,h1,?_,q);unfold bh;rw[bW e0,np rfl,bW e1];rfl
def Dk {t:KU->M Bool}{g:KU->M Fl}{n:Nat}{Q:Fl->↑Ob->Prop}(c:Ok (t ρ) h λb h'=>b=false/\h'=h)(q:Q (.nx ρ) h):Ok (bh t g (n+1) ρ) h Q:=by let(b0,h0,e0,rfl,rfl):=c;refine(.nx ρ,_,?_,q);unfold bh;rw[bW e0,gV FP];rfl
noncomputable def ctS (g:KU->M Fl):Fl->M Fl:=λx=>match x with|.nx r=>g r|x=>pr x
noncomputable def ctI (f g:KU->M Fl)(ρ:KU):Bool->M Fl:=λb=>if b=true then f ρ else g ρ
def aA (f g:KU->M Fl)(ρ:KU):OY f g ρ=bd (f ρ) (ctS g):=by unfold OY;rfl
def aM (g:KU->M Fl)(r:KU):ctS g (.nx r)=g r:=by unfold ctS;rfl
def aL (g:KU->M Fl)(w:W):ctS g (.rt w)=pr (.rt w):=by unfold ctS;rfl
def aH (t:KU->M Bool)(f g:KU->M Fl)(ρ:KU):sIf t f g ρ=bd (t ρ) (ctI f g ρ):=by unfold sIf;rfl
def bf (f g:KU->M Fl)(ρ:KU):ctI f g ρ true=f ρ:=by unfold ctI;rw[np rfl]
def bg (f g:KU->M Fl)(ρ:KU):ctI f g ρ false=g ρ:=by unfold ctI;rw[gV FP]
end L2
namespace L2
open PySem PySem.Spec PyProof.Rows
section
variable {X:Cx}{E:XK}{o e:Expr}{apos cpos:JY}{fo fe:KU->M W}
noncomputable def MA (x:W):M W:=λh=>match LS x h with|some _=>.ok x h|none=>.bad
noncomputable def Mm (x y d:W):M W:=λh=>match LS x h with
 |some (ks ,ws)=>match MO y with|some k=>.ok ((atK ks ws k).getD d) h|none=>.bad
 |none=>.bad
noncomputable def Nk (fo fe:KU->M W):KU->M W:=λρ=>bd (fo ρ) λx=>bd (MA x) λx=>bd (fe ρ) λy=>Mm x y .non
def zG {Q:V->Hp->Prop}(R:Rel X.K p)(rx:Rv X.K p x vx)(ry:Rv X.K p y vy)(rd:Rv X.K p d vd)(h:Ps (cg X E) (Rv X.K) p (Mm x y d p.h) Q):
  ∃a,vx=.ref a/\∃ov,KQ p.H a vy ov/\Q (ov.getD vd) p.H:=by
 unfold Mm at h;cases e1:LS x p.h with
 |none=>rw[e1]at h;exact h.elim
 |some kw=>
  let(ks,ws):=kw;rw[e1]at h;cases e2:MO y with
  |none=>simp only[e2]at h;exact h.elim
  |some k=>
   simp only[e2]at h;let(a,kvs,rfl,h1,h2,h3):=gz R e1 rx;have hv:=dA (x:=k) h2 h3;refine(a,rfl,PL kvs k,.inl (kvs,k,h1,da e2 ry,rfl),?_);cases e3:atK ks ws k with
   |none=>
    rw[e3]at hv h;rw[show PL kvs k=none from hv];exact Ps.pr (c:=cg X E) (r:=Rv X.K) (a:=d) h R rd
   |some w=>
    rw[e3]at hv h;let(v,hv,rv):=hv;rw[show PL kvs k=`v from hv];exact Ps.pr (c:=cg X E) (r:=Rv X.K) (a:=w) h R rv
def zE {k:W->M W}{Q:V->Hp->Prop}(R:Rel X.K p)(rx:Rv X.K p x vx)(h:Ps (cg X E) (Rv X.K) p (bd (MA x) k p.h) Q):
  (∃a ,vx=.ref a/\IsD p.H a)/\Ps (cg X E) (Rv X.K) p (k x p.h) Q:=by
 unfold bd MA at h;cases e1:LS x p.h with
 |none=>rw[e1]at h;exact h.elim
 |some kw=>
  let(ks,ws):=kw;rw[e1]at h;let(a,kvs,rfl,h1,h2,h3):=gz R e1 rx;exact((a,rfl,.inl (kvs,h1)),h)
def zj (hu:X.A.units+1<Jv)(ho:JE X E o fo)(he:JE X E e fe)(m:M1 X o "get" apos e cpos):JE X E (.Call (.Attribute o "get" apos) [e] [] cpos) (Nk fo fe):=
 (vD hu ho.h he.h m).imp λσ H Q h=>by let(w,ρ,rfl,R,S,h):=h;refine(w,ρ,rfl,R,S,Ps.bd h λp x vx e1 R1 r1 h1=>?_);let((a,rfl,d),h1):=zE R1 r1 h1;refine(a,rfl,d,p,ρ,rfl,R1,S.mono R e1,Ps.bd h1 λq y vy e2 R2 r2 h2=>?_);let(a',ea,ov,g,q2):=zG R2 (r1.mono R1 e2) r2 (OF.mpr rfl) h2;cases ea;exact(ov,g,q2)
end
abbrev Tgt:=W->KU->Option KU
noncomputable def O5:↑Tgt->↑W->KU->Option KU|[],[],ρ=>`ρ|t::r,w::l,ρ=>(t w ρ).bind (O5 r l)|_,_,_=>none
noncomputable def tgG (ts:↑Tgt):Tgt:=λw ρ=>match w with|.tup l=>O5 ts l ρ|_=>none
theorem mP:∀ {ts:↑Tgt}{l:↑W}{ρ ρ2:KU},O5 ts l ρ=`ρ2->⇑l=⇑ts|[],[],_,_,_=>rfl|[],_::_,_,_,e=>by cases e|_::_,[],_,_,e=>by cases e|t::ts,w::l,ρ,ρ2,e=>by let(a,_,e2):=IN.mp (show (t w ρ).bind (O5 ts l)=`ρ2 from e);rw[FA,FA,mP (ts:=ts) (l:=l) e2]
structure Li (K:Zf)(m:Nat)(g:TGs)(ts:↑Tgt):Prop where
 ok:∀ (o:Wo) (l:↑W) (vs:↑V) (ρ ρ2:KU) (σ:St),Rvs K o l vs->Re K o ρ σ->O5 ts l ρ=`ρ2->∃σ2,(∀Q:St->Hp->Prop ,Q σ2 o.H->g vs σ o.H Q)/\Re K o ρ2 σ2/\σ2.drop m=σ.drop m/\⇑σ2=⇑σ
def qa {K:Zf}{m:Nat}:Li K m Mi []:=⟨λo l vs ρ ρ2 σ rv re e=>by
 cases l with
 |nil=>unfold Rvs at rv;cases e;exact(σ,λQ q=>(rv,q),re,rfl,rfl)
 |cons _ _=>cases e⟩
def fX {K:Zf}{m:Nat}{gs:TGs}(h:Lg K m g t)(hs:Li K m gs ts):Li K m (Me g gs) (t::ts):=⟨λo l vs ρ ρ2 σ rv re e=>by
 cases l with
 |nil=>cases e
 |cons w l=>
  let(ρ1,e1,e2):=IN.mp (show (t w ρ).bind (O5 ts l)=`ρ2 from e);unfold Rvs at rv;let(v,r,rfl,h1,h2):=rv;let(σ1,a1,b1,c1,d1):=h.ok o w v ρ ρ1 σ h1 re e1;let(σ2,a2,b2,c2,d2):=hs.ok o l r ρ1 ρ2 σ1 h2 b1 e2
  exact(σ2,λQ q=>(v,r,rfl,a1 _<|a2 Q q),b2,c2.trans c1,d2.trans d1)⟩
def qd {K:Zf}{m n:Nat}{gs:TGs}(hs:Li K m gs ts)(hn:⇑ts=n):Lg K m (Mj K n gs) (tgG ts):=⟨λo w v ρ ρ2 σ rv re e=>by
 cases w with
 |tup l=>
  unfold Rv at rv;let(a,vs,rfl,s,r):=rv;have e:O5 ts l ρ=`ρ2:=e;let(σ2,a1,a2,a3,a4):=hs.ok o l vs ρ ρ2 σ r re e;exact(σ2,λQ q=>(a,vs,rfl,s,by rw[r.len,mP e,hn],a1 Q q),a2,a3,a4)
 |_=>cases e⟩
section
variable {X:Cx}{E:XK}{o e f:Expr}{es:↑Expr}{pos apos cpos:JY}{l:KU->M ↑W}{fo fe ff:KU->M W}
noncomputable def ktW (ws:↑W):M W:=match NU MO ws with|some ks=>gd (⇑ws<=sizeLine) (pr<|.kt ks)|none=>no
noncomputable def mKt (l:KU->M ↑W):KU->M W:=λρ=>bd (l ρ) ktW
set_option tactic.hygienic true in
theorem lQ {K:Zf}{o:Wo}:∀ {ws:↑W}{vs:↑V}{ks:↑Key},NU MO ws=`ks->Rvs K o ws vs->vs=ks.map kV
 |[],vs,ks,e,r=>by unfold Rvs at r;cases e;exact r
 |w::ws,vs,ks,e,r=>by
  unfold Rvs at r;let(v,r',rfl,h1,h2):=r;unfold NU at e;split at e;rename_i b c e1 e2;cases e;rw[da e1 h1,lQ e2 h2];rfl;cases e
def Eg {x1}(h:JA X E es l):JE X E (.Tuple es x1 pos) (mKt l):=(vt h.h).imp λσ H Q h=>by
 ac_nf;unfold ktW at h1;cases ek:NU MO x with
 |none=>rw[ek]at h1;exact h1.elim
 |some ks=>
  rw[ek]at h1;let(hz,h1):=h1.gd;refine(by rw[r1.len];exact hz,λq hq=>Ps.at (p:=(p.mu,p.h,upd p.H q<|.tup vx)) h1 rfl (Ex.new hq) (R1.new hq) ?_);unfold Rv;exact(q,rfl,by rw[<-lQ ek r1];exact aB)
noncomputable def lO:KU->M W:=λJ h=>.ok (.loc ⇑h)<|h++[.dit [] []]
def wk:JE X E (.Dict [] [] pos) lO:=NZ.imp λσ H Q h=>by let(o,ρ,rfl,R,S,h):=h;intro q hq;exact Ps.at (p:=o.add q (.dit [] [])<|.dT []) h rfl (Ex.add hq) (R.addT hq rfl Rvs.nil) Rv.addLoc
noncomputable def LV (w:W)(h:↑Ob):Option (↑↑Key×↑W):=match w with
 |.loc k=>match h[k]? with|some (.dit ks ws)=>some (ks ,ws)|_=>none
 |_=>none
set_option tactic.hygienic true in
def gv {o:Wo}{w:W}{v:V}{ks:↑↑Key}{ws:↑W}(R:Rel X.K o)(e:LV w o.h=some (ks ,ws))(h:Rv X.K o w v):∃a kvs,v=.ref a/\Rd o.H a (.dT kvs)/\kvs.map (·.1)=ks/\Rvs X.K o ws (kvs.map (·.2)):=by
 cases w with
 |loc k=>
  unfold LV at e;dsimp only at e;split at e;rename_i a b hk;cases e;unfold Rv at h;let(kvs,h1,h2,h3):=R.ob k _ hk;exact(_,kvs,h.2,.inl h1,h2,h3);cases e
 |_=>cases e
noncomputable def MP:W->Option ↑Key|.kt ks=>`ks|.tup l=>NU MO l|_=>none
def qS {K:Zf}{o:Wo}{x:W}{v:V}{k:↑Key}(e:MP x=`k)(h:Rv K o x v):∃b,v=.ref b/\SqT K o.H b (k.map kV):=by
 cases x with
 |kt ks=>cases e;unfold Rv at h;let(a,e,h):=h;exact(a,e,.of h)
 |tup l=>
  unfold Rv at h;let(a,vs,e1,s,r):=h;exact(a,e1,by rw[<-lQ (show NU MO l=`k from e) r];exact s)
 |_=>cases e
def qQ (I:Inv X P4 σ H s)(h:SqT X.K H b (k.map kV)):(JN<|aS X.prog X.w).is s.heap k b:=by let(its,r,(o,h1,h2,n,h3),_):=I.tuple h;exact(o,its.toArray,n,h1,h2,h3,by simpa using gZ r)
def zK {Ex:Jk->Js->Prop}{Q:Jk->Js->Prop}(hu:A.units+1<Jv)(I:Inv X P4 σ H s)(e:Rd H a (.dT kvs))(eb:SqT X.K H b (k.map kV))(rd:RelV d r)(h:∀w' s' ,Inv X P4 σ H s'->RelV ((PL kvs k).getD d) w'->Q w' s'):
  Jw (Jx X.prog X.w) A (call (.builtin "dict.get") [.ref a,.ref b,r]) Q Ex s:=by
 let(z,hd,xs,rel,dd):=fH I.hok e;refine call_meetsIn PySem.F.slot_dict_get dd.typeIs PySem.F.entry_dict_get (PySem.F.args_dict_get_3 _ _ _) (meetsH_dict_get_default (JN<|aS X.prog X.w) a b hd r) (Kz hu,k,xs,qQ I eb,dd,h _ _ (I.tok _) ?_);exact (rel.val k).getD rd
noncomputable def AL (K:Zf)(td ty tx:TE):TE:=λσ H Q=>td σ H λx H1=>∃a,x=.ref a/\IsD H1 a/\ty σ H1 λy H2=>tx σ H2 λz H3=>∃kvs k b,Rd H3 a (.dT kvs)/\y=.ref b/\SqT K H3 b (k.map kV)/\Q ((PL kvs k).getD z) H3
def vC (hu:X.A.units+1<Jv)(ho:PE X o td)(he:PE X e ty)(hf:PE X f tx)(m:M2 X o "get" apos e f cpos):PE X (.Call (.Attribute o "get" apos) [e,f] [] cpos) (AL X.K td ty tx):=by
 intro P4 s σ H Q I h;refine wpAny_Call_method m.base m.few m.line PySem.F.plainAttrs_dict PySem.F.slot_dict_get PySem.F.type_dict_get (thn (ho P4 s σ H _ I h) λu s1 qz=>?_);let(x,H1,I1,rx,a,ex,d,q1):=qz;subst ex;obtain rfl:u=Jk.ref a:=rx;let(t1,t2,_):=pN I1 d;refine(t1,t2,?_);rw[m.trees]
 refine Calls.callWith_builtin rfl (Calls.evalArgs_plain (Calls.spliced_cons (thn (he P4 s1 σ H1 _ I1 q1) λiv s2 (y,H2,I2,ry,q2)=>
  Calls.spliced_cons (thn (hf P4 s2 σ H2 _ I2 q2) λfv s3 (z,H3,I3,rz,kvs,k,b,e3,ey,eb,q3)=>Calls.spliced_nil ?_))))
 subst ey;obtain rfl:iv=Jk.ref b:=ry;exact zK hu I3 e3 eb rz λw' s4 I4 rw'=>(_,H3,I4,rw',q3)
noncomputable def Mz (x:W):M W:=λh=>match LV x h with|some _=>.ok x h|none=>.bad
noncomputable def Mn (x y d:W):M W:=λh=>match LV x h with
 |some (ks ,ws)=>match MP y with|some k=>.ok ((atK ks ws k).getD d) h|none=>.bad
 |none=>.bad
noncomputable def Nl (fo fe ff:KU->M W):KU->M W:=λρ=>bd (fo ρ) λx=>bd (Mz x) λx=>bd (fe ρ) λy=>bd (ff ρ) λd=>Mn x y d
def zi (hu:X.A.units+1<Jv)(ho:JE X E o fo)(he:JE X E e fe)(hf:JE X E f ff)(m:M2 X o "get" apos e f cpos):JE X E (.Call (.Attribute o "get" apos) [e,f] [] cpos) (Nl fo fe ff):=
 (vC hu ho.h he.h hf.h m).imp λσ H Q h=>by
  let(w,ρ,rfl,R,S,h):=h;refine(w,ρ,rfl,R,S,Ps.bd h λp x vx e1 R1 r1 h1=>?_);unfold bd Mz at h1;cases ed:LV x p.h with
  |none=>rw[ed]at h1;exact h1.elim
  |some kw=>
   let(ks0,ws0):=kw;rw[ed]at h1;let(a,kvs0,rfl,d1,_,_):=gv R1 ed r1;refine(a,rfl,.inr (kvs0,d1),p,ρ,rfl,R1,S.mono R e1,Ps.bd (h:=h1) λq y vy e2 R2 r2 h2=>(q,ρ,rfl,R2,(S.mono R e1).mono R1 e2,Ps.bd h2 λs z vz e3 R3 r3 h3=>?_));have rx:=(r1.mono R1 e2).mono R2 e3;have ry:=r2.mono R2 e3;unfold Mn at h3;cases eh:LV x s.h with
   |none=>rw[eh]at h3;exact h3.elim
   |some kw=>
    let(ks,ws):=kw;rw[eh]at h3;cases ek:MP y with
    |none=>simp only[ek]at h3;exact h3.elim
    |some k=>
     simp only[ek]at h3;let(a',kvs,ea,g1,g2,g3):=gv R3 eh rx;cases ea;let(b,rfl,sb):=qS ek ry;refine(kvs,k,b,g1,rfl,sb,?_);have hv:=dA (x:=k) g2 g3;cases e4:atK ks ws k with
     |none=>
      rw[e4]at hv h3;rw[show PL kvs k=none from hv];exact Ps.pr (c:=cg X E) (r:=Rv X.K) (a:=z) h3 R3 r3
     |some w=>
      rw[e4]at hv h3;let(v,hv,rv):=hv;rw[show PL kvs k=`v from hv];exact Ps.pr (c:=cg X E) (r:=Rv X.K) (a:=w) h3 R3 rv
end
section
open Sem (wp)
open Builtin
abbrev KZ (h:Jp)(z TI TO:Jq)(f0:Jk)(f1:Bool):Prop:=
 h.get? z=some {cls:=.type "zip",dict:=none,data:=.fields #[f0,.bool f1,.bool false,.ref TI,.ref TO],slots:= #[]}
def F0 (f:Jk):Prop:=f=.none\/ ∃T:Nat,f=Ke T
structure YS (h:Jp)(z TI TO i1 i2 l1 l2:Jq)(T1 T2:String)(xs ys:Array Jk)(n:Nat):Prop where
 z:∃f0 f1,F0 f0/\KZ h z TI TO f0 f1
 ti:KE h TI (.ref i1) (.ref i2)
 to:∃a b,KE h TO a b
 u1:ItAt h T1 i1 l1 n
 u2:ItAt h T2 i2 l2 n
 s1:SeqAt h T1 l1 xs
 s2:SeqAt h T2 l2 ys
section
variable {prog:Jn}{w:Jo}{A:Ju}{E:Jk->Js->Prop}{s:Js}
def nV {z TI TO:Jq}{f1:Bool}{Q:Bool->Js->Prop}(hz:KZ s.heap z TI TO f0 f1)(hf:F0 f0)(kt:Q true s)(kf:∀h' ,KZ h' z TI TO f0 true->Ga z s.heap h'->Q false {s with heap:=h'}):Jw (Jx prog w) A (SmallTypes.ownedTupleIsFree<|.ref z) Q E s:=by
 unfold SmallTypes.ownedTupleIsFree;rcases hf with rfl|⟨T,rfl⟩
 exact Jy<|Ku hz rfl (x:=.none) rfl<|JC kt
 .refine Jy<|Ku hz rfl (x:=Ke T) rfl ?_;show Jw _ _ (loadIfAlive T>>=_) _ _ s;refine Jy<|wpAny_alive ?_;cases s.heap.get? T with
  |none=>exact JC kt
  |some o=>
   show Jw _ _ (field (.ref z) 1>>=_) _ _ s;refine Jy<|Ku hz rfl (x:=.bool f1) rfl ?_;cases f1 with|true=>exact JC (kf s.heap hz<|Ga.refl _ _)|false=>exact Jy (KF hz ⇑_ λh1 z1 e1=>JC<|kf h1 z1 e1)
where
 wpAny_alive {a:Jq}{M:Model}{Q:Option Jt->Js->Prop}{s:Js} (h:Q (s.heap.get? a) s):Jw M A (loadIfAlive a) Q E s:=λΓ p _=>by unfold loadIfAlive;rw[Sem.wp_loadIfAlive];simpa using h
def rQ {z TI TO i1 i2 l1 l2:Jq}{n:Nat}{Q:Jk->Js->Prop}(hh:A.handled=none)(D:ZA z TI TO i1 i2 l1 l2)(Z:YS s.heap z TI TO i1 i2 l1 l2 T1 T2 xs ys n)(hx:xs[n]?=`x)(hy:ys[n]?=`y)
  (k:∀h' tk ,YS h' z TI TO i1 i2 l1 l2 T1 T2 xs ys (n+1)->KE h' ↥s x y->h'.objs.size=↥s+1->(∀c o ,c≠z->c≠TO->c≠i1->c≠i2->s.heap.get? c=`o->h'.get? c=`o)->Q (.ref ↥s) {s with heap:=h',toks:=tk}):
  Jw (Jx prog w) A (Jl.«zip.__next__» ([.ref z],[])) (λfin s'=>∃v ,fin=.done (.ret v)/\Q v s') E s:=by
 let((f0,f1,hf,hz),hti,(a,b,hto),u1,u2,s1,s2):=Z;have nx:n<xs.size:=(Hd.mp hx).1;have ny:n<ys.size:=(Hd.mp hy).1;show Jw _ _ (field (.ref z) 2>>=_) _ _ s;refine Jy<|Ku hz rfl (x:=.bool false) rfl ?_;show Jw _ _ (field (.ref z) 3>>=_) _ _ s;refine Jy<|Ku hz rfl (x:=.ref TI) rfl<|Jy<|JK hti rfl ?_;show Jw _ _ (SmallTypes.ownedTupleIsFree (.ref z)>>=_) _ _ s;refine Jy (nV hz hf ?_ λh1 z1 e1=>?_)
 .simp only[if_true];refine Jy (JD<|Jy<|Ku hz rfl (x:=.ref TO) rfl<|Jy<|KF hz ⇑_ λh1 z1 e1=>?_)
  replace z1:KZ h1 z TI TO .ellipsis f1:=z1
  refine Jy ?_;simp only[Ht,HJ,Gf,Gr];refine Jy<|Jy<|KG ?_;show Jw _ _ (SmallTypes.nextOf (.ref i1)>>=_) _ _ _;refine Jy ((aK (prog:=prog) (w:=w) hh T1 i1 l1 D.b4 xs).item n _ _ _ nx (u1.keep λo q=>e1.extBut _ _ D.a3 q,s1.keep λo q=>e1.extBut _ _ D.b2 q) λx' h2 tk2 px st2 e2=>JC ?_);have:x'=x:=Option.some.inj<|px.symm.trans hx;subst this;have to2:KE h2 TO a b:=e2.extBut _ _ D.a8<|e1.extBut _ _ D.a2 hto;refine Jy (JK to2 rfl<|Jy<|KH to2 λh3 to3 e3=>?_)
  replace to3:KE h3 TO x' b:=to3
  refine Jy<|KI<|JC<|Jy<|Jy<|KG ?_;show Jw _ _ (SmallTypes.nextOf (.ref i2)>>=_) _ _ _;refine Jy ((aK (prog:=prog) (w:=w) hh T2 i2 l2 D.b9 ys).item n _ _ _ ny (u2.keep λo q=>e3.extBut _ _ (Ne.symm D.a9)<|e2.extBut _ _ (Ne.symm D.b1)<|e1.extBut _ _ D.a4 q,s2.keep λo q=>e3.extBut _ _ D.b7<|e2.extBut _ _ D.b8<|e1.extBut _ _ D.b6 q) λy' h4 tk4 py st4 e4=>JC ?_);have:y'=y:=Option.some.inj<|py.symm.trans hy;subst this;have to4:KE h4 TO x' b:=e4.extBut _ _ D.a9 to3;refine Jy (JK to4 rfl<|Jy<|KH to4 λh5 to5 e5=>?_)
  replace to5:KE h5 TO x' y':=to5
  refine Jy<|KI<|JC<|JC ?_;refine Jy<|JK to5 rfl<|Jy<|wpAny_newTuple ?_;have zs:h5.objs.size=↥s:=by rw[e5.1,e4.1,e3.1,e2.1,e1.1]
  have z5:KZ h5 z TI TO .ellipsis f1:=e5.extBut _ _ (Ne.symm D.a2)<|e4.extBut _ _ (Ne.symm D.a4)<|e3.extBut _ _ (Ne.symm D.a2)<|e2.extBut _ _ (Ne.symm D.a3) z1;have k5:∀c o,c≠z->c≠TO->c≠i1->c≠i2->s.heap.get? c=`o->h5.get? c=`o:=λc o c1 c2 c3 c4 e=>e5.extBut _ _ c2<|e4.extBut _ _ c4<|e3.extBut _ _ c2<|e2.extBut _ _ c3<|e1.extBut _ _ c1 e;have zl:z<h5.objs.size:=Fy z5;show Jw _ _ (SmallTypes.ownedTupleHandOut (.ref z) (.ref h5.objs.size)>>=_) _ _ _;refine Jy ?_;unfold SmallTypes.ownedTupleHandOut;have z6:KZ (h5.push {cls:=.type "tuple",data:=.seq #[x',y']}) z TI TO .ellipsis f1:=Fx _ z5;refine Jy (KF z6 ⇑_ λh7 z7 e7=>?_)
  replace z7:KZ h7 z TI TO (Ke h5.objs.size) f1:=z7
  refine KF z7 ⇑_ λh8 z8 e8=>?_
  replace z8:KZ h8 z TI TO (Ke h5.objs.size) false:=z8
  have up:∀c o,c≠z->h5.get? c=`o->h8.get? c=`o:=λc o c1 e=>e8.extBut _ _ c1<|e7.extBut _ _ c1<|Fx _ e;have pr8:KE h8 h5.objs.size x' y':=e8.extBut _ _ (GU zl)<|e7.extBut _ _ (GU zl)<|FM _ rfl;have sz8:h8.objs.size=h5.objs.size+1:=by rw[e8.1,e7.1,Gc]
  rw[zs]at z8 pr8 sz8;refine JC (_,rfl,?_);show Q (.ref h5.objs.size) _;rw[zs];refine k h8 _ ((_,_,.inr (_,rfl),z8),up _ _ D.a1<|k5 _ _ D.a1 D.a5 D.a6 D.a7 hti,(_,_,up _ _ D.a2 to5),?_,?_,s1.keep λo q=>up _ _ D.b2<|k5 _ _ D.b2 D.b3 D.b4 D.b5 q,s2.keep λo q=>up _ _ D.b6<|k5 _ _ D.b6 D.b7 D.b8 D.b9 q) pr8 sz8 λc o c1 c2 c3 c4 e=>up c o c1<|k5 c o c1 c2 c3 c4 e;exact st2.1.keep λo q=>up _ _ D.a3<|e5.extBut _ _ (Ne.symm D.a8)<|e4.extBut _ _ D.b1<|e3.extBut _ _ (Ne.symm D.a8) q;exact st4.1.keep λo q=>up _ _ D.a4<|e5.extBut _ _ (Ne.symm D.a9) q
 .simp only[Gu,if_false];refine Jy ?_;rw[<-Hl];simp only[Gf,Gr];refine Jy<|Jy<|JH ?_;show Jw _ _ (SmallTypes.nextOf (.ref i1)>>=_) _ _ _;refine Jy ((aK (prog:=prog) (w:=w) hh T1 i1 l1 D.b4 xs).item n _ _ _ nx (u1.keep λo q=>e1.extBut _ _ D.a3 q,s1.keep λo q=>e1.extBut _ _ D.b2 q) λx' h2 tk2 px st2 e2=>JC ?_);have:x'=x:=Option.some.inj<|px.symm.trans hx;subst this;refine JC<|Jy<|Jy<|JH ?_;show Jw _ _ (SmallTypes.nextOf (.ref i2)>>=_) _ _ _;refine Jy ((aK (prog:=prog) (w:=w) hh T2 i2 l2 D.b9 ys).item n _ _ _ ny (u2.keep λo q=>e2.extBut _ _ (Ne.symm D.b1)<|e1.extBut _ _ D.a4 q,s2.keep λo q=>e2.extBut _ _ D.b8<|e1.extBut _ _ D.b6 q) λy' h4 tk4 py st4 e4=>JC ?_);have:y'=y:=Option.some.inj<|py.symm.trans hy;subst this;refine JC (JC<|Jy<|wpAny_newTuple ?_<|show (2:Nat)<=sizeLine by decide);have zs:h4.objs.size=↥s:=by rw[e4.1,e2.1,e1.1]
  have k4:∀c o,c≠z->c≠i1->c≠i2->s.heap.get? c=`o->h4.get? c=`o:=λc o c1 c3 c4 e=>e4.extBut _ _ c4<|e2.extBut _ _ c3<|e1.extBut _ _ c1 e;have z4:KZ h4 z TI TO f0 true:=e4.extBut _ _ (Ne.symm D.a4)<|e2.extBut _ _ (Ne.symm D.a3) z1;have up:∀c o,h4.get? c=`o->(h4.push {cls:=.type "tuple",data:=.seq #[x',y']}).get? c=`o:=λc o e=>Fx _ e;refine JC (_,rfl,?_);show Q (.ref h4.objs.size) _;have pr8:KE (h4.push {cls:=.type "tuple",data:=.seq #[x',y']}) h4.objs.size x' y':=FM _ rfl;have sz8:(h4.push {cls:=.type "tuple",data:=.seq #[x',y']}).objs.size=h4.objs.size+1:=Gc ..;rw[zs]at pr8 sz8 ⊢;refine k _ _ ((_,_,hf,up _ _ z4),up _ _<|k4 _ _ D.a1 D.a6 D.a7 hti,(_,_,up _ _<|k4 _ _ D.a2 D.a8 D.a9 hto),?_,?_,s1.keep λo q=>up _ _<|k4 _ _ D.b2 D.b4 D.b5 q,s2.keep λo q=>up _ _<|k4 _ _ D.b6 D.b8 D.b9 q) pr8 sz8 λc o c1 c2 c3 c4 e=>up c o<|k4 c o c1 c3 c4 e;exact st2.1.keep λo q=>up _ _<|e4.extBut _ _ D.b1 q;exact st4.1.keep λo q=>up _ _ q
def uk {z TI TO i1 i2 l1 l2:Jq}{n:Nat}{Q:Fin->Js->Prop}(hh:A.handled=none)(D:ZA z TI TO i1 i2 l1 l2)(Z:YS s.heap z TI TO i1 i2 l1 l2 T1 T2 xs ys n)(he:(n=xs.size/\n<=ys.size)\/(n<xs.size/\n=ys.size))
  (k:∀h' tk e ,(∀c o ,c≠z->c≠TO->c≠i1->c≠i2->s.heap.get? c=`o->h'.get? c=`o)->(∃o ,h'.get? e=`o/\o.cls=.type "StopIteration")->E (.ref e) {s with heap:=h',toks:=tk}):
  Jw (Jx prog w) A (Jl.«zip.__next__» ([.ref z],[])) Q E s:=by
 let((f0,f1,hf,hz),hti,(a,b,hto),u1,u2,s1,s2):=Z;show Jw _ _ (field (.ref z) 2>>=_) _ _ s;refine Jy<|Ku hz rfl (x:=.bool false) rfl ?_;show Jw _ _ (field (.ref z) 3>>=_) _ _ s;refine Jy<|Ku hz rfl (x:=.ref TI) rfl<|Jy<|JK hti rfl ?_;show Jw _ _ (SmallTypes.ownedTupleIsFree (.ref z)>>=_) _ _ s;refine Jy (nV hz hf ?_ λh1 z1 e1=>?_)
 .simp only[if_true];refine Jy (JD<|Jy<|Ku hz rfl (x:=.ref TO) rfl<|Jy<|KF hz ⇑_ λh1 z1 e1=>?_)
  replace z1:KZ h1 z TI TO .ellipsis f1:=z1
  refine Jy ?_;simp only[Ht,HJ,Gf,Gr];refine Jy<|Jy<|KG ?_;show Jw _ _ (SmallTypes.nextOf (.ref i1)>>=_) _ _ _;have st1:ItAt h1 T1 i1 l1 n/\SeqAt h1 T1 l1 xs:=(u1.keep λo q=>e1.extBut _ _ D.a3 q,s1.keep λo q=>e1.extBut _ _ D.b2 q)
  rcases he with⟨rfl,_⟩|⟨nx,hy⟩
  .refine Jy ((aK (prog:=prog) (w:=w) hh T1 i1 l1 D.b4 xs).done _ _ _ st1 λh2 e e2 he=>?_);let(oe,g1,g2):=he;have z2:KZ h2 z TI TO .ellipsis f1:=e2 _ _ (Ne.symm D.a3) z1;have ez:e≠z:=λq=>by subst q;rw[z2]at g1;cases g1;simp at g2
   exact KF z2 ⇑_ λh3 J e3=>k h3 _ e (λc o c1 J c3 J q=>e3.extBut _ _ c1<|e2 _ _ c3<|e1.extBut _ _ c1 q) (oe,e3.extBut _ _ ez g1,g2)
  .refine Jy ((aK (prog:=prog) (w:=w) hh T1 i1 l1 D.b4 xs).item n _ _ _ nx st1 λx' h2 tk2 px st2 e2=>JC ?_);have to2:KE h2 TO a b:=e2.extBut _ _ D.a8<|e1.extBut _ _ D.a2 hto;refine Jy (JK to2 rfl<|Jy<|KH to2 λh3 to3 e3=>?_);refine Jy<|KI<|JC<|Jy<|Jy<|KG ?_;show Jw _ _ (SmallTypes.nextOf (.ref i2)>>=_) _ _ _;subst hy;refine Jy ((aK (prog:=prog) (w:=w) hh T2 i2 l2 D.b9 ys).done _ _ _ (u2.keep λo q=>e3.extBut _ _ (Ne.symm D.a9)<|e2.extBut _ _ (Ne.symm D.b1)<|e1.extBut _ _ D.a4 q,s2.keep λo q=>e3.extBut _ _ D.b7<|e2.extBut _ _ D.b8<|e1.extBut _ _ D.b6 q) λh4 e e4 he=>?_);let(oe,g1,g2):=he;have z4:KZ h4 z TI TO .ellipsis f1:=e4 _ _ (Ne.symm D.a4)<|e3.extBut _ _ (Ne.symm D.a2)<|e2.extBut _ _ (Ne.symm D.a3) z1;have ez:e≠z:=λq=>by subst q;rw[z4]at g1;cases g1;simp at g2
   exact KF z4 ⇑_ λh5 J e5=>k h5 _ e (λc o c1 c2 c3 c4 q=>e5.extBut _ _ c1<|e4 _ _ c4<|e3.extBut _ _ c2<|e2.extBut _ _ c3<|e1.extBut _ _ c1 q) (oe,e5.extBut _ _ ez g1,g2)
 .simp only[Gu,if_false];refine Jy ?_;rw[<-Hl];simp only[Gf,Gr];refine Jy<|Jy<|JH ?_;show Jw _ _ (SmallTypes.nextOf (.ref i1)>>=_) _ _ _;have st1:ItAt h1 T1 i1 l1 n/\SeqAt h1 T1 l1 xs:=(u1.keep λo q=>e1.extBut _ _ D.a3 q,s1.keep λo q=>e1.extBut _ _ D.b2 q)
  rcases he with⟨rfl,_⟩|⟨nx,hy⟩
  refine Jy ((aK (prog:=prog) (w:=w) hh T1 i1 l1 D.b4 xs).done _ _ _ st1 λh2 e e2 he=>?_);exact k h2 _ e (λc o c1 J c3 J q=>e2 _ _ c3<|e1.extBut _ _ c1 q) he;refine Jy ((aK (prog:=prog) (w:=w) hh T1 i1 l1 D.b4 xs).item n _ _ _ nx st1 λx' h2 tk2 px st2 e2=>JC ?_);refine JC<|Jy<|Jy<|JH ?_;show Jw _ _ (SmallTypes.nextOf (.ref i2)>>=_) _ _ _;subst hy;refine Jy ((aK (prog:=prog) (w:=w) hh T2 i2 l2 D.b9 ys).done _ _ _ (u2.keep λo q=>e2.extBut _ _ (Ne.symm D.b1)<|e1.extBut _ _ D.a4 q,s2.keep λo q=>e2.extBut _ _ D.b8<|e1.extBut _ _ D.b6 q) λh4 e e4 he=>?_);exact k h4 _ e (λc o c1 c2 c3 c4 q=>e4 _ _ c4<|e2.extBut _ _ c3<|e1.extBut _ _ c1 q) he
def sM {z TI TO i1 i2 l1 l2:Jq}{n:Nat}{Q:Option Jk->Js->Prop}(hh:A.in1.handled=none)(D:ZA z TI TO i1 i2 l1 l2)(Z:YS s.heap z TI TO i1 i2 l1 l2 T1 T2 xs ys n)(hx:xs[n]?=`x)(hy:ys[n]?=`y)
  (k:∀h' tk ,YS h' z TI TO i1 i2 l1 l2 T1 T2 xs ys (n+1)->KE h' ↥s x y->h'.objs.size=↥s+1->(∀c o ,c≠z->c≠TO->c≠i1->c≠i2->s.heap.get? c=`o->h'.get? c=`o)->Q (some<|.ref ↥s) {s with heap:=h',toks:=tk}):
  Jw (Jx prog w) A (Kc<|.ref z) Q E s:=by
 have hT:s.TypeIs (.ref z) "zip":=by let(f0,f1,_,hz):=Z.z;exact(_,hz,rfl)
 unfold Kc;exact Jy<|wpAny_attempt<|wpAny_callSpecial?_slot (name:=Str.ofString "__next__") hT F.slot_zip_next<|JB F.slot_zip_next hT F.entry_zip_next (rQ hh D Z hx hy λh' tk a1 a2 a3 a4=>JC<|k h' tk a1 a2 a3 a4)<|F.args_zip_next_1 _
def xh {z TI TO i1 i2 l1 l2:Jq}{n:Nat}{Q:Option Jk->Js->Prop}(hh:A.in1.handled=none)(D:ZA z TI TO i1 i2 l1 l2)(Z:YS s.heap z TI TO i1 i2 l1 l2 T1 T2 xs ys n)(he:(n=xs.size/\n<=ys.size)\/(n<xs.size/\n=ys.size))
  (k:∀h' tk ,(∀c o ,c≠z->c≠TO->c≠i1->c≠i2->s.heap.get? c=`o->h'.get? c=`o)->Q none {s with heap:=h',toks:=tk}):Jw (Jx prog w) A (Kc<|.ref z) Q E s:=by
 have hT:s.TypeIs (.ref z) "zip":=by let(f0,f1,_,hz):=Z.z;exact(_,hz,rfl)
 unfold Kc;refine Jy<|wpAny_attempt<|wpAny_callSpecial?_slot (name:=Str.ofString "__next__") hT F.slot_zip_next<|JB F.slot_zip_next hT F.entry_zip_next (uk hh D Z he λh' tk e hk (o,g1,g2)=>?_)<|F.args_zip_next_1 _;exact Jy<|JG (T:="StopIteration") (b:=true) (o,g1,g2) isSubtype_stop<|JC<|k _ _ hk
def tL {z TI TO:Jq}{f1:Bool}{Q:Jk->Js->Prop}(hz:KZ s.heap z TI TO f0 f1)(h:Q (.ref z) s):Jw (Jx prog w) A (pyIter<|.ref z) Q E s:=by
 have hT:s.TypeIs (.ref z) "zip":=(_,hz,rfl)
 refine wpAny_pyIter_slot hT F.slot_zip_iter<|JB F.slot_zip_iter hT F.entry_zip_iter ?_<|F.args_zip_iter_1 _;show Jw _ _ (ret<|.ref z) _ _ s;exact JC (_,rfl,"zip",_,hT,F.slot_zip_next.lookup,h)
end
structure YO (h:Jp)(z TI TO i1 i2 a b:Jq)(T1 T2:String)(n:Nat):Prop where
 z:∃f0 f1,F0 f0/\KZ h z TI TO f0 f1
 ti:KE h TI (.ref i1) (.ref i2)
 to:∃u v,KE h TO u v
 u1:ItAt h T1 i1 a n
 u2:ItAt h T2 i2 b n
theorem YO.keep {z TI TO i1 i2 a b:Jq}{n:Nat}(Z:YO h z TI TO i1 i2 a b T1 T2 n)(k:∀c∈[z,TI,TO,i1,i2] ,∀o,h.get? c=`o->h'.get? c=`o):YO h' z TI TO i1 i2 a b T1 T2 n:=
 (let (f0,f1,q1,q2):=Z.z;(f0,f1,q1,k z ⇑_ _ q2),k TI ⇑_ _ Z.ti,let (u,v,q):=Z.to;(u,v,k TO ⇑_ _ q),Z.u1.keep λo q=>k i1 ⇑_ o q,Z.u2.keep λo q=>k i2 ⇑_ o q)
def rR {P:Jn}{w:Jo}{K:Zf}{xn:Str}{tpos:JY}{a b z TI TO i1 i2:Jq}{j k:Bool}(D:ZA z TI TO i1 i2 a b):Lj P w K (.Name xn tpos) (Itz j k K a b) [z,TI,TO,i1,i2] z (λi h=>YO h z TI TO i1 i2 a b (tyK j) (tyK k) i) where
 mem:=⇑_
 obj:=λi h st c hc=>by
  simp only[FC,FV,or_false]at hc;rcases hc with rfl|rfl|rfl|rfl|rfl
  let(_,_,_,q):=st.z;exact(_,q,λv z=>by cases z);exact(_,st.ti,λv z=>by cases z);let(_,_,q):=st.to;exact(_,q,λv z=>by cases z);let(o,e,c,d):=st.u1;exact(o,e,λv z=>by rw[d]at z;cases z);let(o,e,c,d):=st.u2;exact(o,e,λv z=>by rw[d]at z;cases z)
 keep:=λi h h' st kk=>st.keep kk
 item:=by
  intro X hP hw hK hc i P4 s σ H E I hf st hg;subst hP hw hK;let(xs,ys,x,y,hq1,hq2,hx,hy):=hg;let(is1,rv1,q1):=I.seqK hq1;let(is2,rv2,q2):=I.seqK hq2;let(u,hu,ru):=rv1.get hx;let(v,hv,rv):=rv2.get hy;have fz:=hf z ⇑_;have fO:=hf TO ⇑_;have f1:=hf i1 ⇑_;have f2:=hf i2 ⇑_;refine sM (I.ok.hd hc) D (st.z,st.ti,st.to,st.u1,st.u2,q1,q2) (by simpa using hu) (by simpa using hv) λh' tk Z' hT hsz hk=>?_;have nT:H ↥s=none:=I.hok.fresh<|Fw _;have lt:∀c o,s.heap.get? c=`o->c≠↥s:=λc o q=>FJ<|Fy q;have ltH:∀c o,H c=`o->c≠↥s:=λc o q z=>by rw[z,nT]at q;cases q
  have neH:∀c o,H c=`o->c≠z/\c≠TO/\c≠i1/\c≠i2:=λc o q=>(λz=>by (rw[z,fz.1]at q;cases q),λz=>by (rw[z,fO.1]at q;cases q),λz=>by (rw[z,f1.1]at q;cases q),λz=>by (rw[z,f2.1]at q;cases q))
  have hk':∀c o,c ∉ [z,TO,i1,i2]->s.heap.get? c=`o->h'.get? c=`o:=λc o n q=>hk c o (λz=>n<|by simp [z]) (λz=>n<|by simp [z]) (λz=>n<|by simp [z]) (λz=>n<|by simp [z]) q;have I1:Inv X P4 σ (upd H ↥s (.tup [x,y])) {s with heap:=h',toks:=tk}:=by
   refine I.call' (s':={s with heap:=h',toks:=tk}) (ch:=[z,TO,i1,i2]) rfl (λb o q n hb hx=>?_,λb o q n hb hx=>?_,λb o q n hx=>?_,λb o q hx=>?_,λb xs q=>?_,λb o u q=>?_,λb ps q=>?_) (λb o q=>?_) I.bare λb hb=>?_;exact hk' b o hx q;exact(o.slots,hk' b o hx q);rw[af<|lt b o q];exact n;exact(o,hk' b o hx q);rw[af<|ltH b _ q];exact q;rw[af<|ltH b _ q];exact q;exact(#[],by rw[af<|ltH b _ q,q];simp)
   .by_cases hb:b=↥s;subst hb;rw[aB]at q;cases q;exact(by show 2<=sizeLine;decide,_,.cons ru<|.cons rv .nil,(_,hT,rfl,_,rfl),_,hT,rfl)
    .rw[af hb]at q;refine (I.hok b o q).stay (λc v hc r=>?_) (λc r=>by rw[af<|ltH c _ r];exact r) λc xs r=>by rw[af<|ltH c _ r];exact r
     have:∃o,H c=`o:=by
      rcases hc with rfl|hc
      exact(o,q);exact(_,hc)
     let(o',qo):=this;let(n1,n2,n3,n4):=neH c o' qo;exact hk c v n1 n2 n3 n4 r
   .have fb:KY X P4 H b:=by
     simp only[FC,FV,or_false]at hb;rcases hb with rfl|rfl|rfl|rfl
     exact fz;exact fO;exact f1;exact f2
    exact(fb.2.2.2.1,fb.2.1,fb.2.2.2.2.1,fb.2.2.2.2.2)
  have nn:∀c∈[z,TI,TO,i1,i2],c≠↥s:=λc hc=>by
   simp only[FC,FV,or_false]at hc;rcases hc with rfl|rfl|rfl|rfl|rfl
   let(_,_,_,q):=st.z;exact lt _ _ q;exact lt _ _ st.ti;let(_,_,q):=st.to;exact lt _ _ q;let(o,e,_):=st.u1;exact lt _ _ e;let(o,e,_):=st.u2;exact lt _ _ e
  refine(_,rfl,JC (.ref ↥s,upd H ↥s (.tup [x,y]),I1,rfl,(↥s,x,y,nT,rfl,λxs' ys' h1 h2=>by rw[I.seqK_inj h1 hq1,I.seqK_inj h2 hq2];exact(hx,hy),rfl),(Z'.z,Z'.ti,Z'.to,Z'.u1,Z'.u2),λc hc=>?_));rw[af<|nn c hc];exact (hf c hc).1
 done:=by
  intro X hP hw hK hc i P4 s σ H E I hf st hg;subst hP hw hK;let(xs,ys,hq1,hq2,hx):=hg;let(is1,rv1,q1):=I.seqK hq1;let(is2,rv2,q2):=I.seqK hq2;have l1:=⇑rv1;have l2:=⇑rv2;have fz:=hf z ⇑_;have fO:=hf TO ⇑_;have f1:=hf i1 ⇑_;have f2:=hf i2 ⇑_
  refine xh (I.ok.hd hc) D (st.z,st.ti,st.to,st.u1,st.u2,q1,q2) (by
   rw[FI,FI]
   omega) λh' tk hk=>(rfl,?_)
  refine I.call' (s':={s with heap:=h',toks:=tk}) (ch:=[z,TO,i1,i2]) rfl (λb o q n hb hx=>?_,λb o q n hb hx=>?_,λb o q n hx=>n,λb o q hx=>?_,λb xs q=>q,λb o u q=>q,λb ps q=>(#[],by rw[q];simp)) (λb o q=>?_) I.bare λb hb=>?_;exact hk b o (λz=>hx<|by simp [z]) (λz=>hx<|by simp [z]) (λz=>hx<|by simp [z]) (λz=>hx<|by simp [z]) q;exact(o.slots,hk b o (λz=>hx<|by simp [z]) (λz=>hx<|by simp [z]) (λz=>hx<|by simp [z]) (λz=>hx<|by simp [z]) q);exact(o,hk b o (λz=>hx<|by simp [z]) (λz=>hx<|by simp [z]) (λz=>hx<|by simp [z]) (λz=>hx<|by simp [z]) q)
  .refine (I.hok b o q).stay (λc v hc r=>?_) (λc r=>r) λc xs r=>r;have:∃o,H c=`o:=by
    rcases hc with rfl|hc
    exact(o,q);exact(_,hc)
   let(o',qo):=this;exact hk c v (λz=>by rw[z,fz.1]at qo;cases qo) (λz=>by rw[z,fO.1]at qo;cases qo) (λz=>by rw[z,f1.1]at qo;cases qo) (λz=>by rw[z,f2.1]at qo;cases qo) r
  .have fb:KY X P4 H b:=by
    simp only[FC,FV,or_false]at hb;rcases hb with rfl|rfl|rfl|rfl
    exact fz;exact fO;exact f1;exact f2
   exact(fb.2.2.2.1,fb.2.1,fb.2.2.2.2.1,fb.2.2.2.2.2)
 self:=λJ J J J J st h=>by let(_,_,_,q):=st.z;exact tL q h
section
variable {X:Cx}
def yu {j k:Bool}{xn:Str}(hg:Gl X "zip")(hm:X.mg "zip"=none)(ha:PA X [a,b] ta)(hs:J1 [a,b] X.env=[(false ,JX a X.env),(false ,JX b X.env)]:=by rfl)(hs2:J1 [b] X.env=[(false ,JX b X.env)]:=by rfl):PI X (.Name xn tpos) (.Call (.Name "zip" p) [a,b] [] pos) (iZip j k X.K ta):=by
 intro P4 s σ H R I h;refine Call_ (bu I hg hm boot_zip<|PyProof.Rows.callWith_type1 (thn (ha pos P4 s σ H _ I h) λus s1 qz=>?_) (by rw[hs,hs2])<|by rw[hs2];rfl);let(vs,H1,I1,r1,q1):=qz;let(a',b',e,(xs,hq1),(ys,hq2),q):=q1;subst e;let(u,v,rfl,ru,rv):=r1.two;cases ru;cases rv;let(is1,rv1,t1):=I1.seqK hq1;let(is2,rv2,t2):=I1.seqK hq2;have lt:∀ {T:String}{l:Jq}{u:Array Jk},SeqAt s1.heap T l u->l<↥s1:=λ{T l u} h=>by rcases h with⟨_,o,e,_⟩|⟨_,o,e,_⟩<;>exact Fy e
 refine kU t1 t2 λh' Z hsz hk=>wpAny_pyIter_zip Z.z ?_;have I2:Inv X P4 σ H1 {s1 with heap:=h'}:=I1.kept (t':=s1.toks) hk;refine(↥s1+4,[↥s1+4,↥s1+2,↥s1+3,↥s1,↥s1+1],_,_,H1,rfl,I2,rR (j:=j) (k:=k)<|ul (lt t1)<|lt t2,((_,_,.inl rfl,Z.z),Z.ti,Z.to,Z.u1,Z.u2),λc hc=>?_,q);have hc':↥s1<=c:=by
  simp only[FC,FV,or_false]at hc;rcases hc with rfl|rfl|rfl|rfl|rfl
  exact F7 _ _;exact F7 _ _;exact F7 _ _;exact Fw _;exact F7 _ _
 exact I1.fpOk hc'<|I1.hok.fresh hc'
end
end
section
section
variable {X:Cx}{E:XK}{p pos:JY}
def zb (j k:Bool){xn:Str}{fl:KU->M ↑W}(hm:X.mg "zip"=none)(ha:JA X E [a,b] fl)(hg:Gl X "zip")(hs:J1 [a,b] X.env=[(false ,JX a X.env),(false ,JX b X.env)])(hs2:J1 [b] X.env=[(false ,JX b X.env)]):
  JI X E (.Name xn tpos) (.Call (.Name "zip" p) [a,b] [] pos) (Nv fl<|Po j k):=(yu (j:=j) (k:=k) hg hm ha.h hs hs2).imp λσ H Q h=>by
 ac_nf;rcases x with _|⟨w,_|⟨w2,_|⟨_,_⟩⟩⟩
 exact h1.elim;exact h1.elim
 .have h1:Ps (cg X E) (λp s J=>Le X.K p J s) p (bd (Pk j w) (λs=>bd (Pk k w2) λt=>pr (P0 s.l t.l,λh=>s.G h/\t.G h)) p.h) Q:=h1;let(v,u,rfl,rv,ru):=r1.two;let(s,a,rfl,hq,sk,h1):=iq R1 rv h1;let(t,b,rfl,hq2,sk2,h1):=iq R1 ru h1;refine(a,b,rfl,hq,hq2,h1.pr R1 (λo X R g=>?_,λo i w X R g e=>?_));let(vs,k1,k2):=sk o X R g.1;let(us,k3,k4):=sk2 o X R g.2;exact(vs,us,k1,k3,by rw[k2.len,k4.len];show _=⇑(P0 s.l t.l);unfold P0;rw[Gq]);let(vs,k1,k2):=sk o X R g.1;let(us,k3,k4):=sk2 o X R g.2;let(x,y,ex,ey,rfl):=eK e;let(v1,hv1,rv1):=k2.get ex;let(v2,hv2,rv2):=k4.get ey;refine((vs,us,v1,v2,k1,k3,hv1,hv2),λq H' yl=>?_);let(T,z1,z2,hT,rfl,hz,rfl):=yl;let(g1,g2):=hz vs us k1 k3;have e1:z1=v1:=Option.some.inj<|g1.symm.trans hv1;have e2:z2=v2:=Option.some.inj<|g2.symm.trans hv2;subst e1 e2;refine((o.mu,o.h,upd o.H T<|.tup [z1,z2]),rfl,rfl,Ex.new hT,R.new hT,Rv.newT R hT<|Rvs.cons rv1<|Rvs.cons rv2 Rvs.nil)
 exact h1.elim
end
end
section
abbrev KN:↑(PKy×Jq×V)->↑(PKy×Jq×Jk)->Prop:=Paired λp q=>p.1=q.1/\p.2.1=q.2.1/\RelV p.2.2 q.2.2
noncomputable def kvN (xs:↑(PKy×Jq×V)):↑(PKy×V):=xs.map λx=>(x.1 ,x.2.2)
noncomputable def On (xs:↑(PKy×Jq×V))(k:PKy)(c:Jq)(v:V):↑(PKy×Jq×V):=
 if (xs.any λx=>decide<|x.1=k)=true then xs.map (λx=>if x.1=k then (x.1 ,x.2.1,v) else x) else xs++[(k ,c,v)]
def qP (xs:↑(PKy×Jq×V))(k:PKy):((kvN xs).any λkv=>decide<|kv.1=k)=(xs.any λx=>decide<|x.1=k):=by unfold kvN;rw[Hv];rfl
def qO (xs:↑(PKy×Jq×V))(k:PKy)(c:Jq)(v:V):kvN (On xs k c v)=Om (kvN xs) k v:=by
 unfold On Om;rw[qP];by_cases z:(xs.any λx=>decide<|x.1=k)=true
 .rw[np z,np z];unfold kvN;rw[F4,F4];refine Go λx J=>?_;show ((if x.1=k then (x.1 ,x.2.1,v) else x).1 ,(if x.1=k then (x.1 ,x.2.1,v) else x).2.2)=if x.1=k then (x.1 ,v) else (x.1 ,x.2.2)
  split<;>rfl
 rw[gV z,gV z];unfold kvN;rw[FF];rfl
def KN.val (r:KN xs ys)(k:PKy):RelO (PL (kvN xs) k) ((Ky ys k).map (·.2)):=by
 induction r with
 |nil=>exact True.intro
 | @cons p q ps qs h t ih=>
   let(h1,_,h2):=h;show RelO (PL ((p.1 ,p.2.2)::kvN ps) k) _;by_cases e:p.1=k
   .have e':q.1=k:=h1.symm.trans e;have b:Ky (q::qs) k=some q.2:=by simp [Ky,GN,e']
    rw[fU (show (p.1 ,p.2.2).1=k from e),b];exact h2
   .have e':¬q.1=k:=λz=>e<|h1.trans z;have b:Ky (q::qs) k=Ky qs k:=by simp [Ky,GN,e']
    rw[fV (show¬(p.1 ,p.2.2).1=k from e),b];exact ih
def KN.repl (r:KN xs ys)(k:PKy)(ry:RelV y u):
  KN (xs.map λx=>if x.1=k then (x.1 ,x.2.1,y) else x) (ys.map<|putAt k u):=by
 induction r with
 |nil=>exact .nil
 | @cons p q ps qs h t ih=>
   rw[Fz,Fz];refine .cons ?_ ih;let(h1,h2,h3):=h;unfold putAt;by_cases e:p.1=k;rw[np e,np<|h1.symm.trans e];exact(h1,h2,ry);rw[gV e,gV<|λz=>e<|h1.trans z];exact(h1,h2,h3)
def KN.put (r:KN xs ys)(k:PKy)(ry:RelV y u):KN (On xs k b y) (storedH ys k b u):=by
 have e:(xs.any λx=>decide<|x.1=k)=(Ky ys k).isSome:=by rw[<-qP,iO,(r.val k).isSome_eq,GZ]
 unfold On storedH;rw[e];by_cases q:(Ky ys k).isSome=true;rw[np q,np q];exact r.repl k ry;rw[gV q,gV q];exact Paired.snoc r (rfl,rfl,ry)
def sv (h:x∈On xs k c v):(∃y∈xs ,y.1=x.1/\y.2.1=x.2.1)\/(x.1=k/\x.2.1=c):=by
 unfold On at h;split at h;let(y,hy,rfl):=FY.mp h;refine .inl (y,hy,?_);split<;>exact(rfl,rfl)
 .rcases Gg.mp h with h|h
  exact .inl (x,h,rfl,rfl);rw[FR.mp h];exact .inr (rfl,rfl)
section
variable {X:Cx}{P4:↑(Jq×Jt)}{σ:St}{H:Hp}{s:Js}{a c:Jq}{b:Bool}{k:PKy}{xs:↑(PKy×Jq×V)}{A:Ju}{Ex:Jk->Js->Prop}
theorem jG:∀ {ks:↑Int}{us:↑Jk},Vals (ks.map V.int) us->ItemsAre (Jr X.prog X.w) ks us
 |[],_,r=>by rw[GB]at r;cases r;exact .nil
 |k::ks,_,r=>by
  rw[Fz]at r;cases r with
  |cons h t=>
   let(tk,e):=(show∃t ,_=Jk.int k t from h)
   subst e;exact .cons (by simp [Jr,Jk.isInt])<|jG t
def gf (I:Inv X P4 σ H s)(h:KeyN X.K H b c k):IsPk X.prog X.w b s.heap k c:=by
 let(d,h1,h2):=h;let(its2,r2,(o2,g1,g2,n2,g3),_):=I.tuple h2;let(its,r,(o,q1,q2,n,q3),_):=I.tuple h1;have kd:IsTupleKey (Jr X.prog X.w) s.heap k.2 d:=(o2,its2.toArray,n2,g1,g2,g3,by simpa using jG r2)
 cases b with
 |false=>
  let(u,v,rfl,ru,rv):=r.two;cases rv;let(t,e):=(show∃t ,u=Jk.int k.1 t from ru)
  subst e;exact(o,_,n,d,_,q1,q2,q3,kd,by simp [Jk.isInt],rfl)
 |true=>
  let(u,v,rfl,ru,rv):=r.two;cases ru;let(t,e):=(show∃t ,v=Jk.int k.1 t from rv)
  subst e;exact(o,_,n,d,_,q1,q2,q3,kd,by simp [Jk.isInt],rfl)
def n8 (I:Inv X P4 σ H s){ep:Nat}(e:H a=some (.dN b xs ep))(hk:∀x∈xs ,KeyN X.K H b x.2.1 x.1):⇑xs<=sizeLine/\(a==JM)=false/\∃ys,KN xs ys/\s.heap.DictOfH (ja X.prog X.w b) a ys:=by
 let(z,y,ys,r,o,es,h1,h2,h3,h4,h5):=(show ObjOk X.prog X.w H s.heap a (.dN b xs ep) from I.hok a _ e)
 refine(z,y,ys,r,o,es,ep,h1,h2,h3,h4,?_,h5);clear h4 h5 e
 induction r with
 |nil=>intro x hx;exact nomatch hx
 | @cons p q ps qs hq t ih=>
   intro x hx;rcases FC.mp hx with e|hx
   subst e;have:=gf I<|hk p FQ;rw[<-hq.1,<-hq.2.1];exact this;exact ih (λx hx=>hk x<|FX _ hx) (by rw[FA]at z;omega) x hx
def sP {Q:Jk->Js->Prop}(hu:A.units+2<Jv)(I:Inv X P4 σ H s){ep:Nat}(e:H a=some (.dN b xs ep))(hk:∀x∈xs ,KeyN X.K H b x.2.1 x.1)(hc:KeyN X.K H b c k)(l:PL (kvN xs) k=`v)(h:∀w' s' ,Inv X P4 σ H s'->RelV v w'->Q w' s'):
  Jw (Jx X.prog X.w) A (getItem (.ref a)<|.ref c) Q Ex s:=by
 let(z,hd,ys,rel,dd):=n8 I e hk;let(w',hw,rw'):=RelO.some_of (v:=v) (o:=(Ky ys k).map (·.2)) (by rw[<-l];exact rel.val k);let(p,hp,hp2):=FE.mp hw;refine wpAny_getItem_heap (knd:=ja X.prog X.w b) hu (gf I hc) dd hp ?_;rw[hp2];exact h w' _ (I.tok _) rw'
def sO {Q:Unit->Js->Prop}(hu:A.units+2<Jv)(I:Inv X P4 σ H s){ep:Nat}(e:H a=some (.dN b xs ep))(hk:∀x∈xs ,KeyN X.K H b x.2.1 x.1)(hc:KeyN X.K H b c k)(l:⇑xs<sizeLine)(rv:RelV v r)(h:∀s' ep' ,Inv X P4 σ (upd H a<|.dN b (On xs k c v) ep') s'->Q () s'):
  Jw (Jx X.prog X.w) A (setItem (.ref a) (.ref c) r) Q Ex s:=by
 let(z,hd,ys,rel,dd):=n8 I e hk;have hz:⇑ys<=sizeLine:=by rw[<-Paired.length rel];exact z
 have hl:⇑(On xs k c v)<=sizeLine:=by have:=di (kvN xs) k v;rw[<-qO xs k c v]at this;unfold kvN at this;rw[Fv,Fv]at this;omega
 refine wpAny_setItem_heap (hsz:=hz) (knd:=ja X.prog X.w b) hu (gf I hc) dd λh' dd' hs=>?_;let(q,es,ep2,hq,h2,h3,h4,_,h5):=dd';refine h _ ep2 ?_;exact mi I (by rw[e];exact True.intro) hs (q,hq) (hl,hd,_,rel.put k rv,q,es,hq,h2,h3,h4,h5)
end
section
variable {X:Cx}{E:XK}{a b:Expr}{pos:JY}{fa fb fv:KU->M W}
noncomputable def LU (w:W)(h:↑Ob):Option (Bool×↑PKy×↑W):=match w with
 |.loc k=>match h[k]? with|some (.din b ks ws)=>some (b ,ks,ws)|_=>none
 |.dn b ks ws=>some (b ,ks,ws)
 |_=>none
set_option tactic.hygienic true in
def og {w:W}{b:Bool}(R:Rel X.K o)(e:LU w o.h=some (b ,ks,ws))(h:Rv X.K o w v):∃a xs ep,v=.ref a/\o.H a=some (.dN b xs ep)/\xs.map (·.1)=ks/\(∀x∈xs ,KeyN X.K o.H b x.2.1 x.1)/\Rvs X.K o ws (xs.map (·.2.2)):=by
 cases w with
 |loc k=>
  unfold LU at e;dsimp only at e;split at e;rename_i b' ks' ws' hk;cases e;unfold Rv at h;let(xs,h1,h2,h3,h4):=R.ob k _ hk;exact(_,xs.1,xs.2,h.2,h1,h2,h3,h4);cases e
 |dn b' ks' ws'=>
  unfold LU at e;cases e;unfold Rv at h;let(a,xs,e,h1,_,h2,h3,h4):=h;exact(a,xs.1,xs.2,e,h1,h2,h3,h4)
 |_=>cases e
noncomputable def MN (b:Bool)(w:W):Option PKy:=match b,w with
 |false,.tup [.int i,.tup l]=>(NU iOf l).map λns=>(i ,ns)
 |true,.tup [.tup l,.int i]=>(NU iOf l).map λns=>(i ,ns)
 |_,_=>none
set_option tactic.hygienic true in
def lR {b:Bool}{w:W}(e:MN b w=`k)(h:Rv X.K o w v):∃c,v=.ref c/\KeyN X.K o.H b c k:=by
 unfold MN at e;split at e;rename_i i l;let(ns,e1,rfl):=FE.mp e;unfold Rv at h;let(c,vs,rfl,s,r):=h;let(u,v,rfl,ru,rv):=r.two;unfold Rv at rv;let(d,us,rfl,s2,r2):=rv;have eu:=OE.mp ru;subst eu;have e2:us=ns.map V.int:=cS g0 e1 r2;subst e2;exact(c,rfl,d,s,s2);rename_i l i;let(ns,e1,rfl):=FE.mp e;unfold Rv at h;let(c,vs,rfl,s,r):=h;let(u,v,rfl,ru,rv):=r.two;unfold Rv at ru;let(d,us,rfl,s2,r2):=ru;have eu:=OE.mp rv;subst eu;have e2:us=ns.map V.int:=cS g0 e1 r2;subst e2;exact(c,rfl,d,s,s2);cases e
noncomputable def AI (b:Bool):TE:=λJ H Q=>∀p,H p=none->Q (.ref p) (upd H p<|.dN b [] 0)
def xo {w:Jo}(b:Bool)(h:Jp)(hb:JM<h.objs.size):ObjOk P w H (h.push {cls:=.type "dict",data:=.dict #[]}) h.objs.size (.dN b [] 0):=
 (FU _,beq_eq_false_iff_ne.mpr<|Ne.symm<|FJ hb,[],.nil,_,#[],FM _ rfl,(rfl,rfl,rfl),rfl,rfl,Ha)
def vB (b:Bool):PE X (.Dict [] [] pos) (AI b):=λP4 s σ H Q I h=>
 wpAny_Dict_empty (.ref ↥s,_,I.laid (a:=↥s) (o:=.dN b [] 0) (t':=s.toks) (λJ J q=>Fx _ q) (Fw _)<|xo b s.heap I.big,rfl,h _<|I.hok.fresh<|Fw _)
noncomputable def gU (b:Bool):KU->M W:=λJ h=>.ok (.loc ⇑h)<|h++[.din b [] []]
def wq (b:Bool):JE X E (.Dict [] [] pos) (gU b):=(vB b).imp λσ H Q h=>by let(o,ρ,rfl,R,S,h):=h;intro q hq;exact Ps.at (p:=o.add q (.din b [] [])<|.dN b [] 0) h rfl (Ex.add hq) (R.add hq (([] ,0),aB,rfl,λJ hx=>absurd hx FV,Rvs.nil)) Rv.addLoc
noncomputable def rIxN (K:Zf):R2:=λx y H Q=>∃a b xs ep c k v,x=.ref a/\y=.ref c/\H a=some (.dN b xs ep)/\(∀x∈xs ,KeyN K H b x.2.1 x.1)/\KeyN K H b c k/\PL (kvN xs) k=`v/\Q v H
def Fj (hu:X.A.units+2<Jv):IxR X (rIxN X.K):=by intro value slice P4 s σ H x y v u Q I rx ry h hs;let(a,b,xs,ep,c,k,z,rfl,rfl,e,hk,hc,l,q):=h;cases rx;cases ry;let(_,_,ys,_,dd):=n8 I e hk;exact tail_any dd.typeIs PySem.F.slot_dict_getitem.lookup (sP hu I e hk hc l λw' s3 I3 rw'=>(z,H,I3,rw',q)) hs
noncomputable def MG (x y:W):M W:=λh=>match LU x h with
 |some (b ,ks,ws)=>match MN b y with
  |some k=>match atK ks ws k with|some w=>.ok w h|none=>.bad
  |none=>.bad
 |none=>.bad
def yI:OpM X E (rIxN X.K) MG:=by
 intro o x y vx vy Q R rx ry h;unfold MG at h;cases e1:LU x o.h with
 |none=>rw[e1]at h;exact h.elim
 |some t=>
  let(b,ks,ws):=t;rw[e1]at h;cases e2:MN b y with
  |none=>simp only[e2]at h;exact h.elim
  |some k=>
   simp only[e2]at h;cases e3:atK ks ws k with
   |none=>simp only[e3]at h;exact h.elim
   |some w=>
    simp only[e3]at h;let(a,xs,ep,rfl,g1,g2,g3,g4):=og R e1 rx;let(c,rfl,hc):=lR e2 ry;have hv:=dA (x:=k) (kvs:=kvN xs) (ks:=ks) (ws:=ws) (by unfold kvN;rw[F4];exact g2) (by unfold kvN;rw[F4];exact g4);rw[e3]at hv;let(v,hv,rv):=hv;exact(a,b,xs,ep,c,k,v,rfl,rfl,g1,g3,hc,hv,Ps.pr (c:=cg X E) (r:=Rv X.K) (a:=w) h R rv)
def Ci (hu:X.A.units+64<Jv)(ha:JE X E a fa)(hb:JE X E b fb)(hs:iI b):JE X E (.Subscript a b pos) (m2 MG fa fb):=
 (Ah (Fj<|F9 (Ii (by decide:2<=64) _) hu) ha.h hb.h hs).imp λJ J J h=>ux yI h
noncomputable def rSetN (K:Zf):Lf:=λo i v H Q=>∃a b xs ep c k,o=.ref a/\i=.ref c/\H a=some (.dN b xs ep)/\(∀x∈xs ,KeyN K H b x.2.1 x.1)/\KeyN K H b c k/\⇑xs<sizeLine/\∀ep',Q<|upd H a<|.dN b (On xs k c v) ep'
def Dp (hu:X.A.units+2<Jv):PSet X (rSetN X.K):=by intro P4 s σ H o i v ov iv u Q I ro ri rv h;let(a,b,xs,ep,c,k,rfl,rfl,e,hk,hc,l,q):=h;cases ro;cases ri;exact sO hu I e hk hc l rv λs4 ep' I4=>(_,I4,q ep')
noncomputable def gI (x i v:W):M Unit:=match x with
 |.loc j=>λh=>match h[j]? with
  |some (.din b ks ws)=>match MN b i with|some k=>if ⇑ks<sizeLine then .ok () (h.set j<|.din b (Oo ks ws k v).1 (Oo ks ws k v).2) else .bad|none=>.bad
  |_=>.bad
 |_=>no
noncomputable def dO (fo fi fv:KU->M W):KU->M Fl:=λρ=>bd (fv ρ) λv=>bd (fo ρ) λx=>bd (fi ρ) λi=>bd (gI x i v) λJ=>pr<|.nx ρ
def sS {fo fi:KU->M W}(hu:X.A.units+64<Jv)(ho:JE X E o fo)(hi:JE X E i fi)(hv:JE X E value fv)
  (ha:∀v ,assign (.Subscript o i tpos) X.env v=(do
   let ov<-J7 [v] (JX o X.env);let iv<-J7 [v,ov] (JX i X.env)
   J6 tpos
   J7 [v,ov,iv] (setItem ov iv v)
   release [v,ov,iv] []))
  (hs:swapsWithSole [.Subscript o i tpos] value pos.line X.env=pure false)(hw:swappedStores [.Subscript o i tpos] value X.env=pure none)
  (h1:(J9 [.Subscript o i tpos] X.env).map (·.2)=[assign (.Subscript o i tpos) X.env]):JS X E (.Assign [.Subscript o i tpos] value pos) (dO fo fi fv):=
 (vc hv.h (vq ho.h hi.h (Dp<|F9 (Ii (by decide:2<=64) _) hu) ha) hs hw h1).imp λD σ H h=>by
  let(w,ρ,rfl,R,S,h):=h;refine(w,ρ,rfl,R,S,Ps.bd h λp v vv e1 R1 r1 h1=>(p,ρ,rfl,R1,S.mono R e1,Ps.bd h1 λq x vx e2 R2 r2 h2=>(q,ρ,rfl,R2,(S.mono R e1).mono R1 e2,Ps.bd h2 λs i vi e3 R3 r3 h3=>?_)));have S3:=((S.mono R e1).mono R1 e2).mono R2 e3;have rv:=(r1.mono R1 e2).mono R2 e3;have rx:=r2.mono R2 e3;cases x with
  |loc j=>
   unfold Rv at rx;let(hj,rfl):=rx;unfold gI bd at h3;cases e:s.h[j]? with
   |none=>simp only[e]at h3;exact h3.elim
   |some ob=>
    cases ob with
    |din b ks ws=>
     simp only[e]at h3;cases ek:MN b i with
     |none=>simp only[ek]at h3;exact h3.elim
     |some k=>
      simp only[ek]at h3;by_cases z:⇑ks<sizeLine
      .simp only[np z]at h3;let((xs,ep),g1,g2,g3,g4):=R3.ob j _ e;dsimp only at g1 g2 g3 g4;let(c,rfl,hc):=lR ek r3;let(b1,b2):=fj (x:=k) (kvs:=kvN xs) (ks:=ks) (ws:=ws) rv (by unfold kvN;rw[F4];exact g2) (by unfold kvN;rw[F4];exact g4);rw[<-qO xs k c vv]at b1 b2;unfold kvN at b1 b2;rw[F4]at b1 b2;refine(_,b,xs,ep,c,k,rfl,rfl,g1,g3,hc,by rw[<-g2,Fv]at z;exact z,λep'=>?_);refine Ps.at (p:=s.put j (.din b (Oo ks ws k v).1 (Oo ks ws k v).2)<|.dN b (On xs k c vv) ep') (b:=FlV.nx σ) h3 rfl (Ex.put e ⇑_) (R3.putN e ⇑_ b1 (λx hx=>?_) b2) (σ,rfl,S3.mono R3<|Ex.put e ⇑_);rcases sv hx with⟨y,hy,q1,q2⟩|⟨q1,q2⟩
       rw[<-q1,<-q2];exact g3 y hy;rw[q1,q2];exact hc
      simp only[gV z]at h3;exact h3.elim
    |_=>simp only[e]at h3;exact h3.elim
  |_=>exact h3.elim
end
end
section
section
variable {X:Cx}{E:XK}
open Classical in
noncomputable def eqK (prog:Jn)(w:Jo)(h:Jp)(ns:↑Int)(u:Jk):Bool:=match u with|.ref c=>decide (IsTupleKey (Jr prog w) h ns c)|_=>false
open Classical in
noncomputable def NB:↑Int->Int|[]=>0|[a]=>a|a::l=>if NB l<a then a else NB l
theorem f9:∀ {l:↑Int},l≠ []->NB l∈l/\∀x∈l,x<=NB l
 |[],h=>absurd rfl h
 |[a],_=>(FR.mpr rfl,λx hx=>by rw[FR.mp hx];exact GD _)
 |a::b::l,_=>by
  let(h1,h2):=f9 (l:=b::l) ⇑_;show (if NB (b::l)<a then a else NB (b::l))∈_/\∀x∈_,x<=(if NB (b::l)<a then a else NB (b::l));by_cases c:NB (b::l)<a
  .rw[np c];refine(FQ,λx hx=>?_);rcases FC.mp hx with rfl|hx
   exact GD _;have:=h2 x hx;omega
  .rw[gV c];refine(FX _ h1,λx hx=>?_);rcases FC.mp hx with rfl|hx
   omega;exact h2 x hx
theorem jX (bt:Nat->Nat->Bool):∀n,KJ bt n<=n
 |0=>Fw _
 |n+1=>by
  unfold KJ;split;exact Fw _;exact Ir<|jX bt n
theorem xG (f:Nat->Int):∀n j,j<=n->f j<=f (KJ (λi j=>decide<|f i>f j) n)
 |0,j,h=>by rw[Nat.le_zero.mp h];exact GD _
 |n+1,j,h=>by
  unfold KJ;have ih:=xG f n;by_cases c:f (n+1)>f (KJ (λi j=>decide<|f i>f j) n)
  .rw[np<|CF c];by_cases e:j=n+1;rw[e];exact GD _;have:=ih j ∅;omega
  .rw[gV<|by rw[s0 c];simp];by_cases e:j=n+1;rw[e];omega;exact ih j ∅
def qJ (e:ns=xs.toList.map (·.1)){i:Nat}(h:i<xs.size):ns[i]?=some (KB xs i):=by rw[e,FB,Gb,HL h];unfold KB;rw[HL h];rfl
def ub (hc:X.calm=true):CallR X (.builtin "max") (λxs H Q=>∃ (p:Jq) (ns:↑Int) ,xs=[.ref p]/\SqL X.K H p (ns.map V.int)/\ns≠ []/\Q (.int<|NB ns) H):=by
 intro P4 s σ H xs us Q I r h;let(p,ns,rfl,hq,hne,q):=h;let(u,rfl,ru):=PM r;cases ru;let(its,rv,pl,hz):=I.list hq;have hi:=eO rv;let(xs,e):=hi.allInts.items;have hl:s.heap.IsList p (intItems xs):=by rw[<-e];exact pl.isList
 have en:ns=xs.toList.map (·.1):=by rw[<-nums_intItems,<-e];exact (show numsOf its.toArray.toList=ns from hi.numsOf).symm
 have sz:xs.size=⇑ns:=by rw[en,Fv,F6]
 have pos:0<xs.size:=by rw[sz];exact HM.mpr hne
 refine max_intList (I.ok.hd hc) hl pos λv h' tk hv hk=>?_;let(t,rfl):=intItems_at hv;have il:=jX (λi j=>decide<|KB xs i>KB xs j)<|xs.size-1;have e1:=qJ en (i:=KJ (λi j=>decide<|KB xs i>KB xs j)<|xs.size-1) ∅;let(m1,m2):=f9 hne;let(k,hk'):=Hg m1;have kl:=(FD.mp hk').1;have e2:=qJ en (i:=k) ∅;rw[hk']at e2;have a1:=m2 _<|FK e1;have a2:=xG (KB xs) (xs.size-1) k ∅;have:KB xs (KJ (λi j=>decide<|KB xs i>KB xs j)<|xs.size-1)=NB ns:=by have:=Option.some.inj e2;omega
 rw[this];exact(.int<|NB ns,H,I.kept (t':=tk) hk,(t,rfl),q)
noncomputable def L9 (f:↑Int->Int)(ws:↑W):M W:=match ws with
 |[w]=>bd (Na w) λl=>match NU iOf l with|some ns=>gd (ns≠ []) (pr<|.int<|f ns)|none=>no
 |_=>no
variable {a:Expr}{p pos:JY}{l:KU->M ↑W}
def Ey {f:↑Int->Int}:KP X E (λxs H Q=>∃ (p:Jq) (ns:↑Int) ,xs=[.ref p]/\SqL X.K H p (ns.map V.int)/\ns≠ []/\Q (.int<|f ns) H) (L9 f):=λo ws vs Q R rv h=>by
 unfold L9 at h;split at h
 .let(v,rfl,r):=rv.one;let(l,a,us,rfl,s,r,h):=bT R r h;cases e:NU iOf l with
  |none=>rw[e]at h;exact h.elim
  |some ns=>
   rw[e]at h;let(hn,h):=h.gd;have e2:us=ns.map V.int:=cS g0 e r;subst e2;exact(a,ns,rfl,s,hn,h.pr R<|OE.mpr rfl)
 exact h.elim
def zg (hc:X.calm=true)(hm:X.mg "max"=none)(ha:JA X E [a] l)(hg:Gl X "max")(he:J1 [a] X.env=(false ,JX a X.env)::J1 [] X.env)(hpl:(JZ pos<|J1 [] X.env).any (·.1)=false):JE X E (.Call (.Name "max" p) [a] [] pos) (Ng (L9 NB) l):=
 cM (ub hc) Ey hg hm rfl ha ↥_ ↥_ he hpl
end
end
section
section
variable {X:Cx}{E:XK}{a b:Expr}{p p2 pos pos2:JY}
noncomputable def tLR1 (ta:TA):TE:=λσ H Q=>ta σ H λvs H1=>∃j:Int,vs=[.int j]/\(-(2^62)<=j/\j<2^62)/\j.toNat<=sizeLine/\∀l,H1 l=none->Q (.ref l) (upd H1 l<|.lst<|Mx 0 j.toNat)
def o4 (hc:X.calm=true)(hgl:Gl X "list")(hml:X.mg "list"=none)(hg:Gl X "range")(hm:X.mg "range"=none)(ha:PA X [a] ta)(hs:J1 [a] X.env=[(false ,JX a X.env)]:=by rfl)
  (he:J1 [.Call (.Name "range" p2) [a] [] pos2] X.env=(false ,JX (.Call (.Name "range" p2) [a] [] pos2) X.env)::J1 [] X.env:=by rfl)(hpl:(JZ pos<|J1 [] X.env).any (·.1)=false:=by rfl):
  PE X (.Call (.Name "list" p) [.Call (.Name "range" p2) [a] [] pos2] [] pos) (tLR1 ta):=by
 intro P4 s σ H Q I h;refine Kq<|bu I hgl hml PyProof.Rows.boot_list ?_ ↥_ ↥_;refine PyProof.Rows.callWith_type1 ?_ he hpl;rw[he];refine Calls.spliced_cons ?_;refine Call_ (bu I hg hm boot_range<|PyProof.Rows.callWith_type1 (thn (ha pos2 P4 s σ H _ I h) λus s1 qz=>?_) (by rw[hs];rfl)<|by rfl);let(vs,H1,I1,r1,q1):=qz;let(j,e,(q3,q4),hz,q):=q1;subst e;cases r1 with
 |cons r rr=>
  cases rr;let(t,rfl):=r;refine call_range_1<|Calls.spliced_nil ?_;have I2:Inv X P4 σ H1 {s1 with heap:=s1.heap.push {cls:=.type "range",data:=.fields #[.int 0 s1.toks,.int j t,.int 1<|s1.toks+1]},toks:=s1.toks+1+1}:=I1.kept λb o e=>Fx _ e;have hn:Jl.Range.rangeSize 0 j 1=(j.toNat:Int):=by rw[rangeSize_one];split<;>omega
  refine call_list_range (I2.ok.hd hc) (IsRange.new ..) (small_one ↥_ ↥_ q3 q4) hn (F1 hz ↥_) λh' tk acc' c' hk hS hacc=>?_;have vs:Vals (Mx 0 j.toNat) acc'.toList:=c8 _ _ _ (by rw[F6,hacc.1]) λk v e=>by let(t,e):=hacc.2 k v (by rw[<-Gb];exact e);exact(t,by rw[e];congr 1;omega)
  exact(.ref _,_,I2.laid (t':=tk) hk (Fw _) (show ObjOk X.prog X.w _ h' _ (.lst<|Mx 0 j.toNat) from(by rw[dH];exact hz,acc'.toList,c',vs,by rw[Hf];exact hS)),rfl,q _<|I2.hok.fresh<|Fw _)
noncomputable def M4 (l:KU->M ↑W):KU->M ↑W:=λρ=>bd (l ρ) λws=>match ws with|[.int j]=>gd ((-(2^62)<=j/\j<2^62)/\j.toNat<=sizeLine) (pr<|My 0 j.toNat)|_=>no
def pi {l:KU->M ↑W}(hc:X.calm=true)(hml:X.mg "list"=none)(hm:X.mg "range"=none)(ha:JA X E [a] l)(hgl:Gl X "list")(hg:Gl X "range")(hs:J1 [a] X.env=[(false ,JX a X.env)])
  (he:J1 [.Call (.Name "range" p2) [a] [] pos2] X.env=(false ,JX (.Call (.Name "range" p2) [a] [] pos2) X.env)::J1 [] X.env)(hpl:(JZ pos<|J1 [] X.env).any (·.1)=false):JF X E (.Call (.Name "list" p) [.Call (.Name "range" p2) [a] [] pos2] [] pos) (M4 l):=
 (o4 hc hgl hml hg hm ha.h hs he hpl).impF λσ H Q h=>by
  let(o,ρ,rfl,R,S,h):=h;refine(o,ρ,rfl,R,S,Ps.bd h λp x vx e1 R1 r1 h1=>?_);split at h1;let(v,rfl,r):=r1.one;let(hz,h1):=h1.gd;exact(_,by rw[OE.mp r],hz.1,hz.2,h1.pr R1<|dE _ _);exact h1.elim
def r6 {P4:↑(Jq×Jt)}{σ:St}{H:Hp}{s:Js}{a b:Jq}{v:V}{kvs:↑(↑Key×V)}{k:↑Key}{A:Ju}{Ex:Jk->Js->Prop}{Q:Jk->Js->Prop}(hu:A.units+1<Jv)(I:Inv X P4 σ H s)(e:Rd H a (.dT kvs))(eb:SqT X.K H b (k.map kV))(l:PL kvs k=`v)(h:∀w' s' ,Inv X P4 σ H s'->RelV v w'->Q w' s'):
  Jw (Jx X.prog X.w) A (getItem (.ref a)<|.ref b) Q Ex s:=by
 let(z,hd,xs,rel,dd):=fH I.hok e;let(w',hw,rw'):=RelO.some_of (v:=v) (o:=(Ky xs k).map (·.2)) (by rw[<-l];exact rel.val k);let(p,hp,hp2):=FE.mp hw;refine wpAny_getItem_heap (Kz hu) (qQ I eb) dd hp ?_;rw[hp2];exact h w' _ (I.tok _) rw'
noncomputable def MH (x y:W):M W:=λh=>match LV x h with
 |some (ks ,ws)=>match MP y with
  |some k=>match atK ks ws k with|some w=>.ok w h|none=>.bad
  |none=>.bad
 |none=>.bad
end
end
section
section
variable {prog:Jn}{w:Jo}{A:Ju}{E:Jk->Js->Prop}{s:Js}
def RawD (h:Jp)(d:Jq)(es:Array DictEntry)(ep:Nat):Prop:=∃o,h.get? d=`o/\o.ExactDict/\o.data=.dict es ep
def pP {h:Jp}{a:Jq}{o:Jt}{vs:Array Jk}(g1:h.get? a=`o)(g3:o.data=.fields vs)(k:Nat)(x:Jk):
  ∃o',(h.update a<|Jt.mapFields λz=>z.setIfInBounds k x).get? a=`o'/\o'.cls=o.cls/\o'.data=.fields (vs.setIfInBounds k x):=by
 let(c,dd,data,sl):=o;cases g3;exact(_,Ib _ g1 rfl,rfl,rfl)
def mQ (h:Jp)(a:Jq)(f:Jt->Jt):Ga a h (h.update a f):=(Iu _ _ _,λb hb=>Ic _ _<|Ne.symm hb)
def ur {i n ep:Nat}{Q:Fin->Js->Prop}(hi:s.heap.IsValIter it d i n ep)(hd:RawD s.heap d es ep)(hn:es.size=n)(he:es[i]?=`e)
  (k:∀h':Jp ,h'.IsValIter it d (i+1) n ep->Ga it s.heap h'->Q (.done<|.ret e.val) {s with heap:=h'}):
  Jw (Jx prog w) A (Jl.«dict_valueiterator.__next__» ([.ref it],[])) Q E s:=by
 have hT:=hi.typeIs (s:=s);have hi0:=hi;let(o,h1,h2,h3):=hi;let(od,g1,g2,g3):=hd;show Jw _ _ (((typeNameOfWhole (.ref it)>>=_)>>=_)>>=_) _ _ s;refine Jy<|Jy<|Jy<|wpAny_typeNameOfWhole_valiter hT<|JC ?_;refine Jy<|wpAny_fieldsOf h1 h3 ?_;show Jw _ _ (dictEntries d>>=_) _ _ s;refine Jy<|wpAny_dictEntries g1 g3 ?_;have z:((es.size:Int) !=(n:Int))=false:=by rw[hn];simp
 show Jw _ _ (if ((es.size:Int) !=(n:Int))=true then _ else dictEpoch d>>=_) _ _ s;rw[z,gV ↥_];refine Jy<|wpAny_dictEpoch g1 g3 ?_;have z2:((ep:Int) !=(ep:Int))=false:=⇑_;show Jw _ _ (if ((ep:Int) !=(ep:Int))=true then _ else _) _ _ s;rw[z2,gV ↥_];refine JC ?_;have z3:(if ((i:Nat):Int)<0 then none else es[((i:Nat):Int).toNat]?)=`e:=by rw[gV ∅,G0];exact he
 dsimp only;rw[z3];dsimp only;refine Jy<|Jy<|wpAny_typeNameOfWhole_valiter hT<|JC ?_;refine Jy<|wpAny_isOneOf_valiter hT ?_;refine Jy<|wpAny_setField h1 h3 (show 1<4 by decide) ?_;let(o',w1,w2,w3):=pP h1 h3 1<|Ke<|(i:Int)+1;have v1:Jp.IsValIter (s.heap.update it<|Jt.mapFields λz=>z.setIfInBounds 1<|Ke<|(i:Int)+1) it d (i+1) n ep:=(o',w1,w2.trans h2,w3)
 have v2:=mQ s.heap it (Jt.mapFields λz=>z.setIfInBounds 1<|Ke<|(i:Int)+1);refine Jy<|JH ?_;have hT2:=v1.typeIs (s:={s with heap:=_});refine Jy<|wpAny_isOneOf_valiter hT2 ?_;rw[gV ↥_];refine Jy<|wpAny_isOneOf_valiter hT2 ?_;rw[np ↥_];exact JC<|JC<|k _ v1 v2
def nC {Q:Jk->Js->Prop}(k:∀ (h':Jp) (e:Jq) ,(∀b o ,s.heap.get? b=`o->h'.get? b=`o)->s.heap.get? e=none->(∃o ,h'.get? e=`o/\o.cls=.type "StopIteration")->Q (.ref e) {s with heap:=h'}):
  Jw (Jx prog w) A (newExc (.type "StopIteration") []) Q E s:=by
 have f:firstArgMember (.type "StopIteration") []=pure .none:=by unfold firstArgMember;rfl
 unfold newExc;refine Jy<|wpAny_newTuple ?_<|FU _;rw[f];refine Jy (JC<|Kv ?_<|show 6<=_ by decide);refine k _ _ (λb o q=>Fx _<|Fx _ q) (by rw[Gc];exact IJ<|Gj _) (_,FM _ rfl,rfl)
def xS {i n ep:Nat}{Q:Fin->Js->Prop}(hh:A.handled=none)(hi:s.heap.IsValIter it d i n ep)(hd:RawD s.heap d es ep)(hn:es.size=n)(he:es[i]?=none)
  (k:∀ (h':Jp) (e:Jq) ,HI it s.heap h'->(∃o ,h'.get? e=`o/\o.cls=.type "StopIteration")->E (.ref e) {s with heap:=h'}):
  Jw (Jx prog w) A (Jl.«dict_valueiterator.__next__» ([.ref it],[])) Q E s:=by
 have hT:=hi.typeIs (s:=s);let(o,h1,h2,h3):=hi;let(od,g1,g2,g3):=hd;show Jw _ _ (((typeNameOfWhole (.ref it)>>=_)>>=_)>>=_) _ _ s;refine Jy<|Jy<|Jy<|wpAny_typeNameOfWhole_valiter hT<|JC ?_;refine Jy<|wpAny_fieldsOf h1 h3 ?_;show Jw _ _ (dictEntries d>>=_) _ _ s;refine Jy<|wpAny_dictEntries g1 g3 ?_;have z:((es.size:Int) !=(n:Int))=false:=by rw[hn];simp
 show Jw _ _ (if ((es.size:Int) !=(n:Int))=true then _ else dictEpoch d>>=_) _ _ s;rw[z,gV ↥_];refine Jy<|wpAny_dictEpoch g1 g3 ?_;have z2:((ep:Int) !=(ep:Int))=false:=⇑_;show Jw _ _ (if ((ep:Int) !=(ep:Int))=true then _ else _) _ _ s;rw[z2,gV ↥_];refine JC ?_;have z3:(if ((i:Nat):Int)<0 then none else es[((i:Nat):Int).toNat]?)=none:=by rw[gV ∅,G0];exact he
 dsimp only;rw[z3];dsimp only;refine Jy<|Jy<|wpAny_typeNameOfWhole_valiter hT<|JC ?_;refine Jy<|wpAny_setField h1 h3 (show 0<4 by decide) ?_;have v2:=mQ s.heap it (Jt.mapFields λz=>z.setIfInBounds 0 Jk.none);refine Jy (nC λh' e kp nw th=>wpAny_raiseNew_none hh<|k h' e (λb o hb q=>kp b o<|v2.extBut _ _ hb q) th)
def vZ {i n ep:Nat}{Q:Option Jk->Js->Prop}(hi:s.heap.IsValIter it d i n ep)(hd:RawD s.heap d es ep)(hn:es.size=n)(he:es[i]?=`e)
  (k:∀h':Jp ,h'.IsValIter it d (i+1) n ep->Ga it s.heap h'->Q (some e.val) {s with heap:=h'}):
  Jw (Jx prog w) A (Kc<|.ref it) Q E s:=by
 have hT:=hi.typeIs (s:=s);unfold Kc;exact Jy<|wpAny_attempt<|wpAny_callSpecial?_slot (name:=Str.ofString "__next__") hT F.slot_dict_valueiterator_next<|JB F.slot_dict_valueiterator_next hT F.entry_dict_valueiterator_next (ur hi hd hn he λh' a1 a2=>(_,rfl,JC<|k h' a1 a2))<|F.args_dict_valueiterator_next_1 _
def zI {i n ep:Nat}{Q:Option Jk->Js->Prop}(hh:A.in1.handled=none)(hi:s.heap.IsValIter it d i n ep)(hd:RawD s.heap d es ep)(hn:es.size=n)(he:es[i]?=none)
  (k:∀h':Jp ,HI it s.heap h'->Q none {s with heap:=h'}):
  Jw (Jx prog w) A (Kc<|.ref it) Q E s:=by
 have hT:=hi.typeIs (s:=s);unfold Kc;refine Jy<|wpAny_attempt<|wpAny_callSpecial?_slot (name:=Str.ofString "__next__") hT F.slot_dict_valueiterator_next<|JB F.slot_dict_valueiterator_next hT F.entry_dict_valueiterator_next (xS hh hi hd hn he λh' e hk (o,g1,g2)=>?_)<|F.args_dict_valueiterator_next_1 _;exact Jy<|JG (T:="StopIteration") (b:=true) (o,g1,g2) isSubtype_stop<|JC<|k _ hk
def wN {ep:Nat}{Q:Jk->Js->Prop}(hv:s.heap.IsValuesView v d)(hd:RawD s.heap d es ep)
  (k:Q (.ref ↥s) {s with heap:=s.heap.push {cls:=.type "dict_valueiterator",data:=.fields #[.ref d,.int 0 0,.int (es.size:Nat) 0,.int ep 0]}}):
  Jw (Jx prog w) A (pyIter<|.ref v) Q E s:=by
 let(o,h1,h2,h3):=hv;let(od,g1,g2,g3):=hd;have hT:s.TypeIs (.ref v) "dict_values":=(_,h1,h2)
 refine wpAny_pyIter_slot hT F.slot_dict_values_iter<|JB F.slot_dict_values_iter hT F.entry_dict_values_iter ?_<|F.args_dict_values_iter_1 _;show Jw _ _ ((field (.ref v) 0>>=_)>>=_) _ _ s;refine Jy<|Jy<|Ku h1 h3 (x:=.ref d) rfl ?_;refine JC ?_;show Jw _ _ ((dictEntries d>>=_)>>=_) _ _ s;refine Jy<|Jy<|wpAny_dictEntries g1 g3<|Jy<|wpAny_dictEpoch g1 g3 ?_;refine Kv ?_ (show 4<=_ by decide);exact JC (_,rfl,"dict_valueiterator",_,(_,FM _ rfl,rfl),F.slot_dict_valueiterator_next.lookup,k)
def oq {ep:Nat}{Q:Jk->Js->Prop}(hs:(d==JM)=false)(hd:RawD s.heap d es ep)
  (k:Q (.ref ↥s) {s with heap:=s.heap.push {cls:=.type "dict_values",data:=.fields #[.ref d]}}):
  Jw (Jx prog w) A (call (.builtin "dict.values") [.ref d]) Q E s:=by
 let(od,g1,g2,g3):=hd;have hT:s.TypeIs (.ref d) "dict":=(_,g1,g2.1)
 refine JB F.slot_dict_values hT F.entry_dict_values ?_<|F.args_dict_values_1 _;show Jw _ _ (((typeOf (.ref d)>>=_)>>=_)>>=_) _ _ s;refine Jy<|Jy<|Jy<|wpAny_typeOf (T:="dict") hT ?_;show Jw _ _ (pure ()) _ _ s;refine JC ?_;show Jw _ _ (pure d) _ _ s;refine JC ?_;show Jw _ _ (Jl.Dict.showsAll d>>=_) _ _ s;unfold Jl.Dict.showsAll;rw[hs,gV ↥_];refine Jy<|JC ?_;refine Jy (Kv ?_<|show 1<=_ by decide);exact JC (_,rfl,k)
def RawD.keep {ep:Nat}(hd:RawD h d es ep)(k:∀o ,h.get? d=`o->h'.get? d=`o):RawD h' d es ep:=by let(o,a,b,c):=hd;exact(o,k o a,b,c)
def xX {r d:Jq}{es:Array DictEntry}{ep:Nat}:PySem.W.KdlSrc prog w "dict_values" r d es.size (λi v=>∃e ,es[i]?=`e/\v=e.val) (λh=>h.IsValuesView r d/\RawD h d es ep) where
 type:=λs ((o,a,b,_),_)=>(o,a,b)
 there:=λh ((o,a,_,_),(q,b,_,_))=>(Fy a,Fy b)
 keep:=λh h' ((o,a,b,c),hd) k=>((o,k r (.inl rfl) o a,b,c),hd.keep λo q=>k d (.inr rfl) o q)
 notList:=↥_
 notTuple:=↥_
 hint:=λA E s Q ((o,a,b,_),_) q=>PySem.W.kdl_hint_values (o,a,b) q
 iter:=λA s hh (hv,hd)=>by
  have ld:d<↥s:=by let(q,b,_,_):=hd;exact Fy b
  have ne:d≠↥s:=FJ ld;refine(_,λi h=>h.IsValIter ↥s d i es.size ep/\RawD h d es ep,λE Q q=>wN hv hd q,(λb hb=>?_,λi h h' st k=>?_,λi s' Q E hi st k=>?_,λs' Q E st k=>?_,λi s' Q E st q=>wpAny_pyIter_valiter st.1 q),?_);exact FC.mpr<|.inl<|FR.mp hb;let((o,a,b,c),hd'):=st;exact((o,k _ ⇑_ o a,b,c),hd'.keep λo q=>k d ⇑_ o q);let(st1,st2):=st;refine vZ st1 st2 rfl (HL hi) λh' a1 a2=>k _ h' _ (_,HL hi,rfl) (a1,st2.keep λo q=>(a2.2 d ne).trans q) λb o hb q=>(a2.2 b<|λz=>hb<|by simp [z]).trans q;let(st1,st2):=st;exact zI hh st1 st2 rfl ⇑_ λh' a1=>k h' _ λb o hb q=>a1 b o (λz=>hb<|by simp [z]) q;exact((_,FM _ rfl,rfl,rfl),hd.keep λo q=>Fx _ q)
end
theorem jk {α β:Type}{F:α->β->Prop}:∀ {l₁:↑α}{l₂:↑β},Paired F l₁ l₂->⇑l₁=⇑l₂|_,_,.nil=>rfl|_,_,.cons _ t=>congrArg (· +1)<|jk t
theorem jm {α β:Type}{F:α->β->Prop}:∀ {l₁:↑α}{l₂:↑β},Paired F l₁ l₂->∀ {i:Nat}{b:β},l₂[i]?=`b->∃a,l₁[i]?=`a/\F a b|_,_,.nil,_,_,h=>by cases h|_,_,.cons r t,0,_,h=>by cases h;exact(_,rfl,r)|_,_,.cons r t,i+1,_,h=>jm t (i:=i) h
theorem p9:∀ {vs:↑V}{its:↑Jk},⇑its=⇑vs->(∀ (i:Nat) (u:Jk) ,its[i]?=`u->∃v,vs[i]?=`v/\RelV v u)->Vals vs its|[],[],_,_=>.nil|[],_::_,h,_=>by cases h|_::_,[],h,_=>by cases h|v::vs,u::its,h,q=>by let(v',e,r):=q 0 u rfl;cases e;exact .cons r (p9 (GQ.inj h) λi w e=>q (i+1) w e)
def AW {w:Jo}(ok:HOk P w H h)(e:Rd H a (.dT kvs)):∃es ep,RawD h a es ep/\es.size=⇑kvs/\∀ (i:Nat) (d:DictEntry),es[i]?=`d->∃kv,kvs[i]?=`kv/\RelV kv.2 d.val:=by
 let(z,y,xs,r,o,es,ep,h1,h2,h3,h4,h5):=(show ObjOk P w H h a (.dT kvs) from uY ok e)
 refine(es,ep,(o,h1,h2,h3),?_,λi d hd=>?_);rw[<-F6,h4,Fv,<-jk r];rw[<-Gb,h4,FB]at hd;let(x,hx,rfl):=FE.mp hd;let(kv,hk,rk):=jm r hx;exact(kv,hk,rk.2.2)
noncomputable def tLV (td:TE):TE:=λσ H Q=>td σ H λx H1=>∃a kvs,x=.ref a/\Rd H1 a (.dT kvs)/\∀l,H1 l=none->Q (.ref l) (upd H1 l (.lst (kvs.map (·.2))))
section
variable {X:Cx}{o:Expr}{p apos cpos pos:JY}
def yz (hc:X.calm=true)(hgl:Gl X "list")(hml:X.mg "list"=none)(ho:PE X o td)(hb:Kj o "values" X.env (JX o X.env)=JX o X.env)(hln:(apos.endLine==cpos.line)=true)
  (he:J1 [.Call (.Attribute o "values" apos) [] [] cpos] X.env=(false ,JX (.Call (.Attribute o "values" apos) [] [] cpos) X.env)::J1 [] X.env:=by rfl)(hpl:(JZ pos<|J1 [] X.env).any (·.1)=false:=by rfl):
  PE X (.Call (.Name "list" p) [.Call (.Attribute o "values" apos) [] [] cpos] [] pos) (tLV td):=by
 intro P4 s σ H Q I h;refine Kq<|bu I hgl hml PyProof.Rows.boot_list ?_ ↥_ ↥_;refine PyProof.Rows.callWith_type1 ?_ he hpl;rw[he];refine Calls.spliced_cons ?_;refine wpAny_Call_method hb rfl hln PySem.F.plainAttrs_dict PySem.F.slot_dict_values PySem.F.type_dict_values (thn (ho P4 s σ H _ I h) λu s1 qz=>?_);let(x,H1,I1,rx,a,kvs,ex,d,q1):=qz;subst ex;obtain rfl:u=Jk.ref a:=rx;let(t1,t2,t3):=pN I1<|.inr (kvs,d);refine(t1,t2,?_);let(es,ep,rd,sz,it):=AW I1.hok d;refine Calls.callWith_builtin rfl ?_;show Jw _ _ (pure _) _ _ _;refine JC<|oq t3 rd<|Calls.spliced_nil ?_;have I2:Inv X P4 σ H1 {s1 with heap:=s1.heap.push {cls:=.type "dict_values",data:=.fields #[.ref a]},toks:=s1.toks}:=I1.kept λb o e=>Fx _ e;have rd2:RawD (s1.heap.push {cls:=.type "dict_values",data:=.fields #[.ref a]}) a es ep:=rd.keep λo q=>Fx _ q;have zl:⇑kvs<=sizeLine:=(fH I1.hok d).1;refine PySem.W.kdl_call (s:={s1 with heap:=s1.heap.push {cls:=.type "dict_values",data:=.fields #[.ref a]}}) (xX (r:=↥s1) (d:=a) (es:=es) (ep:=ep)) (I2.ok.hd hc) ((_,FM _ rfl,rfl,rfl),rd2) (by rw[sz];exact zl) λh' tk acc c' hk hS hacc=>?_;have vs:Vals (kvs.map (·.2)) acc.toList:=p9 (by rw[F6,hacc.1,sz,Fv]) λk v ev=>by let(e,e1,e2):=hacc.2 k v (by rw[<-Gb];exact ev);let(kv,k1,k2):=it k e e1;exact(kv.2,by rw[FB,k1];rfl,by rw[e2];exact k2)
 exact(.ref _,_,I2.laid (t':=tk) hk (Fw _) (show ObjOk X.prog X.w _ h' _ (.lst (kvs.map (·.2))) from(by rw[Fv];exact zl,acc.toList,c',vs,by rw[Hf];exact hS)),rfl,q1 _<|I2.hok.fresh<|Fw _)
end
end
section
section
variable {X:Cx}{E:XK}{o i e value:Expr}{p pos apos cpos tpos:JY}{fo fi fv:KU->M W}{l:KU->M ↑W}
noncomputable def kW:Key->W|.inl i=>.int i|.inr x=>.str x
noncomputable def PH (w:W):M W:=match w with|.kt ks=>pr (.tup<|ks.map kW)|w=>pr w
theorem An {K:Zf}{o:Wo}:∀ks:↑Key,Rvs K o (ks.map kW) (ks.map kV)
 |[]=>Rvs.nil
 |k::ks=>by
  refine Rvs.cons ?_<|An ks;cases k with|inl i=>exact OE.mpr rfl|inr x=>exact OG.mpr rfl
def B2 {f:KU->M W}(h:JE X E e f):JE X E e (m1 PH f):=h.h.imp λσ H Q q=>by
 let(o,ρ,rfl,R,S,h):=q;refine(o,ρ,rfl,R,S,Ps.bd h λp x vx e1 R1 r1 h1=>?_);cases x with
 |kt ks=>
  unfold Rv at r1;let(a,rfl,r1):=r1;have h1:Ps (cg X E) (Rv X.K) p (pr (W.tup<|ks.map kW) p.h) Q:=h1;refine h1.pr R1 ?_;unfold Rv;exact(a,_,rfl,.of r1,An ks)
 |_=>exact Ps.pr (c:=cg X E) h1 R1 r1
noncomputable def md (x:W):M ↑W:=λh=>match LV x h with|some (_ ,ws)=>.ok ws h|none=>.bad
noncomputable def lvL (fo:KU->M W):KU->M ↑W:=λρ=>bd (fo ρ) md
def ze (hc:X.calm=true)(hml:X.mg "list"=none)(ho:JE X E o fo)(hgl:Gl X "list")(hb:Kj o "values" X.env (JX o X.env)=JX o X.env)(hln:(apos.endLine==cpos.line)=true)
  (he:J1 [.Call (.Attribute o "values" apos) [] [] cpos] X.env=(false ,JX (.Call (.Attribute o "values" apos) [] [] cpos) X.env)::J1 [] X.env)(hpl:(JZ pos<|J1 [] X.env).any (·.1)=false):
  JF X E (.Call (.Name "list" p) [.Call (.Attribute o "values" apos) [] [] cpos] [] pos) (lvL fo):=
 (yz hc hgl hml ho.h hb hln he hpl).impF λσ H Q h=>by
  let(o,ρ,rfl,R,S,h):=h;refine(o,ρ,rfl,R,S,Ps.bd h λp x vx e1 R1 r1 h1=>?_);unfold md at h1;cases ed:LV x p.h with
  |none=>simp only[ed]at h1;exact h1.elim
  |some kw=>
   let(ks,ws):=kw;simp only[ed]at h1;let(a,kvs,rfl,g1,g2,g3):=gv R1 ed r1;exact(a,kvs,rfl,g1,Ps.pr (a:=ws) h1 R1 g3)
def tgetT (K:Zf):V->V->Hp->VK->Prop:=λx y H Q=>∃a kvs k b v,x=.ref a/\Rd H a (.dT kvs)/\y=.ref b/\SqT K H b (k.map kV)/\PL kvs k=`v/\Q v H
def Ev (hu:X.A.units+1<Jv):PGet X (tgetT X.K):=by intro P4 s σ H o i ov iv Q I ro ri h;let(a,kvs,k,b,v,rfl,e,rfl,eb,l,q):=h;cases ro;cases ri;exact r6 hu I e eb l λw' s3 I3 rw'=>(v,H,I3,rw',q)
noncomputable def OJ (fo fi fv:KU->M W):KU->M Fl:=λρ=>bd (fo ρ) λx=>bd (fi ρ) λi=>bd (MH x i) λold=>bd (fv ρ) λv=>bd (Ln old v) λz=>bd (ck x i z) λJ=>pr<|.nx ρ
def uB {s:Wo}{x i z:W}{vx vi vz:V}{σ:St}{ρ:KU}{Q:FlV->Hp->Prop}(R:Rel X.K s)(S:Re X.K s ρ σ)(rx:Rv X.K s x vx)(ri:Rv X.K s i vi)(rz:Rv X.K s z vz)(h:Ps (cg X E) (RFl X.K) s (bd (ck x i z) (λJ=>pr<|.nx ρ) s.h) Q):
  Ov vx vi vz s.H (λH=>Q (.nx σ) H)\/Ou vx vi vz s.H (λH=>Q (.nx σ) H):=by
 cases x with
 |loc k=>
  unfold Rv at rx;let(hk,rfl):=rx;unfold ck bd at h;cases e:s.h[k]? with
  |none=>simp only[e]at h;exact h.elim
  |some b=>
   cases b with
   |ins c ns ws=>simp only[e]at h;exact h.elim
   |din b ks ws=>simp only[e]at h;exact h.elim
   |gone=>simp only[e]at h;exact h.elim
   |lst l=>
    simp only[e]at h;cases i with
    |int n=>
     simp only at h;cases ej:ixN ⇑l n with
     |none=>simp only[ej]at h;exact h.elim
     |some j=>
      simp only[ej]at h;let(us,k1,k2):=R.ob k _ e;refine .inl (_,us,n,j,rfl,OE.mp ri,k1,by rw[k2.len];exact ej,?_);exact Ps.at (p:=s.put k (.lst<|l.set j z)<|.lst<|us.set j vz) (b:=FlV.nx σ) h rfl (Ex.put e ⇑_) (R.putL e ⇑_ (k2.set rz j)) (σ,rfl,S.mono R<|Ex.put e ⇑_)
    |_=>exact h.elim
   |dit ks ws=>
    simp only[e]at h;cases i with
    |kt x=>
     simp only at h;by_cases zl:⇑ks<sizeLine;simp only[np zl]at h;let(kvs,k1,k2,k3):=R.ob k _ e;unfold Rv at ri;let(b,rfl,hb):=ri;let(b1,b2):=fj (x:=x) rz k2 k3;refine .inr (_,_,rfl,.inr (kvs,x,b,k1,rfl,hb,by rw[<-k2,Fv]at zl;exact zl,rfl),?_);exact Ps.at (p:=s.put k (.dit (Oo ks ws x z).1 (Oo ks ws x z).2)<|.dT<|Om kvs x vz) (b:=FlV.nx σ) h rfl (Ex.put e ⇑_) (R.putT e ⇑_ b1 b2) (σ,rfl,S.mono R<|Ex.put e ⇑_);simp only[gV zl]at h;exact h.elim
    |_=>exact h.elim
   |dic ks ws=>
    simp only[e]at h;cases ej:MO i with
    |none=>simp only[ej]at h;exact h.elim
    |some x=>
     simp only[ej]at h;by_cases zl:⇑ks<sizeLine;simp only[np zl]at h;let(kvs,k1,k2,k3):=R.ob k _ e;rw[da ej ri];let(b1,b2):=fj (x:=x) rz k2 k3;refine .inr (_,_,rfl,.inl (kvs,x,k1,rfl,by rw[<-k2,Fv]at zl;exact zl,rfl),?_);exact Ps.at (p:=s.put k (.dic (Oo ks ws x z).1 (Oo ks ws x z).2)<|.dK<|Om kvs x vz) (b:=FlV.nx σ) h rfl (Ex.put e ⇑_) (R.putD e ⇑_ b1 b2) (σ,rfl,S.mono R<|Ex.put e ⇑_);simp only[gV zl]at h;exact h.elim
 |_=>exact h.elim
def Dc {α β:Type}{a:M α}{k:α->M β}{x:α}(e:a h=.ok x h'):bd a k h=k x h':=by unfold bd;rw[e]
def zS {α β:Type}{a:M α}{k:α->M β}(e:a h=.bad):bd a k h=.bad:=by unfold bd;rw[e]
def tK (x y:W)(h:↑Ob):MH x y h=.bad\/ ∃ks ws k w,LV x h=some (ks ,ws)/\MP y=`k/\atK ks ws k=`w/\MH x y h=.ok w h:=by
 unfold MH;cases ed:LV x h with
 |none=>exact .inl rfl
 |some kw=>
  let(ks,ws):=kw;cases ek:MP y with
  |none=>exact .inl rfl
  |some k=>
   cases e3:atK ks ws k with|none=>left;simp only[e3]|some w=>right;refine(ks,ws,k,w,rfl,rfl,e3,?_);simp only[e3]
def zX {α β:Type}{r:Wo->α->β->Prop}{o:Wo}{x y:W}{vx vy:V}{k:W->M α}{Q:β->Hp->Prop}(rx:Rv X.K o x vx)(ry:Rv X.K o y vy)(h:Ps (cg X E) r o (bd (Ln x y) k o.h) Q):∃a b,vx=.int a/\vy=.int b/\Ps (cg X E) r o (k (.int<|a+b) o.h) Q:=by
 cases x with
 |int a=>
  cases y with|int b=>exact(a,b,OE.mp rx,OE.mp ry,h)|_=>exact h.elim
 |_=>exact h.elim
def yZ (hu:X.A.units+1<Jv)(ho:JE X E o fo)(hi:JE X E i fi)(hv:JE X E value fv)(ha:∀ov iv new ,augStore i ov iv new=(do J7 [new,ov,iv] (setItem ov iv new);release [new,ov,iv] [];pure .next):=by intros;rfl):
  JS X E (.AugAssign (.Subscript o i tpos) .Add value pos) (OJ fo fi fv):=
 (yo ho.h hi.h (Ev hu) hv.h qE (O8.or<|mN hu) ha).imp λD σ H h=>by
  let(w,ρ,rfl,R,S,h):=h;refine(w,ρ,rfl,R,S,Ps.bd h λp x vx e1 R1 r1 h1=>(p,ρ,rfl,R1,S.mono R e1,Ps.bd h1 λq y vy e2 R2 r2 h2=>?_));have rx:=r1.mono R1 e2;have S2:=(S.mono R e1).mono R1 e2;rcases tK x y q.h with eb|⟨ks,ws,k,old,ed,ek,e3,eo⟩
  rw[zS eb]at h2;exact h2.elim
  rw[Dc eo]at h2;let(a,kvs,rfl,g1,g2,g3):=gv R2 ed rx;let(b,rfl,sb):=qS ek r2;have hv:=dA (x:=k) g2 g3;rw[e3]at hv;let(vo,hvo,ro):=hv;refine(a,kvs,k,b,vo,rfl,g1,rfl,sb,hvo,q,ρ,rfl,R2,S2,Ps.bd h2 λs v vv e3 R3 r3 h3=>?_);let(c,d,ea,eb,h4):=zX (ro.mono R2 e3) r3 h3;exact(c,d,ea,eb,uB R3 (S2.mono R2 e3) (rx.mono R2 e3) (r2.mono R2 e3) (OE.mpr rfl) h4)
end
end
section
open Sem (wp)
open AutoSeq1 (wpAny_loadPart')
section
variable {prog:Jn}{w:Jo}{A:Ju}{E:Jk->Js->Prop}{s:Js}
def j6 {Q:↑Jk->Js->Prop}{a b c:Int}{n:Nat}(hh:A.handled=none)(hr:IsRange s.heap r a b c t u v)(hsmall:Jl.Range.small a b c=true)
  (hn:Jl.Range.rangeSize a b c=n)(hlen:n<=2^24)
  (hQ:∀ (h':Jp) (tk:Nat) (acc':Array Jk) ,(∀b o' ,s.heap.get? b=`o'->h'.get? b=`o')->ItemsOf (λi v=>∃t ,v=.int (a+i*c) t) acc' n->Q acc'.toList {s with heap:=h',toks:=tk}):
  Jw (Jx prog w) A (collect<|.ref r) Q E s:=by
 unfold collect;refine Jy<|wpAny_runValue<|codeAny_builtin F.entry_proto_collect ?_;rw[Ju.under_plainId F.plain_proto_collect _];show Jw _ A.in1 (newList []>>=λl=>again<|.builtin "list.__iadd__" ([l,.ref r],[])) _ _ s
 refine Jy<|Kv ?_;refine JC (plainId_quiet F.plain_list_iadd _,codeAny_builtin F.entry_list_iadd ?_);rw[Ju.under_plainId F.plain_list_iadd _];show Jw _ A.in1 (Jl.List.listExtendWith (.ref ↥s) (.ref r)<|.ref ↥s) _ _ _
 have hS:(s.heap.push {cls:=.type "list",data:=.seq ([]:↑Jk).toArray}).get? ↥s=some {cls:=.type "list",data:=.seq #[] 0}:=FM _ rfl
 refine J3 (wpAny_extend_range (A:=A) (R:=λre s'=>∃h' tk acc' c' ,re=.ok (.ret<|.ref ↥s)/\s'={s with heap:=h',toks:=tk}/\(∀b o' ,s.heap.get? b=`o'->h'.get? b=`o')/\h'.get? ↥s=some {cls:=.type "list",dict:=none,data:=.seq acc' c',slots:= #[]}/\ItemsOf (λi v=>∃t ,v=.int (a+i*c) t) acc' n)
  (s:={s with heap:=s.heap.push {cls:=.type "list",data:=.seq ([]:↑Jk).toArray}}) hh (Fx _ hr) hsmall hn hlen _ _ 0 hS λh' tk acc' c' hk hS' hacc=>(h',tk,acc',c',rfl,rfl,λb o' hb=>hk b o' (FJ<|Fy hb)<|Fx _ hb,hS',hacc)) (λfin s' h=>?_) (λe s' h=>?_)
 .have fin':∀ {re:Result}{s':Js},(∃h' tk acc' c' ,re=.ok (.ret<|.ref ↥s)/\s'={s with heap:=h',toks:=tk}/\(∀b o' ,s.heap.get? b=`o'->h'.get? b=`o')/\h'.get? ↥s=some {cls:=.type "list",dict:=none,data:=.seq acc' c',slots:= #[]}/\ItemsOf (λi v=>∃t ,v=.int (a+i*c) t) acc' n)->re=.ok (.ret<|.ref ↥s)/\Jw (Jx prog w) A (match Jk.ref ↥s with
   |Jk.ref a=>do
    match (<-load a).data with|Data.seq xs _=>pure xs.toList|_=>unsupported "internal:collect"
   |_=>unsupported "internal:collect") Q E s':=by
   rintro re s' ⟨h',tk,acc',c',rfl,rfl,hk,hS',hacc⟩
   refine(rfl,?_);show Jw _ A (load ↥s>>=_) _ _ _;refine Jy<|wpAny_load hS' ?_;exact JC<|hQ h' tk acc' hk hacc
  cases fin with
  |done f=>
   let(e,q):=fin' h;cases e;exact q
  |again c'=>exact(h.1,Ko h.2 λre s'' hr=>by
   let(e,q):=fin' hr;subst e
   exact q)
 let(_,_,_,_,e,_):=h;cases e
end
def f8 (r:Jq)(a b c:Int)(t u v:Tok)(n:Nat)(hsmall:Jl.Range.small a b c=true)(hn:Jl.Range.rangeSize a b c=n)(hlen:n<=2^24)(hz:n<=sizeLine):
  Meets (Jl.«tuple.__new__» ([.type "tuple",.ref r],[]))
   (λA R s=>A.handled=none/\IsRange s.heap r a b c t u v/\∀ (h':Jp) (tk:Nat) (acc':Array Jk) ,(∀b o' ,s.heap.get? b=`o'->h'.get? b=`o')->ItemsOf (λi v=>∃t ,v=.int (a+i*c) t) acc' n->R (.ok<|.ret<|.ref h'.objs.size) {s with heap:=h'.push {cls:=.type "tuple",data:=.seq acc'},toks:=tk}):=
 .of_wp λprog w A R s h=>by
  let(hp,g,d,tk,os):=s;let(hh,ht,h):=h;have hsub:=sub_tuple_self;have hinit:=init_tuple_lookup;have hmh:=madeHere_tuple;have hT:Js.TypeIs (hp,g,d,tk,os) (.ref r) "range":=(_,ht,rfl)
  wp_walk using wpAny_loadPart' ht,wpAny_typeOf hT,j6 (A:=A.in1) hh ht hsmall hn hlen
  intro h' tk' acc' hk hacc;show Jw _ _ (Jl.Tuple.tupleExact acc'.toList.toArray>>=λv=>ret v) _ _ _;unfold Jl.Tuple.tupleExact;refine Jy<|Kv ?_ (by show acc'.toList.toArray.size<=sizeLine;have:=hacc.1;simp only[Hf];omega);refine JC (_,rfl,?_);have e:acc'.toList.toArray=acc':=⇑_;rw[e];exact h h' tk' acc' hk hacc
section
variable {prog:Jn}{w:Jo}{A:Ju}{E:Jk->Js->Prop}{s:Js}
def dL {a b c:Int}{n:Nat}{Q:Jk->Js->Prop}(hh:A.handled=none)(hr:IsRange s.heap r a b c t u v)(hsmall:Jl.Range.small a b c=true)
  (hn:Jl.Range.rangeSize a b c=n)(hlen:n<=2^24)(hz:n<=sizeLine)
  (h:∀ (h':Jp) (tk:Nat) (acc':Array Jk) ,(∀b o' ,s.heap.get? b=`o'->h'.get? b=`o')->ItemsOf (λi v=>∃t ,v=.int (a+i*c) t) acc' n->Q (.ref h'.objs.size) {s with heap:=h'.push {cls:=.type "tuple",data:=.seq acc'},toks:=tk}):
  Jw (Jx prog w) A (call (.type "tuple") [.ref r]) Q E s:=
 callType_new F.called_tuple ↥_ (F.typeCall_tuple_1 _) (F.newCall_tuple_1 _) (λobj=>F.args_object_init_2 obj _) F.entry_tuple_new
  (f8 r a b c t u v n hsmall hn hlen hz) (hh,hr,λh' tk acc' hk hacc=>((_,FM _ rfl,rfl),h h' tk acc' hk hacc))
end
noncomputable def tTR (ta:TA):TE:=λσ H Q=>ta σ H λvs H1=>∃i j:Int,vs=[.int i,.int j]/\(-(2^62)<=i/\i<2^62/\ -(2^62)<=j/\j<2^62)/\(j-i).toNat<=sizeLine/\∀l,H1 l=none->Q (.ref l) (upd H1 l<|.tup<|Mx i (j-i).toNat)
section
variable {X:Cx}{E:XK}{a b:Expr}{p p2 pos pos2:JY}
def sE (hc:X.calm=true)(hgl:Gl X "tuple")(hml:X.mg "tuple"=none)(hg:Gl X "range")(hm:X.mg "range"=none)(ha:PA X [a,b] ta)(hs:J1 [a,b] X.env=[(false ,JX a X.env),(false ,JX b X.env)]:=by rfl)(hs2:J1 [b] X.env=[(false ,JX b X.env)]:=by rfl)
  (he:J1 [.Call (.Name "range" p2) [a,b] [] pos2] X.env=(false ,JX (.Call (.Name "range" p2) [a,b] [] pos2) X.env)::J1 [] X.env:=by rfl)(hpl:(JZ pos<|J1 [] X.env).any (·.1)=false:=by rfl):
  PE X (.Call (.Name "tuple" p) [.Call (.Name "range" p2) [a,b] [] pos2] [] pos) (tTR ta):=by
 intro P4 s σ H Q I h;refine Kq<|bu I hgl hml PyProof.Rows.boot_tuple ?_ ↥_ ↥_;refine PyProof.Rows.callWith_type1 ?_ he hpl;rw[he];refine Calls.spliced_cons ?_;refine Call_ (bu I hg hm boot_range<|PyProof.Rows.callWith_type1 (thn (ha pos2 P4 s σ H _ I h) λus s1 qz=>?_) (by rw[hs,hs2])<|by rw[hs2];rfl);let(vs,H1,I1,r1,q1):=qz;let(i,j,e,(q1,q2,q3,q4),hz,q):=q1;subst e;cases r1 with
 |cons r rr=>
  cases rr with
  |cons r' rr=>
   cases rr;let(t,rfl):=r;let(t',rfl):=r';refine call_range_2<|Calls.spliced_nil ?_;have I2:Inv X P4 σ H1 {s1 with heap:=s1.heap.push {cls:=.type "range",data:=.fields #[.int i t,.int j t',.int 1 s1.toks]},toks:=s1.toks+1}:=I1.kept λb o e=>Fx _ e;have hn:Jl.Range.rangeSize i j 1=((j-i).toNat:Int):=by rw[rangeSize_one];split<;>omega
   refine dL (I2.ok.hd hc) (IsRange.new ..) (small_one q1 q2 q3 q4) hn (F1 hz ↥_) hz λh' tk acc' hk hacc=>?_;have vs:Vals (Mx i (j-i).toNat) acc'.toList:=c8 _ _ _ (by rw[F6,hacc.1]) λk v e=>by let(t,e):=hacc.2 k v (by rw[<-Gb];exact e);exact(t,by rw[e];congr 1;omega)
   have I3:Inv X P4 σ H1 {s1 with heap:=h',toks:=tk}:=I2.kept (t':=tk) hk;exact(.ref _,_,I3.laid (t':=tk) (λb o e=>Fx _ e) (Fw _) (show ObjOk X.prog X.w _ (h'.push {cls:=.type "tuple",data:=.seq acc'}) _ (.tup<|Mx i (j-i).toNat) from(by rw[dH];exact hz,acc'.toList,vs,by rw[Hf];exact IsTupD.new _ _)),rfl,q _<|I3.hok.fresh<|Fw _)
noncomputable def trW (ws:↑W):M W:=match ws with|[.int i,.int j]=>gd ((-(2^62)<=i/\i<2^62/\ -(2^62)<=j/\j<2^62)/\(j-i).toNat<=sizeLine) (pr<|.tup<|My i (j-i).toNat)|_=>no
def sY {l:KU->M ↑W}(hc:X.calm=true)(hml:X.mg "tuple"=none)(hm:X.mg "range"=none)(ha:JA X E [a,b] l)(hgl:Gl X "tuple")(hg:Gl X "range")(hs:J1 [a,b] X.env=[(false ,JX a X.env),(false ,JX b X.env)])(hs2:J1 [b] X.env=[(false ,JX b X.env)])
  (he:J1 [.Call (.Name "range" p2) [a,b] [] pos2] X.env=(false ,JX (.Call (.Name "range" p2) [a,b] [] pos2) X.env)::J1 [] X.env)(hpl:(JZ pos<|J1 [] X.env).any (·.1)=false):JE X E (.Call (.Name "tuple" p) [.Call (.Name "range" p2) [a,b] [] pos2] [] pos) (Ng trW l):=
 (sE hc hgl hml hg hm ha.h hs hs2 he hpl).imp λσ H Q h=>by
  let(o,ρ,rfl,R,S,h):=h;refine(o,ρ,rfl,R,S,Ps.bd h λp x vx e1 R1 r1 h1=>?_);unfold trW at h1;split at h1;let(v,u,rfl,r,ru):=r1.two;let(hz,h1):=h1.gd;exact(_,_,by rw[OE.mp r,OE.mp ru],hz.1,hz.2,λl hl=>fk R1 hl (dE _ _) h1);exact h1.elim
end
end
end L2
namespace Sp
open PySem PySem.W PyProof.Rows
section
variable {prog:Jn}{w:Jo}{A:Ju}{E:Jk->Js->Prop}{s:Js}{κ:SortKind}{it:↑Keyed}
def Cmp (prog:Jn)(w:Jo)(A:Ju)(s:Js)(κ:SortKind)(it:↑Keyed):Prop:=
 ∀x∈it,∀y∈it,∀Q:Bool->Js->Prop,(∀b ,Q b s)->Jw (Jx prog w) A (keyLt' κ x.1 y.1) Q (λJ J=>False) s
abbrev ss (κ:SortKind)(a:Array Keyed)(pe:Array (Nat×Nat×Nat))(g:Nat):SortSt:=SortSt.mk' κ a pe g none
def In (it:↑Keyed)(a:Array Keyed):Prop:=∀y∈a.toList,y∈it
def i8 {σ α:Type}{M:Model}{c:Prop} [Decidable c] {x y:StateT σ Sem α}{R:α->σ->Prop}{st:σ}(h:c)(q:wpS M A E s x R st):wpS M A E s (if c then x else y) R st:=by rw[np h];exact q
def gN {σ α:Type}{M:Model}{c:Prop} [Decidable c] {x y:StateT σ Sem α}{R:α->σ->Prop}{st:σ}(h:¬c)(q:wpS M A E s y R st):wpS M A E s (if c then x else y) R st:=by rw[gV h];exact q
def ay {σ α:Type}{M:Model}{c:Prop} [Decidable c] {x y:StateT σ Sem α}{R:α->σ->Prop}{st:σ}(q:c->wpS M A E s x R st)(q':¬c->wpS M A E s y R st):wpS M A E s (if c then x else y) R st:=by
 by_cases h:c;exact i8 h<|q h;exact gN h<|q' h
def cJ {σ β:Type}{M:Model}{a b:Nat}{f:Nat->β->StateT σ Sem (ForInStep β)}(I:Nat->β->σ->Prop)(R:β->σ->Prop){Q:β->σ->Prop}{c:β}{st:σ}(h:I a c st)
 (hs:∀i c st ,a<=i->i<b->I i c st->wpS M A E s (f i c) (λr st'=>match r with|.done c'=>R c' st'|.yield c'=>I (i+1) c' st') st)
 (he:∀c st ,I (max a b) c st->R c st)(k:∀c st ,R c st->Q c st):wpS M A E s (forIn [a:b] c f) Q st:=wpS_mono (wpS_forRange I hs he h) k
variable {a:Array Keyed}{pe:Array (Nat×Nat×Nat)}{g:Nat}
def aT {i:Nat}{Q:Keyed->SortSt->Prop}{st:SortSt}(hx:In it x)(hi:i<x.size)(k:∀y ,y∈it->x[i]?=`y->Q y st):wpS (Jx prog w) A E s (elem' x i) Q st:=by rw[elem'_eq,getElem?_pos x i hi];exact wpS_pure<|k _ (hx _ ⇑_)<|getElem?_pos x i hi
def vF (H:Cmp prog w A s κ it){Q:Option Bool->SortSt->Prop}(hx:x∈it)(hy:y∈it)(k:∀b ,Q `b<|ss κ a pe g):wpS (Jx prog w) A E s (lt' x y) Q (ss κ a pe g):=by rw[lt'_eq];refine wpS_bind<|wpS_get ?_;refine wpS_bind (wpS_lift<|wpAny_attempt<|J3 (H x hx y hy (λJ s'=>s'=s)<|λJ=>rfl) (λr s' hr=>?_) λJ J z=>z.elim);subst hr;exact(rfl,wpS_pure<|k _)
def lW (hp:a.toList.Perm it):In it a:=λJ hy=>hp.mem_iff.mp hy
def gR (H:Cmp prog w A s κ it){i j:Nat}{Q:Option Bool->SortSt->Prop}(hp:a.toList.Perm it)(hi:i<a.size)(hj:j<a.size)(k:∀b ,Q `b<|ss κ a pe g):wpS (Jx prog w) A E s (ltAt' i j) Q (ss κ a pe g):=by rw[ltAt'_eq];refine wpS_bind<|wpS_get ?_;show wpS _ _ _ _ (do let x<-elem' a i;let y<-elem' a j;lt' x y) Q _;exact wpS_bind (aT (lW hp) hi λy hy J=>wpS_bind<|aT (lW hp) hj λz hz J=>vF H hy hz k)
def dh {b:Array Keyed}(hp:a.toList.Perm it)(hq:b.toList.Perm it):b.size=a.size:=by have:=hp.length_eq;have:=hq.length_eq;simp at*;omega
def qH (hp:a.toList.Perm it)(i j d:Nat):(mirror a i j d).toList.Perm it:=(IP.mp<|mirror_perm a i j d).trans hp
def DO (hp:a.toList.Perm it)(i d:Nat):(bubble a i d).toList.Perm it:=(IP.mp<|bubble_perm a i d).trans hp
def yG (H:Cmp prog w A s κ it){lo r:Nat}{Q:Option Nat->SortSt->Prop}(hp:a.toList.Perm it)(h1:1<=r)(hr:lo+r<=a.size)(q:∀k a' ,1<=k->k<=r->a'.toList.Perm it->Q `k (ss κ a' pe g)):wpS (Jx prog w) A E s (countRun' lo r) Q (ss κ a pe g):=by
 rw[countRun'_eq];refine wpS_bind (cJ (λi c st=>c=(none ,i)/\st=ss κ a pe g) (λc st=>∃n ,c=(none ,n)/\1<=n/\n<=r/\st=ss κ a pe g) (rfl,rfl) (λi c st hi hr I=>?_) (λc st I=>?_) λc st I=>?_)
 .let(rfl,rfl):=I;dsimp only;refine wpS_bind (gR H hp ∅ ∅ λb=>?_);cases b with|true=>exact wpS_pure (i,rfl,hi,∅,rfl)|false=>exact wpS_pure (rfl,rfl)
 let(rfl,rfl):=I;exact(_,rfl,∅,∅,rfl)
 .let(n,rfl,n1,n2,rfl):=I;dsimp only;refine ay (λJ=>wpS_pure<|q n a n1 n2 hp) λz=>?_;have z:n≠r:=by simpa using z
  have D:∀a',a'.toList.Perm it->wpS (Jx prog w) A E s (do
    liftM (rule "list.sort.descending-run")
    let mut n:=n+1;let mut neq:=0
    for _ in [n:r] do
     let some smaller<-ltAt' (lo+n) (lo+n-1)|return none
     if smaller then
      if neq>0 then reverseSlice' (lo+n-(neq+1)) (lo+n)
      neq:=0
     else
      let some larger<-ltAt' (lo+n-1) (lo+n)|return none
      if larger then break
      neq:=neq+1
     n:=n+1
    if neq>0 then reverseSlice' (lo+n-(neq+1)) (lo+n)
    reverseSlice' lo (lo+n)
    for _ in [n:r] do
     let some smaller<-ltAt' (lo+n) (lo+n-1)|return none
     if smaller then break
     n:=n+1
    return `n) Q (ss κ a' pe g):=λa' pa=>by
   refine wpS_bind<|wpS_lift<|JD (rfl,?_);refine wpS_bind (cJ (λi c st=>∃m a' ,c=(none ,i,m)/\st=ss κ a' pe g/\a'.toList.Perm it) (λc st=>∃n m a' ,c=(none ,n,m)/\1<=n/\n<=r/\st=ss κ a' pe g/\a'.toList.Perm it) (_,_,rfl,rfl,pa) (λi c st hi hr I=>?_) (λc st I=>?_) λc st I=>?_)
   .let(m,b,rfl,rfl,pb):=I;dsimp only;have sb:=dh hp pb;refine wpS_bind (gR H pb ∅ ∅ λc=>?_);cases c with
    |true=>
     dsimp only;refine i8 rfl (ay (λJ=>?_) λJ=>?_);rw[reverseSlice'_eq];exact wpS_bind<|wpS_modify<|wpS_pure (_,_,rfl,rfl,qH pb _ _ _);exact wpS_pure (_,_,rfl,rfl,pb)
    |false=>
     dsimp only;refine gN ⇑_ (wpS_bind<|gR H pb ∅ ∅ λc=>?_);cases c with|true=>exact wpS_pure (_,_,_,rfl,∅,∅,rfl,pb)|false=>exact wpS_pure (_,_,rfl,rfl,pb)
   let(m,b,rfl,rfl,pb):=I;exact(_,_,_,rfl,∅,∅,rfl,pb)
   .let(n,m,b,rfl,n1,n2,rfl,pb):=I;dsimp only
    have T:∀a',a'.toList.Perm it->wpS (Jx prog w) A E s (do
      reverseSlice' lo (lo+n)
      let mut n:=n
      for _ in [n:r] do
       let some smaller<-ltAt' (lo+n) (lo+n-1)|return none
       if smaller then break
       n:=n+1
      return `n) Q (ss κ a' pe g):=λa' pa=>by
     rw[reverseSlice'_eq];refine wpS_bind<|wpS_modify ?_;have pm:=qH pa lo (lo+n)<|(lo+n-lo) / 2;have sm:=dh hp pm;show wpS _ _ _ _ _ _ (ss κ (mirror a' lo (lo+n)<|(lo+n-lo) / 2) pe g);generalize mirror a' lo (lo+n) ((lo+n-lo) / 2)=c at*;refine wpS_bind (cJ (λi d st=>d=(none ,i)/\st=ss κ c pe g) (λd st=>∃n ,d=(none ,n)/\1<=n/\n<=r/\st=ss κ c pe g) (rfl,rfl) (λi d st hi hr I=>?_) (λd st I=>?_) λd st I=>?_)
     .let(rfl,rfl):=I;dsimp only;refine wpS_bind (gR H pm ∅ ∅ λb=>?_);cases b with|true=>exact wpS_pure (i,rfl,∅,∅,rfl)|false=>exact wpS_pure (rfl,rfl)
     let(rfl,rfl):=I;exact(_,rfl,∅,∅,rfl);let(n,rfl,n1,n2,rfl):=I;exact wpS_pure<|q n c n1 n2 pm
    refine ay (λJ=>?_) λJ=>T b pb;rw[reverseSlice'_eq];exact wpS_bind<|wpS_modify<|T _<|qH pb _ _ _
  refine ay (λJ=>wpS_bind<|gR H hp ∅ ∅ λb=>?_) λJ=>D a hp;cases b with
  |true=>exact wpS_pure<|q n a n1 n2 hp
  |false=>
   rw[reverseSlice'_eq];exact wpS_bind<|wpS_modify<|D _<|qH hp _ _ _
def DP (H:Cmp prog w A s κ it){lo m ok:Nat}{Q:Bool->SortSt->Prop}(hp:a.toList.Perm it)(hm:lo+m<=a.size)(q:∀a' ,a'.toList.Perm it->Q true (ss κ a' pe g)):wpS (Jx prog w) A E s (binarySort' lo m ok) Q (ss κ a pe g):=by
 rw[binarySort'_eq];refine wpS_bind (cJ (λi c st=>∃a' ,c=(none ,())/\st=ss κ a' pe g/\a'.toList.Perm it) (λc st=>∃a' ,c=(none ,())/\st=ss κ a' pe g/\a'.toList.Perm it) (a,rfl,rfl,hp) (λk c st hi hr I=>?_) (λc st I=>I) λc st I=>?_)
 .let(b,rfl,rfl,pb):=I;have sb:=dh hp pb;dsimp only;refine wpS_bind (cJ (λi c st=>∃l r ,c=(none ,l,r)/\r<=k/\st=ss κ b pe g) (λc st=>∃l r ,c=(none ,l,r)/\r<=k/\st=ss κ b pe g) (_,_,rfl,Fw _,rfl) (λi c st J J I=>?_) (λc st I=>I) λc st I=>?_)
  .let(l,r,rfl,rk,rfl):=I;dsimp only;refine ay (λJ=>wpS_pure (_,_,rfl,rk,rfl)) λz=>wpS_bind (gR H pb ∅ ∅ λc=>?_);cases c with|true=>exact wpS_pure (_,_,rfl,∅,rfl)|false=>exact wpS_pure (_,_,rfl,rk,rfl)
  let(l,r,rfl,rk,rfl):=I;show wpS _ _ _ _ (do moveDown' (lo+k) (lo+l);pure (ForInStep.yield (none ,()))) _ _;rw[moveDown'_eq];exact wpS_bind<|wpS_modify<|wpS_pure (_,rfl,rfl,DO pb _ _)
 let(b,rfl,rfl,pb):=I;exact wpS_pure<|q b pb
end
section
noncomputable def Ml:Bool->Keyed->Array Keyed->Nat->Nat->Nat->StateT SortSt Sem (Option Nat):=sortPriv%PySem.Builtin.gallop
noncomputable def smg0:Nat->StateT SortSt Sem Unit:=sortPriv%PySem.Builtin.setMinGallop
noncomputable def mlo0:Array Keyed->Array Keyed->StateT SortSt Sem (Array Keyed):=sortPriv%PySem.Builtin.mergeLo
noncomputable def mhi0:Array Keyed->Array Keyed->StateT SortSt Sem (Array Keyed):=sortPriv%PySem.Builtin.mergeHi
section
variable {prog:Jn}{w:Jo}{A:Ju}{E:Jk->Js->Prop}{s:Js}{κ:SortKind}{it:↑Keyed}
variable {c:Array Keyed}{pe:Array (Nat×Nat×Nat)}{g:Nat}
def qI (H:Cmp prog w A s κ it){left:Bool}{i:Nat}{Q:Option Bool->SortSt->Prop}(hk:key∈it)(hx:In it x)(hi:i<x.size)(q:∀b ,Q `b<|ss κ c pe g):
  wpS (Jx prog w) A E s (do let y<-elem' x i;if left=true then lt' y key else do let r<-lt' key y;pure (r.map (!·))) Q (ss κ c pe g):=
 wpS_bind (aT hx hi λy hy J=>ay (λJ=>vF H hy hk q) λJ=>wpS_bind<|vF H hk hy λb=>wpS_pure<|q _)
def kI (H:Cmp prog w A s κ it){left:Bool}{base n hint:Nat}{Q:Option Nat->SortSt->Prop}(hk:key∈it)(hx:In it x)(hn:base+n<=x.size)(hh:hint<n)(q:∀k ,k<=n->Q `k (ss κ c pe g)):
  wpS (Jx prog w) A E s (Ml left key x base n hint) Q (ss κ c pe g):=by
 have half:∀lo hi,hi<=n->wpS (Jx prog w) A E s (do
   let mut lo:=lo;let mut hi:=hi
   for _ in [0:n] do
    if lo≥hi then break
    let m:=lo+(hi-lo) / 2
    let some more<-(do let y<-elem' x (base+m);if left=true then lt' y key else do let r<-lt' key y;pure (r.map (!·)))|return none
    if more then lo:=m+1 else hi:=m
   return `hi) Q (ss κ c pe g):=λlo hi hh=>by
  refine wpS_bind (cJ (λi d st=>∃lo hi ,d=(none ,lo,hi)/\hi<=n/\st=ss κ c pe g) (λd st=>∃lo hi ,d=(none ,lo,hi)/\hi<=n/\st=ss κ c pe g) (_,_,rfl,hh,rfl) (λi d st J J I=>?_) (λd st I=>I) λd st I=>?_)
  .let(lo,hi,rfl,h,rfl):=I;dsimp only;refine ay (λJ=>wpS_pure (_,_,rfl,h,rfl)) λz=>wpS_bind (qI H hk hx ∅ λb=>?_);cases b with|true=>exact wpS_pure (_,_,rfl,h,rfl)|false=>exact wpS_pure (_,_,rfl,∅,rfl)
  let(lo,hi,rfl,h,rfl):=I;exact wpS_pure<|q hi h
 unfold Ml;refine wpS_bind (qI H hk hx ∅ λb=>?_);cases b with
 |true=>
  refine i8 rfl (wpS_bind<|cJ (λi d st=>∃la o ,d=(none ,la,o)/\st=ss κ c pe g) (λd st=>∃la o ,d=(none ,la,o)/\st=ss κ c pe g) (_,_,rfl,rfl) (λi d st J J I=>?_) (λd st I=>I) λd st I=>?_)
  .let(la,o,rfl,rfl):=I;dsimp only;refine ay (λJ=>wpS_pure (_,_,rfl,rfl)) λz=>wpS_bind (qI H hk hx ∅ λb=>?_);cases b with|true=>exact wpS_pure (_,_,rfl,rfl)|false=>exact wpS_pure (_,_,rfl,rfl)
  let(la,o,rfl,rfl):=I;exact half _ _ ∅
 |false=>
  refine gN ⇑_ (wpS_bind<|cJ (λi d st=>∃la o ,d=(none ,la,o)/\st=ss κ c pe g) (λd st=>∃la o ,d=(none ,la,o)/\st=ss κ c pe g) (_,_,rfl,rfl) (λi d st J J I=>?_) (λd st I=>I) λd st I=>?_)
  .let(la,o,rfl,rfl):=I;dsimp only;refine ay (λJ=>wpS_pure (_,_,rfl,rfl)) λz=>wpS_bind (qI H hk hx ∅ λb=>?_);cases b with|true=>exact wpS_pure (_,_,rfl,rfl)|false=>exact wpS_pure (_,_,rfl,rfl)
  let(la,o,rfl,rfl):=I;exact half _ _ ∅
section
variable {a b out:Array Keyed}{T:↑Keyed}{i j:Nat}
def Left (a b:Array Keyed)(T:↑Keyed)(out:Array Keyed)(i j:Nat):Prop:=(out.toList++(a.toList.drop i++b.toList.drop j)).Perm T
def Left.a1 (h:Left a b T out i j)(e:a[i]?=`x):Left a b T (out.push x) (i+1) j:=by
 unfold Left at h ⊢;have e':a.toList[i]?=`x:=by rw[Gb];exact e
 let(hi,e2):=FD.mp e';rw[He hi,e2]at h;simpa using h
def Left.b1 (h:Left a b T out i j)(e:b[j]?=`x):Left a b T (out.push x) i (j+1):=by
 unfold Left at h ⊢;have e':b.toList[j]?=`x:=by rw[Gb];exact e
 let(hi,e2):=FD.mp e';rw[He hi,e2]at h;refine FO.trans ?_ h;rw[Iv,FZ];exact (List.perm_middle (l₁:=a.toList.drop i)).symm.append_left _
def Left.ak (h:Left a b T out i j)(k:Nat):Left a b T (out++a.extract i (i+k)) (i+k) j:=by
 unfold Left at h ⊢;have:a.toList.drop i=(a.toList.drop i).take k++a.toList.drop (i+k):=by rw[<-HN,Hz]
 rw[this]at h;have e:(a.extract i<|i+k).toList=(a.toList.drop i).take k:=⇑_;rw[Gw,e];simpa using h
def Left.bk (h:Left a b T out i j)(k:Nat):Left a b T (out++b.extract j (j+k)) i (j+k):=by
 unfold Left at h ⊢;have:b.toList.drop j=(b.toList.drop j).take k++b.toList.drop (j+k):=by rw[<-HN,Hz]
 rw[this]at h;have e:(b.extract j<|j+k).toList=(b.toList.drop j).take k:=⇑_;refine FO.trans ?_ h;rw[Gw,e,FZ];exact (Iw ..).append_left _
def iF (a:Array Keyed)(i:Nat):(a.extract i a.size).toList=a.toList.drop i:=by have:(a.extract i a.size).toList=(a.toList.drop i).take (a.size-i):=⇑_;rw[this,Hs ⇑_]
def Left.done (h:Left a b T out i j):(out++a.extract i a.size++b.extract j b.size).toList.Perm T:=by unfold Left at h;rw[Gw,Gw,iF,iF,FZ];exact h
def Left.last (h:Left a b T out i j):(out++b.extract j b.size++a.extract i a.size).toList.Perm T:=by unfold Left at h;refine FO.trans ?_ h;rw[Gw,Gw,iF,iF,FZ];exact GI.append_left _
abbrev M7:=Option (Array Keyed)×Array Keyed×Nat×Nat×Nat×Nat×Nat
structure Rk (κ:SortKind)(c:Array Keyed)(pe:Array (Nat×Nat×Nat))(a b:Array Keyed)(T:↑Keyed)(n:Nat)(R:ForInStep M7->SortSt->Prop):Prop where
 r1:∀r out i j m ac bc g,r.toList.Perm T->R (.done (`r ,out,i,j,m,ac,bc)) (ss κ c pe g)
 r2:∀out i j m ac bc g,Left a b T out i j->i+1<a.size->j<b.size->n<=i+j->R (.done (none ,out,i,j,m,ac,bc)) (ss κ c pe g)
 r3:∀out i j m ac bc g,Left a b T out i j->i+1<a.size->j<b.size->n<=i+j->R (.yield (none ,out,i,j,m,ac,bc)) (ss κ c pe g)
variable {n m ac bc k:Nat}{R:ForInStep M7->SortSt->Prop}
noncomputable def q3 (a b out:Array Keyed)(i j m ac bc:Nat):StateT SortSt Sem (ForInStep M7):=elem' a i>>=λy=>
 if (i+1+1==a.size)=true then pure (.done (some (out.push y++b.extract j b.size++a.extract (i+1) a.size) ,out.push y,i+1,j,m,ac,bc))
 else if (decide (ac<7)&&decide (bc<7))=true then pure (.done (none ,out.push y,i+1,j,m,ac,bc)) else pure (.yield (none ,out.push y,i+1,j,m,ac,bc))
def DH (K:Rk κ c pe a b T n R)(ha:In it a)(L:Left a b T out i j)(hi:i+1<a.size)(hj:j<b.size)(hn:n<=i+j):wpS (Jx prog w) A E s (q3 a b out i j m ac bc) R (ss κ c pe g):=by refine wpS_bind (aT ha ∅ λx' J ex'=>?_);have L4:=L.a1 ex';refine ay (λJ=>wpS_pure<|K.r1 _ _ _ _ _ _ _ _ L4.last) λz4=>?_;rw[beq_iff_eq]at z4;exact ay (λJ=>wpS_pure<|K.r2 _ _ _ _ _ _ _ L4 ∅ ∅ ∅) λJ=>wpS_pure<|K.r3 _ _ _ _ _ _ _ L4 ∅ ∅ ∅
noncomputable def q2 (a b out:Array Keyed)(i j m ac k:Nat):StateT SortSt Sem (ForInStep M7):=if k>0 then
  if (j+k==b.size)=true then pure (.done (some (out++b.extract j (j+k)++a.extract i a.size++b.extract (j+k) b.size) ,out++b.extract j (j+k),i,j+k,m,ac,k))
  else q3 a b (out++b.extract j (j+k)) i (j+k) m ac k
 else q3 a b out i j m ac k
def E6 (K:Rk κ c pe a b T n R)(ha:In it a)(L:Left a b T out i j)(hi:i+1<a.size)(hj:j<b.size)(hk:k<=b.size-j)(hn:n<=i+j):wpS (Jx prog w) A E s (q2 a b out i j m ac k) R (ss κ c pe g):=by refine ay (λJ=>?_) λJ=>DH K ha L hi hj hn;refine ay (λJ=>wpS_pure<|K.r1 _ _ _ _ _ _ _ _ (L.bk k).done) λz3=>?_;rw[beq_iff_eq]at z3;exact DH K ha (L.bk k) hi ∅ ∅
noncomputable def q1 (a b out:Array Keyed)(i j m ac bc:Nat):StateT SortSt Sem (ForInStep M7):=elem' b j>>=λy=>
 if (j+1==b.size)=true then pure (.done (some (out.push y++a.extract i a.size++b.extract (j+1) b.size) ,out.push y,i,j+1,m,ac,bc))
 else elem' a i>>=λx=>Ml true x b (j+1) (b.size-(j+1)) 0>>=λo=>match o with|some k=>q2 a b (out.push y) i (j+1) m ac k|x=>pure<|.done (some (out.push y++a.extract i a.size++b.extract (j+1) b.size) ,out.push y,i,j+1,m,ac,bc)
def DI (H:Cmp prog w A s κ it)(K:Rk κ c pe a b T n R)(ha:In it a)(hb:In it b)(L:Left a b T out i j)(hi:i+1<a.size)(hj:j<b.size)(hn:n<=i+j):wpS (Jx prog w) A E s (q1 a b out i j m ac bc) R (ss κ c pe g):=by refine wpS_bind (aT hb hj λy' J ey'=>?_);have L2:=L.b1 ey';refine ay (λJ=>wpS_pure<|K.r1 _ _ _ _ _ _ _ _ L2.done) λz2=>?_;rw[beq_iff_eq]at z2;exact wpS_bind (aT ha ∅ λx hx ex=>wpS_bind<|kI H hx hb ∅ ∅ λk2 hk2=>E6 K ha L2 hi ∅ hk2 ∅)
noncomputable def q0 (a b out:Array Keyed)(i j m ac k:Nat):StateT SortSt Sem (ForInStep M7):=if k>0 then
  if (i+k+1==a.size)=true then pure (.done (some (out++a.extract i (i+k)++b.extract j b.size++a.extract (i+k) a.size) ,out++a.extract i (i+k),i+k,j,m,k,ac))
  else if (i+k==a.size)=true then pure (.done (some (out++a.extract i (i+k)++a.extract (i+k) a.size++b.extract j b.size) ,out++a.extract i (i+k),i+k,j,m,k,ac))
  else q1 a b (out++a.extract i (i+k)) (i+k) j m k ac
 else q1 a b out i j m k ac
def E7 (H:Cmp prog w A s κ it)(K:Rk κ c pe a b T n R)(ha:In it a)(hb:In it b)(L:Left a b T out i j)(hi:i+1<a.size)(hj:j<b.size)(hk:k<=a.size-i)(hn:n<=i+j):wpS (Jx prog w) A E s (q0 a b out i j m ac k) R (ss κ c pe g):=by refine ay (λJ=>?_) λJ=>DI H K ha hb L hi hj hn;refine ay (λJ=>wpS_pure<|K.r1 _ _ _ _ _ _ _ _ (L.ak k).last) λz=>ay (λJ=>wpS_pure<|K.r1 _ _ _ _ _ _ _ _ (L.ak k).done) λz'=>?_;rw[beq_iff_eq]at z z';exact DI H K ha hb (L.ak k) ∅ hj ∅
noncomputable def qg (a b out:Array Keyed)(i j m ac bc:Nat):StateT SortSt Sem (ForInStep M7):=smg0 m>>=λJ=>elem' b j>>=λy=>Ml false y a i (a.size-i) 0>>=λo=>match o with|some k=>q0 a b out i j m bc k|x=>pure<|.done (some (out++a.extract i a.size++b.extract j b.size) ,out,i,j,m,ac,bc)
def DG (H:Cmp prog w A s κ it)(ha:In it a)(hb:In it b)(L:Left a b T out i j)(hi:i+1<a.size)(hj:j<b.size)(hn:n<=i+j)(K:Rk κ c pe a b T n R):wpS (Jx prog w) A E s (qg a b out i j m ac bc) R (ss κ c pe g):=
 wpS_bind (wpS_modify<|wpS_bind<|aT hb hj λy hy ey=>wpS_bind<|kI H hy ha ∅ ∅ λk hk=>E7 H K ha hb L hi hj hk hn)
def DJ (H:Cmp prog w A s κ it){Q:Array Keyed->SortSt->Prop}(ha:In it a)(hb:In it b)(a1:1<=a.size)(b1:1<=b.size)(hT:T=a.toList++b.toList)(q:∀r g ,r.toList.Perm T->Q r (ss κ c pe g)):wpS (Jx prog w) A E s (mlo0 a b) Q (ss κ c pe g):=by
 have L0:Left a b T #[] 0 0:=by unfold Left;subst hT;simp
 unfold mlo0;refine wpS_bind<|wpS_lift<|JD (rfl,?_);refine wpS_bind (aT hb b1 λy hy ey=>?_);have L1:Left a b T #[y] 0 1:=L0.b1 ey;refine ay (λJ=>wpS_pure<|q _ _ L1.done) λz1=>ay (λJ=>wpS_pure<|q _ _ L1.last) λz2=>?_;have z1:1≠b.size:=by simpa using z1
 have z2:0+1≠a.size:=by simpa using z2
 refine wpS_bind<|wpS_get ?_;refine wpS_bind (cJ (λn d st=>∃out i j m g ,d=(none ,out,i,j,m)/\st=ss κ c pe g/\Left a b T out i j/\i+1<a.size/\j<b.size/\n<=i+j) (λd st=>∃r out i j m g ,d=(`r ,out,i,j,m)/\st=ss κ c pe g/\r.toList.Perm T) (_,_,_,_,_,rfl,rfl,L1,∅,∅,∅) (λn d st J nt I=>?_) (λd st I=>?_) λd st I=>?_)
 .let(out,i,j,m,g,rfl,rfl,L,hi,hj,hn):=I;dsimp only;refine wpS_bind (cJ (λn' d st=>∃out i' j' ac bc ,d=(none ,out,i',j',ac,bc)/\st=ss κ c pe g/\Left a b T out i' j'/\i'+1<a.size/\j'<b.size/\i+j+n'<=i'+j') (λd st=>∃o out i' j' ac bc ,d=(o ,out,i',j',ac,bc)/\st=ss κ c pe g/\((∃r ,o=`r/\r.toList.Perm T)\/(o=none/\Left a b T out i' j'/\i'+1<a.size/\j'<b.size/\i+j+1<=i'+j'))) (_,_,_,_,_,rfl,rfl,L,hi,hj,∅) (λn' d st J J I=>?_) (λd st I=>?_) λd st I=>?_)
  .let(out,i',j',ac,bc,rfl,rfl,L,hi,hj,hn):=I;dsimp only;refine wpS_bind (aT hb hj λy hy ey=>wpS_bind<|aT ha (show i'<a.size by omega) λx hx ex=>wpS_bind<|vF H hy hx λv=>?_);cases v with
   |true=>
    dsimp only;refine i8 rfl (wpS_bind<|aT hb hj λy' J ey'=>?_);have L2:=L.b1 ey';refine ay (λJ=>wpS_pure (_,_,_,_,_,_,rfl,rfl,.inl (_,rfl,L2.done))) λz=>?_;have z:j'+1≠b.size:=by simpa using z
    exact ay (λJ=>wpS_pure (_,_,_,_,_,_,rfl,rfl,.inr (rfl,L2,hi,∅,∅))) λJ=>wpS_pure (_,_,_,_,_,rfl,rfl,L2,hi,∅,∅)
   |false=>
    dsimp only;refine gN ⇑_ (wpS_bind<|aT ha (show i'<a.size by omega) λx' J ex'=>?_);have L2:=L.a1 ex';refine ay (λJ=>wpS_pure (_,_,_,_,_,_,rfl,rfl,.inl (_,rfl,L2.last))) λz=>?_;have z:i'+1+1≠a.size:=by simpa using z
    exact ay (λJ=>wpS_pure (_,_,_,_,_,_,rfl,rfl,.inr (rfl,L2,∅,hj,∅))) λJ=>wpS_pure (_,_,_,_,_,rfl,rfl,L2,∅,hj,∅)
  let(out,i',j',ac,bc,rfl,rfl,L,hi,hj,hn):=I;exact(_,_,_,_,_,_,rfl,rfl,.inr (rfl,L,hi,hj,∅))
  .obtain⟨o,out,i',j',ac,bc,rfl,rfl,⟨r,rfl,pr⟩|⟨rfl,L,hi,hj,hn'⟩⟩:=I;exact wpS_pure (_,_,_,_,_,_,rfl,rfl,pr)
   .dsimp only;refine wpS_bind<|wpS_lift<|JD (rfl,?_);refine wpS_bind (cJ (λn' d st=>∃out i' j' m ac bc g ,d=(none ,out,i',j',m,ac,bc)/\st=ss κ c pe g/\Left a b T out i' j'/\i'+1<a.size/\j'<b.size/\n+1<=i'+j') (λd st=>∃o out i' j' m ac bc g ,d=(o ,out,i',j',m,ac,bc)/\st=ss κ c pe g/\((∃r ,o=`r/\r.toList.Perm T)\/(o=none/\Left a b T out i' j'/\i'+1<a.size/\j'<b.size/\n+1<=i'+j'))) (_,_,_,_,_,_,_,rfl,rfl,L,hi,hj,∅) (λn' d st J J I=>?_) (λd st I=>?_) λd st I=>?_)
    .let(out,i,j,m,ac,bc,g,rfl,rfl,L,hi,hj,hn):=I;dsimp only;refine ay (λJ=>DG (m:=m-1) (ac:=ac) (bc:=bc) H ha hb L hi hj hn ?_) λJ=>DG (m:=m) (ac:=ac) (bc:=bc) H ha hb L hi hj hn ?_
     all_goals exact(λr out i j m ac bc g pr=>(_,_,_,_,_,_,_,_,rfl,rfl,.inl (r,rfl,pr)),λout i j m ac bc g L a1 b1 n1=>(_,_,_,_,_,_,_,_,rfl,rfl,.inr (rfl,L,a1,b1,n1)),λout i j m ac bc g L a1 b1 n1=>(_,_,_,_,_,_,_,rfl,rfl,L,a1,b1,n1))
    let(out,i,j,m,ac,bc,g,rfl,rfl,L,hi,hj,hn):=I;exact(_,_,_,_,_,_,_,_,rfl,rfl,.inr (rfl,L,hi,hj,hn))
    .obtain⟨o,out,i,j,m,ac,bc,g,rfl,rfl,⟨r,rfl,pr⟩|⟨rfl,L,hi,hj,hn⟩⟩:=I;exact wpS_pure (_,_,_,_,_,_,rfl,rfl,pr);refine wpS_bind<|wpS_modify<|wpS_pure (_,_,_,_,_,rfl,rfl,L,hi,hj,hn)
 let(out,i,j,m,g,rfl,rfl,L,hi,hj,hn):=I;omega;let(r,out,i,j,m,g,rfl,rfl,pr):=I;exact wpS_pure<|q r g pr
end
end
end
section
section
variable {prog:Jn}{w:Jo}{A:Ju}{E:Jk->Js->Prop}{s:Js}{κ:SortKind}{it:↑Keyed}
variable {c:Array Keyed}{pe:Array (Nat×Nat×Nat)}{g:Nat}
variable {a b out:Array Keyed}{T:↑Keyed}{i j:Nat}
def Lh (a b:Array Keyed)(T:↑Keyed)(out:Array Keyed)(i j:Nat):Prop:=(out.toList++(a.toList.take i++b.toList.take j)).Perm T
def Lh.a1 (h:Lh a b T out i j)(i0:0<i)(e:a[i-1]?=`x):Lh a b T (out.push x) (i-1) j:=by
 unfold Lh at h ⊢;have e':a.toList[i-1]?=`x:=by rw[Gb];exact e
 obtain⟨k,rfl⟩:∃k,i=k+1:=(i-1,∅)
 rw[Hh,show a.toList[k]?=`x from e']at h;refine FO.trans ?_ h;rw[Iv,FZ,Hi,FZ];exact (Iw ..).append_left _
def Lh.b1 (h:Lh a b T out i j)(i0:0<j)(e:b[j-1]?=`x):Lh a b T (out.push x) i (j-1):=by
 unfold Lh at h ⊢;have e':b.toList[j-1]?=`x:=by rw[Gb];exact e
 obtain⟨k,rfl⟩:∃k,j=k+1:=(j-1,∅)
 rw[Hh,show b.toList[k]?=`x from e']at h;refine FO.trans ?_ h;rw[Iv,FZ,Hi,<-FZ (a.toList.take i)];exact GI.append_left _
def rg (a:Array Keyed)(i:Nat):(a.extract 0 i).toList=a.toList.take i:=⇑_
def Ao (a:Array Keyed)(k i:Nat)(h:k<=i):(a.toList.take k++(a.extract k i).toList)=a.toList.take i:=by have e:(a.extract k i).toList=(a.toList.drop k).take (i-k):=⇑_;rw[e,<-List.take_add,Nat.add_sub_cancel' h]
def Lh.ak (h:Lh a b T out i j){k:Nat}(hk:k<=i):Lh a b T (out++(a.extract k i).reverse) k j:=by unfold Lh at h ⊢;rw[<-Ao a k i hk]at h;refine FO.trans ?_ h;rw[Gw,HP,FZ,FZ];exact (((HQ _).append_right _).trans<|Iw ..).append_left _
def Lh.bk (h:Lh a b T out i j){k:Nat}(hk:k<=j):Lh a b T (out++(b.extract k j).reverse) i k:=by unfold Lh at h ⊢;rw[<-Ao b k j hk]at h;refine FO.trans ?_ h;rw[Gw,HP,FZ,<-FZ (a.toList.take i)];exact (((HQ _).append_right _).trans GI).append_left _
def Lh.done (h:Lh a b T out i j):(a.extract 0 i++b.extract 0 j++out.reverse).toList.Perm T:=by unfold Lh at h;rw[Gw,Gw,rg,rg,HP];exact (((HQ _).append_left _).trans GI).trans h
def Lh.first (h:Lh a b T out i j):(b.extract 0 j++a.extract 0 i++out.reverse).toList.Perm T:=by unfold Lh at h;rw[Gw,Gw,rg,rg,HP];exact (((HQ _).append_left _).trans<|GI.trans<|GI.append_left _).trans h
abbrev H7:=Option (Array Keyed)×Nat×Nat×Array Keyed×Nat×Nat×Nat
structure Ih (a b:Array Keyed)(T:↑Keyed)(n:Nat)(out:Array Keyed)(i j:Nat):Prop where
 l:Lh a b T out i j
 i1:1<=i
 j2:2<=j
 ia:i<a.size
 jb:j<=b.size
 le:i+j+n<=a.size+b.size
structure Rh (κ:SortKind)(c:Array Keyed)(pe:Array (Nat×Nat×Nat))(a b:Array Keyed)(T:↑Keyed)(n:Nat)(R:ForInStep H7->SortSt->Prop):Prop where
 r1:∀r out i j m ac bc g,r.toList.Perm T->R (.done (`r ,i,j,out,m,ac,bc)) (ss κ c pe g)
 r2:∀out i j m ac bc g,Ih a b T n out i j->R (.done (none ,i,j,out,m,ac,bc)) (ss κ c pe g)
 r3:∀out i j m ac bc g,Ih a b T n out i j->R (.yield (none ,i,j,out,m,ac,bc)) (ss κ c pe g)
variable {n m ac bc t:Nat}{R:ForInStep H7->SortSt->Prop}
noncomputable def h3 (a b out:Array Keyed)(i j m ac bc:Nat):StateT SortSt Sem (ForInStep H7):=elem' a (i-1)>>=λy=>
 if (i-1==0)=true then pure (.done (some (a.extract 0 (i-1)++b.extract 0 j++(out.push y).reverse) ,i-1,j,out.push y,m,ac,bc))
 else if (decide (ac<7)&&decide (bc<7))=true then pure (.done (none ,i-1,j,out.push y,m,ac,bc)) else pure (.yield (none ,i-1,j,out.push y,m,ac,bc))
def DM (K:Rh κ c pe a b T n R)(ha:In it a)(L:Ih a b T n out i j):wpS (Jx prog w) A E s (h3 a b out i j m ac bc) R (ss κ c pe g):=by let(l,i1,j2,ia,jb,le):=L;refine wpS_bind (aT ha ∅ λx' J ex'=>?_);have L4:=l.a1 i1 ex';refine ay (λJ=>wpS_pure<|K.r1 _ _ _ _ _ _ _ _ L4.done) λz4=>?_;rw[beq_iff_eq]at z4;exact ay (λJ=>wpS_pure<|K.r2 _ _ _ _ _ _ _ (L4,∅,∅,∅,∅,∅)) λJ=>wpS_pure<|K.r3 _ _ _ _ _ _ _ (L4,∅,∅,∅,∅,∅)
noncomputable def h2 (a b out:Array Keyed)(i j m ac t:Nat):StateT SortSt Sem (ForInStep H7):=if j-t>0 then
  if (t==1)=true then pure (.done (some (b.extract 0 t++a.extract 0 i++(out++(b.extract t j).reverse).reverse) ,i,t,out++(b.extract t j).reverse,m,ac,j-t))
  else if (t==0)=true then pure (.done (some (a.extract 0 i++b.extract 0 t++(out++(b.extract t j).reverse).reverse) ,i,t,out++(b.extract t j).reverse,m,ac,j-t))
  else h3 a b (out++(b.extract t j).reverse) i t m ac (j-t)
 else h3 a b out i j m ac (j-t)
def E8 (K:Rh κ c pe a b T n R)(ha:In it a)(L:Ih a b T n out i j)(ht:t<=j):wpS (Jx prog w) A E s (h2 a b out i j m ac t) R (ss κ c pe g):=by refine ay (λJ=>?_) λJ=>DM K ha L;let(l,i1,j2,ia,jb,le):=L;have L2:=l.bk ht;refine ay (λJ=>wpS_pure<|K.r1 _ _ _ _ _ _ _ _ L2.first) λz=>ay (λJ=>wpS_pure<|K.r1 _ _ _ _ _ _ _ _ L2.done) λz'=>?_;rw[beq_iff_eq]at z z';exact DM K ha (L2,i1,∅,ia,∅,∅)
noncomputable def h1 (a b out:Array Keyed)(i j m ac bc:Nat):StateT SortSt Sem (ForInStep H7):=elem' b (j-1)>>=λy=>
 if (j-1==1)=true then pure (.done (some (b.extract 0 (j-1)++a.extract 0 i++(out.push y).reverse) ,i,j-1,out.push y,m,ac,bc))
 else elem' a (i-1)>>=λx=>Ml true x b 0 (j-1) (j-1-1)>>=λo=>match o with|some t=>h2 a b (out.push y) i (j-1) m ac t|x=>pure<|.done (some (a.extract 0 i++b.extract 0 (j-1)++(out.push y).reverse) ,i,j-1,out.push y,m,ac,bc)
def DN (H:Cmp prog w A s κ it)(K:Rh κ c pe a b T n R)(ha:In it a)(hb:In it b)(L:Ih a b T n out i j):wpS (Jx prog w) A E s (h1 a b out i j m ac bc) R (ss κ c pe g):=by let(l,i1,j2,ia,jb,le):=L;refine wpS_bind (aT hb ∅ λy' J ey'=>?_);have L2:=l.b1 ∅ ey';refine ay (λJ=>wpS_pure<|K.r1 _ _ _ _ _ _ _ _ L2.first) λz2=>?_;rw[beq_iff_eq]at z2;exact wpS_bind (aT ha ∅ λx hx ex=>wpS_bind<|kI H hx hb ∅ ∅ λk2 hk2=>E8 K ha (L2,i1,∅,ia,∅,∅) hk2)
noncomputable def h0 (a b out:Array Keyed)(i j m bc t:Nat):StateT SortSt Sem (ForInStep H7):=if i-t>0 then
  if (t==0)=true then pure (.done (some (a.extract 0 t++b.extract 0 j++(out++(a.extract t i).reverse).reverse) ,t,j,out++(a.extract t i).reverse,m,i-t,bc))
  else h1 a b (out++(a.extract t i).reverse) t j m (i-t) bc
 else h1 a b out i j m (i-t) bc
def E9 (H:Cmp prog w A s κ it)(K:Rh κ c pe a b T n R)(ha:In it a)(hb:In it b)(L:Ih a b T n out i j)(ht:t<=i):wpS (Jx prog w) A E s (h0 a b out i j m bc t) R (ss κ c pe g):=by refine ay (λJ=>?_) λJ=>DN H K ha hb L;let(l,i1,j2,ia,jb,le):=L;have L2:=l.ak ht;refine ay (λJ=>wpS_pure<|K.r1 _ _ _ _ _ _ _ _ L2.done) λz=>?_;rw[beq_iff_eq]at z;exact DN H K ha hb (L2,∅,j2,∅,jb,∅)
noncomputable def hg (a b out:Array Keyed)(i j m ac bc:Nat):StateT SortSt Sem (ForInStep H7):=smg0 m>>=λJ=>elem' b (j-1)>>=λy=>Ml false y a 0 i (i-1)>>=λo=>match o with|some t=>h0 a b out i j m bc t|x=>pure<|.done (some (a.extract 0 i++b.extract 0 j++out.reverse) ,i,j,out,m,ac,bc)
def DL (H:Cmp prog w A s κ it)(ha:In it a)(hb:In it b)(L:Ih a b T n out i j)(K:Rh κ c pe a b T n R):wpS (Jx prog w) A E s (hg a b out i j m ac bc) R (ss κ c pe g):=by have i1:=L.i1;have j2:=L.j2;have ia:=L.ia;have jb:=L.jb;exact wpS_bind (wpS_modify<|wpS_bind<|aT hb ∅ λy hy ey=>wpS_bind<|kI H hy ha ∅ ∅ λk hk=>E9 H K ha hb L hk)
def DK (H:Cmp prog w A s κ it){Q:Array Keyed->SortSt->Prop}(ha:In it a)(hb:In it b)(a1:1<=a.size)(b1:1<=b.size)(hT:T=a.toList++b.toList)(q:∀r g ,r.toList.Perm T->Q r (ss κ c pe g)):wpS (Jx prog w) A E s (mhi0 a b) Q (ss κ c pe g):=by
 have L0:Lh a b T #[] a.size b.size:=by unfold Lh;subst hT;rw[Hs ⇑_,Hs ⇑_];simp
 unfold mhi0;refine wpS_bind<|wpS_lift<|JD (rfl,?_);refine wpS_bind (aT ha ∅ λy hy ey=>?_);have L1:Lh a b T #[y] (a.size-1) b.size:=L0.a1 a1 ey;refine ay (λJ=>wpS_pure<|q _ _ L1.done) λz1=>ay (λJ=>wpS_pure<|q _ _ L1.first) λz2=>?_;rw[beq_iff_eq]at z1 z2;refine wpS_bind<|wpS_get ?_;refine wpS_bind (cJ (λn d st=>∃out i j m g ,d=(none ,i,j,out,m)/\st=ss κ c pe g/\Ih a b T n out i j) (λd st=>∃r out i j m g ,d=(`r ,i,j,out,m)/\st=ss κ c pe g/\r.toList.Perm T) (_,_,_,_,_,rfl,rfl,L1,∅,∅,∅,∅,∅) (λn d st J nt I=>?_) (λd st I=>?_) λd st I=>?_)
 .let(out,i,j,m,g,rfl,rfl,L):=I;dsimp only;refine wpS_bind (cJ (λn' d st=>∃out i j ac bc ,d=(none ,i,j,out,ac,bc)/\st=ss κ c pe g/\Ih a b T (n+n') out i j) (λd st=>∃o out i j ac bc ,d=(o ,i,j,out,ac,bc)/\st=ss κ c pe g/\((∃r ,o=`r/\r.toList.Perm T)\/(o=none/\Ih a b T (n+1) out i j))) (_,_,_,_,_,rfl,rfl,L) (λn' d st J J I=>?_) (λd st I=>?_) λd st I=>?_)
  .let(out,i,j,ac,bc,rfl,rfl,l,i1,j2,ia,jb,le):=I;dsimp only;refine wpS_bind (aT hb ∅ λy hy ey=>wpS_bind<|aT ha ∅ λx hx ex=>wpS_bind<|vF H hy hx λv=>?_);cases v with
   |true=>
    dsimp only;refine i8 rfl (wpS_bind<|aT ha ∅ λy' J ey'=>?_);have L2:=l.a1 i1 ey';refine ay (λJ=>wpS_pure (_,_,_,_,_,_,rfl,rfl,.inl (_,rfl,L2.done))) λz=>?_;rw[beq_iff_eq]at z;exact ay (λJ=>wpS_pure (_,_,_,_,_,_,rfl,rfl,.inr (rfl,L2,∅,∅,∅,∅,∅))) λJ=>wpS_pure (_,_,_,_,_,rfl,rfl,L2,∅,∅,∅,∅,∅)
   |false=>
    dsimp only;refine gN ⇑_ (wpS_bind<|aT hb ∅ λx' J ex'=>?_);have L2:=l.b1 ∅ ex';refine ay (λJ=>wpS_pure (_,_,_,_,_,_,rfl,rfl,.inl (_,rfl,L2.first))) λz=>?_;rw[beq_iff_eq]at z;exact ay (λJ=>wpS_pure (_,_,_,_,_,_,rfl,rfl,.inr (rfl,L2,∅,∅,∅,∅,∅))) λJ=>wpS_pure (_,_,_,_,_,rfl,rfl,L2,∅,∅,∅,∅,∅)
  let(out,i,j,ac,bc,rfl,rfl,l,i1,j2,ia,jb,le):=I;exact(_,_,_,_,_,_,rfl,rfl,.inr (rfl,l,i1,j2,ia,jb,∅))
  .obtain⟨o,out,i,j,ac,bc,rfl,rfl,⟨r,rfl,pr⟩|⟨rfl,L⟩⟩:=I;exact wpS_pure (_,_,_,_,_,_,rfl,rfl,pr)
   .dsimp only;refine wpS_bind<|wpS_lift<|JD (rfl,?_);refine wpS_bind (cJ (λn' d st=>∃out i j m ac bc g ,d=(none ,i,j,out,m,ac,bc)/\st=ss κ c pe g/\Ih a b T (n+1) out i j) (λd st=>∃o out i j m ac bc g ,d=(o ,i,j,out,m,ac,bc)/\st=ss κ c pe g/\((∃r ,o=`r/\r.toList.Perm T)\/(o=none/\Ih a b T (n+1) out i j))) (_,_,_,_,_,_,_,rfl,rfl,L) (λn' d st J J I=>?_) (λd st I=>?_) λd st I=>?_)
    .let(out,i,j,m,ac,bc,g,rfl,rfl,L):=I;dsimp only;refine ay (λJ=>DL (m:=m-1) (ac:=ac) (bc:=bc) H ha hb L ?_) λJ=>DL (m:=m) (ac:=ac) (bc:=bc) H ha hb L ?_
     all_goals exact(λr out i j m ac bc g pr=>(_,_,_,_,_,_,_,_,rfl,rfl,.inl (r,rfl,pr)),λout i j m ac bc g L=>(_,_,_,_,_,_,_,_,rfl,rfl,.inr (rfl,L)),λout i j m ac bc g L=>(_,_,_,_,_,_,_,rfl,rfl,L))
    let(out,i,j,m,ac,bc,g,rfl,rfl,L):=I;exact(_,_,_,_,_,_,_,_,rfl,rfl,.inr (rfl,L))
    .obtain⟨o,out,i,j,m,ac,bc,g,rfl,rfl,⟨r,rfl,pr⟩|⟨rfl,L⟩⟩:=I;exact wpS_pure (_,_,_,_,_,_,rfl,rfl,pr);exact wpS_bind<|wpS_modify<|wpS_pure (_,_,_,_,_,rfl,rfl,L)
 let(out,i,j,m,g,rfl,rfl,l,i1,j2,ia,jb,le):=I;omega;let(r,out,i,j,m,g,rfl,rfl,pr):=I;exact wpS_pure<|q r g pr
end
end
section
theorem m4:∀ (m:↑Keyed) (c:Array Keyed) (o k:Nat),o+k+⇑m<=c.size->((m.zipIdx k).foldl (λa q=>a.setIfInBounds (o+q.2) q.1) c).toList=c.toList.take (o+k)++(m++c.toList.drop (o+k+⇑m))
 |[],c,o,k,h=>⇑_
 |x::m,c,o,k,h=>by
  rw[FA]at h;rw[Ht,GA,m4 m _ o (k+1)<|by simp;omega];have e:(c.setIfInBounds (o+k) x).toList=c.toList.set (o+k) x:=⇑_;have hl:o+k<⇑c.toList:=by simp;omega
  rw[e,Ij ∅,show o+(k+1)=o+k+1 by omega,Hh,GJ hl,List.take_set_of_le<|Fw _];simp [show o+k+1+⇑m=o+k+(⇑m+1) by omega]
structure PeOk (pe:Array (Nat×Nat×Nat))(lo:Nat):Prop where
 n1:∀ (i:Nat) (r:Nat×Nat×Nat),pe[i]?=`r->1<=r.2.1/\r.1+r.2.1<=lo
 nx:∀ (i:Nat) (r r':Nat×Nat×Nat),pe[i]?=`r->pe[i+1]?=`r'->r'.1=r.1+r.2.1
 la:∀ (i:Nat) (r:Nat×Nat×Nat),pe[i]?=`r->pe[i+1]?=none->r.1+r.2.1=lo
def t4 (pe:Array (Nat×Nat×Nat))(i:Nat)(x:Nat×Nat×Nat)(hi:i+1<pe.size)(j:Nat):((pe.setIfInBounds i x).eraseIdxIfInBounds<|i+1)[j]?=if j=i then `x else if j<i then pe[j]? else pe[j+1]?:=by
 rw[<-Gb];have e:((pe.setIfInBounds i x).eraseIdxIfInBounds<|i+1).toList=(pe.toList.set i x).eraseIdx (i+1):=by rw[Array.eraseIdxIfInBounds,dif_pos<|by simp;omega];simp
 rw[e,List.getElem?_eraseIdx];by_cases z:j=i;subst z;rw[np rfl,np ∅,GJ<|by simp;omega]
 .rw[gV z];by_cases y:j<i;rw[np y,np ∅,FG ∅,Gb];rw[gV y,gV ∅,FG ∅,Gb]
def PeOk.erase {lo i:Nat}{u:Nat}(P:PeOk pe lo)(h:pe[i]?=`r)(h':pe[i+1]?=`r'):PeOk ((pe.setIfInBounds i (r.1 ,r.2.1+r'.2.1,u)).eraseIdxIfInBounds<|i+1) lo:=by
 have hi:=(Hd.mp h').1;have q1:=P.n1 i r h;have q2:=P.n1 (i+1) r' h';have q3:=P.nx i r r' h h';have g:=t4 pe i (r.1 ,r.2.1+r'.2.1,u) hi;refine(λj x e=>?_,λj x y e e'=>?_,λj x e e'=>?_)
 .rw[g]at e;by_cases z:j=i;rw[np z]at e;cases e;dsimp only;omega
  .rw[gV z]at e;by_cases y:j<i;rw[np y]at e;exact P.n1 _ _ e;rw[gV y]at e;exact P.n1 _ _ e
 .rw[g]at e e';by_cases z:j=i;rw[np z]at e;rw[gV ∅,gV ∅,z]at e';cases e;have:=P.nx (i+1) r' y h' e';dsimp only;omega
  .rw[gV z]at e;by_cases y:j<i
   .rw[np y]at e;by_cases z2:j+1=i;rw[np z2]at e';cases e';rw[<-z2]at h;exact P.nx j x r e h;rw[gV z2,np ∅]at e';exact P.nx _ _ _ e e'
   rw[gV y]at e;rw[gV ∅,gV ∅]at e';exact P.nx _ _ _ e e'
 .rw[g]at e e';by_cases z:j=i;rw[np z]at e;rw[gV ∅,gV ∅,z]at e';cases e;have:=P.la (i+1) r' h' e';dsimp only;omega
  .rw[gV z]at e;by_cases y:j<i
   .rw[np y]at e;by_cases z2:j+1=i;rw[np z2]at e';cases e';rw[gV z2,np ∅]at e';exact P.la _ _ e e'
   rw[gV y]at e;rw[gV ∅,gV ∅]at e';exact P.la _ _ e e'
section
variable {prog:Jn}{w:Jo}{A:Ju}{E:Jk->Js->Prop}{s:Js}{κ:SortKind}{it:↑Keyed}
variable {c:Array Keyed}{pe:Array (Nat×Nat×Nat)}{g:Nat}
def DE {σ:Type}{M:Model}{st st':σ}{Q:PUnit->σ->Prop}(h:Q ⟨⟩ st'):wpS M A E s (set st':StateT σ Sem PUnit) Q st:=by unfold wpS;rw[StateT.run_set];exact JC (rfl,h)
def lX (hp:c.toList.Perm it)(i j:Nat):In it (c.extract i j):=λy hy=>by have e:(c.extract i j).toList=(c.toList.drop i).take (j-i):=⇑_;rw[e]at hy;exact hp.mem_iff.mp<|List.mem_of_mem_drop<|IQ hy
def Bh (hp:c.toList.Perm it){sa sb nb:Nat}(h1:sa<=sb)(h2:sb+nb<=c.size){r:Array Keyed}(hr:r.toList.Perm ((c.extract sa sb).toList++(c.extract sb<|sb+nb).toList)):(r.toList.zipIdx.foldl (λa q=>a.setIfInBounds (sa+q.2) q.1) c).toList.Perm it:=by
 have e1:(c.extract sa sb).toList=(c.toList.drop sa).take (sb-sa):=⇑_;have e2:(c.extract sb<|sb+nb).toList=(c.toList.drop sb).take nb:=⇑_;have hl:=hr.length_eq;rw[FH,e1,e2,Gm,Hq,Gm,Hq,F6,F6]at hl;have:=m4 r.toList c sa 0 (by rw[F6];omega);rw[this];refine FO.trans ?_ hp;have e3:c.toList=c.toList.take (sa+0)++(((c.extract sa sb).toList++(c.extract sb<|sb+nb).toList)++c.toList.drop (sa+0+⇑r.toList)):=by rw[e1,e2,F6,show sa+0+r.size=sb+nb by omega,FZ];rw[show c.toList.drop (sb+nb)=(c.toList.drop sb).drop nb by rw[HN],Hz];rw[show c.toList.drop sb=(c.toList.drop sa).drop (sb-sa) by rw[HN];congr 1;omega,Hz];simp
 exact ((hr.append_right _).append_left _).trans<|FO.of_eq e3.symm
def DR (H:Cmp prog w A s κ it){i lo:Nat}{Q:Bool->SortSt->Prop}(hp:c.toList.Perm it)(P:PeOk pe lo)(hlo:lo<=c.size)(hi:i+1<pe.size)(q:∀c' pe' g ,c'.toList.Perm it->PeOk pe' lo->Q true (ss κ c' pe' g)):wpS (Jx prog w) A E s (mergeAt' i) Q (ss κ c pe g):=by
 unfold mergeAt';refine wpS_bind<|wpS_get ?_;obtain⟨r,h⟩:∃r,pe[i]?=`r:=(_,getElem?_pos pe i ∅)
 obtain⟨r',h'⟩:∃r',pe[i+1]?=`r':=(_,getElem?_pos pe (i+1) hi)
 have e1:(pendingOf<|ss κ c pe g)[i]?=`r:=h;have e2:(pendingOf<|ss κ c pe g)[i+1]?=`r':=h';rw[e1,e2];have P':=P.erase (u:=r.2.2) h h';have q1:=P.n1 i r h;have q2:=P.n1 (i+1) r' h';have q3:=P.nx i r r' h h';let(sa,na,u):=r;let(sb,nb,v):=r';dsimp only at P' q1 q2 q3 ⊢;refine wpS_bind<|DE ?_;have hc:=lW hp;generalize (pe.setIfInBounds i (sa ,na+nb,u)).eraseIdxIfInBounds (i+1)=pe' at*;show wpS _ _ _ _ _ _ (ss κ c pe' g);refine wpS_bind (aT hc (show sb<c.size by omega) λy hy J=>wpS_bind<|kI H hy hc ∅ ∅ λk hk=>?_);dsimp only;refine ay (λJ=>wpS_pure<|q _ _ _ hp P') λz1=>?_;rw[beq_iff_eq]at z1;refine wpS_bind (aT hc (show sa+k+(na-k)-1<c.size by omega) λy hy J=>wpS_bind<|kI H hy hc ∅ ∅ λm hm=>?_);dsimp only;refine ay (λJ=>wpS_pure<|q _ _ _ hp P') λz2=>?_;rw[beq_iff_eq]at z2;have F:∀ (r:Array Keyed) (g:Nat),r.toList.Perm ((c.extract (sa+k) sb).toList++(c.extract sb<|sb+m).toList)->Q true (ss κ (r.toList.zipIdx.foldl (λa q=>a.setIfInBounds (sa+k+q.2) q.1) c) pe' g):=λr g hr=>q _ _ _ (Bh hp ∅ ∅ hr) P';have s1:1<=(c.extract (sa+k) sb).size:=by simp;omega
 have s2:1<=(c.extract sb<|sb+m).size:=by simp;omega
 refine ay (λJ=>wpS_bind<|DJ (T:=(c.extract (sa+k) sb).toList++(c.extract sb<|sb+m).toList) H (lX hp _ _) (lX hp _ _) s1 s2 rfl λr g hr=>?_) λJ=>wpS_bind (DK (T:=(c.extract (sa+k) sb).toList++(c.extract sb<|sb+m).toList) H (lX hp _ _) (lX hp _ _) s1 s2 rfl λr g hr=>?_);exact wpS_bind<|wpS_modify<|wpS_bind<|wpS_get<|wpS_pure<|F r g hr;exact wpS_bind<|wpS_modify<|wpS_bind<|wpS_get<|wpS_pure<|F r g hr
set_option tactic.hygienic true in
theorem PeOk.push {lo n:Nat}(P:PeOk pe lo)(hn:1<=n):PeOk (pe.push (lo ,n,0)) (lo+n):=by
 refine(λj x e=>?_,λj x y e e'=>?_,λj x e e'=>?_)
 .rw[Ix]at e;split at e;cases e;dsimp only;omega;have:=P.n1 _ _ e;omega
 .rw[Ix]at e e';split at e';rename_i z;cases e';rw[gV ∅]at e;exact (P.la _ _ e<|by rw[z];simp).symm
  .rename_i z;split at e;rename_i z2;rw[z2]at e';simp at e';exact P.nx _ _ _ e e'
 .rw[Ix]at e e';split at e';cases e'
  .rename_i z;split at e;cases e;rfl
   .have:=(Hd.mp e).1;have:pe.size<=j+1:=by simpa using e'
    omega
def PeOk.modi {lo i u:Nat}(P:PeOk pe lo):PeOk (pe.modify i λx=>(x.1 ,x.2.1,u)) lo:=by
 have g:∀j,(pe.modify i λx=>(x.1 ,x.2.1,u))[j]?=if i=j then (pe[j]?).map (λx=>(x.1 ,x.2.1,u)) else pe[j]?:=λj=>by rw[Array.getElem?_modify]
 have k:∀ (j:Nat) (x:Nat×Nat×Nat),(pe.modify i λx=>(x.1 ,x.2.1,u))[j]?=`x->∃y:Nat×Nat×Nat,pe[j]?=`y/\y.1=x.1/\y.2.1=x.2.1:=λj x e=>by
  rw[g]at e;split at e;let(y,h,rfl):=FE.mp e;exact(y,h,rfl,rfl);exact(x,e,rfl,rfl)
 refine(λj x e=>?_,λj x y e e'=>?_,λj x e e'=>?_);let(y,h,h1,h2):=k j x e;rw[<-h1,<-h2];exact P.n1 j y h;let(y1,h,h1,h2):=k j x e;let(y2,h',h3,h4):=k (j+1) y e';rw[<-h1,<-h2,<-h3];exact P.nx j y1 y2 h h'
 .let(y1,h,h1,h2):=k j x e;rw[<-h1,<-h2];refine P.la j y1 h ?_;rw[g]at e';split at e';exact Option.map_eq_none_iff.mp e';exact e'
def Af {σ α:Type}{M:Model}{x y:StateT σ Sem α}{R:α->σ->Prop}{st:σ}(q:wpS M A E s x R st)(e:y=x):wpS M A E s y R st:=e▸q
noncomputable def rt (z lo n:Nat):StateT SortSt Sem (ForInStep<|Option Unit×Nat):=get>>=λst=>match (pendingOf st).back? with
 |some (s1 ,n1,_)=>(forIn [:z] ((none ,()):Option Unit×Unit) λJ J=>get>>=λst=>match if (pendingOf st).size>1 then (pendingOf st)[(pendingOf st).size-2]? else none with
  |some (_ ,_,older)=>if older<=power' z (2*s1+n1) (2*s1+n1+n1+n) z then pure (.done (none ,())) else mergeAt' ((pendingOf st).size-2)>>=λb=>if (!b)=true then pure (.done (some () ,())) else pure (.yield (none ,()))
  |x=>pure<|.done (none ,()))>>=λr=>match r.1 with
  |some r=>pure<|.done (some r ,lo)
  |none=>(modify λs=>setPending s<|(pendingOf s).modify ((pendingOf s).size-1) λ(st ,len,_)=>(st ,len,power' z (2*s1+n1) (2*s1+n1+n1+n) z))>>=λJ=>(modify λs=>setPending s<|(pendingOf s).push (lo ,n,0))>>=λJ=>pure<|.yield (none ,lo+n)
 |x=>(modify λs=>setPending s<|(pendingOf s).push (lo ,n,0))>>=λJ=>pure<|.yield (none ,lo+n)
def DF (H:Cmp prog w A s κ it){lo n z:Nat}{R:ForInStep (Option Unit×Nat)->SortSt->Prop}(hp:c.toList.Perm it)(P:PeOk pe lo)(hz:c.size=z)(hn:1<=n)(hl:lo+n<=z)(r1:∀o c' pe g ,c'.toList.Perm it->PeOk pe lo->R (.done (o ,lo)) (ss κ c' pe g))(r2:∀c' pe g ,c'.toList.Perm it->PeOk pe (lo+n)->R (.yield (none ,lo+n)) (ss κ c' pe g)):
  wpS (Jx prog w) A E s (rt z lo n) R (ss κ c pe g):=by
 unfold rt;refine wpS_bind<|wpS_get ?_;have E0:(pendingOf<|ss κ c pe g).back?=pe.back?:=rfl;rw[E0];cases pe.back? with
 |none=>exact wpS_bind<|wpS_modify<|wpS_pure<|r2 _ _ _ hp<|P.push hn
 |some x=>
  let(s1,n1,u):=x;dsimp only;refine wpS_bind (cJ (λi d st=>∃c' pe g ,d=(none ,())/\st=ss κ c' pe g/\c'.toList.Perm it/\PeOk pe lo) (λd st=>∃o c' pe g ,d=(o ,())/\st=ss κ c' pe g/\c'.toList.Perm it/\PeOk pe lo) (_,_,_,rfl,rfl,hp,P) (λi d st J J I=>?_) (λd st I=>?_) λd st I=>?_)
  .let(b,pe,g,rfl,rfl,pb,P):=I;have sb:=dh hp pb;refine wpS_bind<|wpS_get ?_;have E1:pendingOf (ss κ b pe g)=pe:=rfl;rw[E1];by_cases y:pe.size>1;rw[np y,getElem?_pos pe (pe.size-2) ∅];refine ay (λJ=>wpS_pure (_,_,_,_,rfl,rfl,pb,P)) λJ=>wpS_bind (DR H pb P ∅ ∅ λc' pe' g h1 h2=>?_);exact wpS_pure (_,_,_,rfl,rfl,h1,h2);rw[gV y];exact wpS_pure (_,_,_,_,rfl,rfl,pb,P)
  let(b,pe,g,rfl,rfl,pb,P):=I;exact(_,_,_,_,rfl,rfl,pb,P)
  .let(o,b,pe,g,rfl,rfl,pb,P):=I;cases o with|some u=>exact wpS_pure (r1 _ _ _ _ pb P)|none=>exact wpS_bind<|wpS_modify<|wpS_bind<|wpS_modify<|wpS_pure<|r2 _ _ _ pb<|P.modi.push hn
def Bg (H:Cmp prog w A s κ it){Q:Unit->SortSt->Prop}(hp:c.toList.Perm it)(q:∀c' pe g ,c'.toList.Perm it->Q () (ss κ c' pe g)):wpS (Jx prog w) A E s sortRuns' Q (ss κ c #[] g):=by
 rw[sortRuns'_eq];refine wpS_bind<|wpS_get ?_;have hsz:(arrOf<|ss κ c #[] g).size=c.size:=rfl;rw[hsz];generalize hM:minRun' c.size c.size 0=M;dsimp only;refine wpS_bind (cJ (λi d st=>∃lo c' pe g ,d=(none ,lo)/\st=ss κ c' pe g/\c'.toList.Perm it/\PeOk pe lo/\lo<=c.size) (λd st=>∃o lo c' pe g ,d=(o ,lo)/\st=ss κ c' pe g/\c'.toList.Perm it/\PeOk pe lo/\lo<=c.size) (_,_,_,_,rfl,rfl,hp,(λi r e=>by simp at e,λi r r' e=>by simp at e,λi r e=>by simp at e),FU _) (λi d st J J I=>?_) (λd st I=>?_) λd st I=>?_)
 .let(lo,b,pe,g,rfl,rfl,pb,P,hl):=I;have sb:=dh hp pb;refine ay (λJ=>wpS_pure (_,_,_,_,_,rfl,rfl,pb,P,hl)) λz=>wpS_bind (yG H pb ∅ ∅ λk b' k1 k2 pb'=>?_);have sb':=dh hp pb';dsimp only;refine ay (λz2=>?_) λJ=>?_
  .refine wpS_bind<|wpS_lift<|JD (rfl,wpS_bind<|DP H pb' ∅ λb2 pb2=>?_);refine gN ⇑_ (Af (DF H pb2 P (dh hp pb2) (n:=min (c.size-lo)<|minRun' c.size c.size 0) ∅ ∅ ?_ ?_) ?_)
   rotate_right
   unfold rt;congr 1;funext st;congr 1;funext s1 n1 u;congr 1;funext r;let(o,u):=r;cases o<;>rfl;exact λo c' pe g h1 h2=>(_,_,_,_,_,rfl,rfl,h1,h2,hl)
   exact λc' pe g h1 h2=>(_,_,_,_,rfl,rfl,h1,h2,∅)
  .refine Af (DF H pb' P sb' k1 ∅ ?_ ?_) ?_
   rotate_right
   unfold rt;congr 1;funext st;congr 1;funext s1 n1 u;congr 1;funext r;let(o,u):=r;cases o<;>rfl;exact λo c' pe g h1 h2=>(_,_,_,_,_,rfl,rfl,h1,h2,hl)
   exact λc' pe g h1 h2=>(_,_,_,_,rfl,rfl,h1,h2,∅)
 let(lo,b,pe,g,rfl,rfl,pb,P,hl):=I;exact(_,_,_,_,_,rfl,rfl,pb,P,hl)
 .let(o,lo,b,pe,g,rfl,rfl,pb,P,hl):=I;cases o with
  |some u=>exact wpS_pure<|q _ _ _ pb
  |none=>
   dsimp only;refine wpS_bind (cJ (λi d st=>∃c' pe g ,d=(none ,())/\st=ss κ c' pe g/\c'.toList.Perm it/\PeOk pe lo) (λd st=>∃o c' pe g ,d=(o ,())/\st=ss κ c' pe g/\c'.toList.Perm it) (_,_,_,rfl,rfl,pb,P) (λi d st J J I=>?_) (λd st I=>?_) λd st I=>?_)
   .let(b,pe,g,rfl,rfl,pb,P):=I;have sb:=dh hp pb;refine wpS_bind<|wpS_get ?_;have E1:pendingOf (ss κ b pe g)=pe:=rfl;rw[E1];refine ay (λJ=>wpS_pure (_,_,_,_,rfl,rfl,pb)) λz=>wpS_bind (DR H pb P ∅ ?_ λc' pe' g h1 h2=>wpS_pure (_,_,_,rfl,rfl,h1,h2));by_cases y2:pe.size-2>0;rw[np y2];split<;>omega;rw[gV y2];show (if false=true then _ else _)+1<_;rw[gV ⇑_];omega
   let(b,pe,g,rfl,rfl,pb,P):=I;exact(_,_,_,_,rfl,rfl,pb)
   .let(o,b,pe,g,rfl,rfl,pb):=I;cases o with|some u=>exact wpS_pure (q _ _ _ pb)|none=>exact wpS_pure<|q _ _ _ pb
end
end
end Sp
namespace L2
open PyProof.Rows
section
variable (n:Nat)(lt:Nat->Nat->Bool)
noncomputable def OR (p:Array Nat)(i:Nat):Option Nat:=match p[i]? with|some a=>if a<n then `a else none|none=>none
noncomputable def sLt (p:Array Nat)(i j:Nat):Option Bool:=match OR n p i,OR n p j with|some a,some b=>some (lt a b)|_,_=>none
noncomputable def sAsc (p:Array Nat)(lo:Nat):Nat->Nat->Option Nat|0,k=>`k|f+1,k=>match sLt n lt p (lo+k) (lo+k-1) with|some true=>`k|some false=>sAsc p lo f (k+1)|none=>none
noncomputable def uM (p:Array Nat)(lo r:Nat):Option Nat:=match sAsc n lt p lo (r-1) 1 with
 |some k=>if (k==r)=true then `k else if k>1 then (match sLt n lt p lo (lo+k-1) with
  |some true=>`k
  |_=>none) else none
 |none=>none
noncomputable def oR (p:Array Nat)(lo k:Nat):Nat->Nat->Nat->Option Nat|0,l,_=>`l|f+1,l,r=>if l≥r then `l else match sLt n lt p (lo+k) (lo+(l+r) / 2) with|some true=>oR p lo k f l ((l+r) / 2)|some false=>oR p lo k f ((l+r) / 2+1) r|none=>none
noncomputable def OM (lo:Nat):Nat->Nat->Array Nat->Option (Array Nat)|0,_,p=>`p|f+1,k,p=>match oR n lt p lo k k 0 k with|some l=>OM lo f (k+1) (bubble p (lo+k)<|lo+k-(lo+l))|none=>none
noncomputable def OL (left:Bool)(key:Nat)(a:Array Nat)(i:Nat):Option Bool:=match OR n a i with|some x=>if key<n then (if left=true then some (lt x key) else some (!lt key x)) else none|none=>none
noncomputable def sUp (left:Bool)(key:Nat)(a:Array Nat)(base hint mx:Nat):Nat->Nat->Nat->Option (Nat×Nat)|0,la,o=>some (la ,o)|f+1,la,o=>if o≥mx then some (la ,o) else match OL n lt left key a (base+(hint+o)) with|some true=>sUp left key a base hint mx f o (2*o+1)|some false=>some (la ,o)|none=>none
noncomputable def ON (left:Bool)(key:Nat)(a:Array Nat)(base hint mx:Nat):Nat->Nat->Nat->Option (Nat×Nat)|0,la,o=>some (la ,o)|f+1,la,o=>if o≥mx then some (la ,o) else match OL n lt left key a (base+(hint-o)) with|some false=>ON left key a base hint mx f o (2*o+1)|some true=>some (la ,o)|none=>none
noncomputable def OS (left:Bool)(key:Nat)(a:Array Nat)(base:Nat):Nat->Nat->Nat->Option Nat|0,_,hi=>`hi|f+1,lo,hi=>if lo≥hi then `hi else match OL n lt left key a (base+(lo+(hi-lo) / 2)) with|some true=>OS left key a base f (lo+(hi-lo) / 2+1) hi|some false=>OS left key a base f lo (lo+(hi-lo) / 2)|none=>none
noncomputable def OQ (left:Bool)(key:Nat)(a:Array Nat)(base m hint:Nat):Option Nat:=match OL n lt left key a (base+hint) with
 |some true=>(match sUp n lt left key a base hint (m-hint) m 0 1 with
  |some (la ,o)=>OS n lt left key a base m (hint+la+1) (hint+min o (m-hint))
  |none=>none)
 |some false=>(match ON n lt left key a base hint (hint+1) m 0 1 with
  |some (la ,o)=>OS n lt left key a base m (hint+1-min o (hint+1)) (hint-la)
  |none=>none)
 |none=>none
structure Mg where
 out:Array Nat
 ia:Nat
 ib:Nat
 ac:Nat
 bc:Nat
 g:Nat
section
variable (a b:Array Nat)
noncomputable def lStep (s:Mg):Option (Mg×Bool):=match OR n b s.ib with
 |none=>none
 |some y=>match OQ n lt false y a s.ia (a.size-s.ia) 0 with
  |none=>none
  |some k=>if (k>0/\((s.ia+k+1==a.size)=true\/(s.ia+k==a.size)=true))\/(s.ib+1==b.size)=true then none
   else match OR n a (s.ia+k) with
   |none=>none
   |some x=>match OQ n lt true x b (s.ib+1) (b.size-(s.ib+1)) 0 with
    |none=>none
    |some j=>if (j>0/\(s.ib+1+j==b.size)=true)\/(s.ia+k+1+1==a.size)=true then none
     else some ((((if j>0 then (if k>0 then s.out++a.extract s.ia (s.ia+k) else s.out).push y++b.extract (s.ib+1) (s.ib+1+j) else (if k>0 then s.out++a.extract s.ia (s.ia+k) else s.out).push y)).push x,s.ia+k+1,s.ib+1+j,k,j,if s.g>1 then s.g-1 else s.g) ,(decide (k<7)&&decide (j<7)))
end
noncomputable def OU:Nat->Nat->Nat->Nat|f+1,m,r=>if m<64 then m+r else OU f (m / 2) (max r<|m%2)|0,m,r=>m+r
noncomputable def OX (p:Array Nat)(lo:Nat):Option (Nat×Array Nat):=match uM n lt p lo (n-lo) with
 |none=>none
 |some k=>if k<OU n n 0 then (match OM n lt lo (min (n-lo) (OU n n 0)-max k 1) (max k 1) p with
  |some p'=>some (min (n-lo) (OU n n 0) ,p')
  |none=>none) else some (k ,p)
end
noncomputable def Nb (x y:↑Int×Int):Bool:=if x.1=y.1 then decide (x.2<y.2) else HT.lexLt x.1 y.1
end L2
namespace L2
open PySem PySem.W PyProof.Rows
section
variable {prog:Jn}{w:Jo}{A:Ju}{s:Js}{κ:SortKind}{it:Array Keyed}{n:Nat}{lt:Nat->Nat->Bool}
def Ans (prog:Jn)(w:Jo)(A:Ju)(s:Js)(κ:SortKind)(it:Array Keyed)(n:Nat)(lt:Nat->Nat->Bool):Prop:=
 ∀a b:Nat,a<n->b<n->∀Q:Bool->Js->Prop,Q (lt a b) s->Jw (Jx prog w) A (keyLt' κ (kas_item it a).1 (kas_item it b).1) Q (λJ J=>False) s
end
section
section
end
end
section
section
variable {s:Js}{it:Array Keyed}
abbrev M6:=Option (Array Keyed)×Array Keyed×Nat×Nat×Nat×Nat
abbrev M7:=Option (Array Keyed)×Array Keyed×Nat×Nat×Nat×Nat×Nat
abbrev t6 (it:Array Keyed)(r:Option (Array Nat))(s:Mg):M6:=(r.map (·.map (kas_item it)) ,s.out.map<|kas_item it,s.ia,s.ib,s.ac,s.bc)
end
end
section
section
variable {prog:Jn}{w:Jo}{A:Ju}{s:Js}{κ:SortKind}{it:Array Keyed}{n:Nat}{lt:Nat->Nat->Bool}{p:Array Nat}
set_option tactic.hygienic true in
def Ac (H:Ans prog w A s κ it n lt){lo y M:Nat}{pe:Array (Nat×Nat×Nat)}{g:Nat}(hM:OU n n 0=M)(h:OX n lt p lo=some (y ,p')):∃f,uM n lt p lo (n-lo)=`f/\((f<M/\y=min (n-lo) M/\OM n lt lo (min (n-lo) M-max f 1) (max f 1) p=`p')\/(¬f<M/\y=f/\p'=p)):=by
 unfold OX at h;rw[hM]at h;split at h;cases h
 rename_i f e;refine(f,e,?_);split at h
 .rename_i z;split at h;rename_i q e2;cases h;exact .inl (z,rfl,e2);cases h
 rename_i z;cases h;exact .inr (z,rfl,rfl)
end
end
section
section
variable {prog:Jn}{w:Jo}{A:Ju}{E:Jk->Js->Prop}{s:Js}
structure Lb (prog:Jn)(w:Jo)(h:Jp)(v:Jk)(k:↑Int×Int)(m:Int):Prop where
 ex:∃a o n c t u its,v=.ref a/\h.get? a=`o/\o.cls=.type "tuple"/\o.data=.seq #[.ref c,.int k.2 t,.int m u] n/\IsTup h c its/\IntsAre its.toList k.1/\IsTupleKey (Jr prog w) h k.1 c
def rj {a c:Int}{Q:Bool->Js->Prop}(h:Q (decide<|a=c) s):Jw (Jx prog w) A (eqBool (.int a t)<|.int c u) Q E s:=
 (Jr prog w).eqBool (a:=a) (b:=c) (by simp [Jr,Jk.isInt]) (by simp [Jr,Jk.isInt]) h
def AU {m m':Int}{Q:Bool->Js->Prop}(hu:A.units<Jv)(hv:Lb prog w s.heap v k m)(hv':Lb prog w s.heap v' k' m')(h:Q (if k=k' then decide (m<m') else Nb k k') s):
  Jw (Jx prog w) A (keyLt' (tuples' false) v v') Q E s:=by
 let(a,o,n,c,t,u,its,rfl,g1,g2,g3,g4,g5,g6):=hv;let(a',o',n',c',t',u',its',rfl,q1,q2,q3,q4,q5,q6):=hv';let(ks,l):=k;let(ks',l'):=k';refine kat_lt g1 g3 q1 q3 ?_;show KatLex prog w A false _ Q [(.ref c ,.ref c'),(.int l t ,.int l' t'),(.int m u ,.int m' u')] 0 s;refine kat_cons<|wpAny_eqBool_tuple (knd:=Jr prog w) hu g6 q6 ?_;by_cases e1:ks=ks'
 .subst e1;rw[CF rfl];refine kat_yes<|kat_cons<|rj ?_;by_cases e2:l=l'
  .subst e2;rw[np rfl]at h;rw[CF rfl];refine kat_yes<|kat_cons<|rj ?_;by_cases e3:m=m';subst e3;rw[CF rfl];refine kat_yes<|kat_nil ?_;rw[s0<|Int.lt_irrefl m]at h;exact h;rw[s0 e3];exact kat_no<|kat_one _ _<|lt_int h
  rw[gV<|λz=>e2 (Prod.mk.inj z).2]at h;rw[s0 e2];unfold Nb at h;rw[np rfl]at h;exact kat_no<|kat_one _ _<|lt_int h
 rw[gV<|λz=>e1 (Prod.mk.inj z).1]at h;rw[s0 e1];unfold Nb at h;rw[gV e1]at h;exact kat_no<|kat_one _ _<|HT.lt_tupInts g4 q4 g5 q5 hu h
end
end
section
def Lc (K:Zf)(H:Hp)(v:V)(k:(↑Int×Int)×Int):Prop:=∃a c,v=.ref a/\SqT K H a [.ref c,.int k.1.2,.int k.2]/\SqT K H c (k.1.1.map V.int)
section
variable {X:Cx}{P4:↑(Jq×Jt)}{σ:St}{H:Hp}{s:Js}
theorem lV:∀ {ks:↑Int}{us:↑Jk},Vals (ks.map V.int) us->IntsAre us ks
 |[],_,r=>by rw[GB]at r;cases r;exact .nil
 |k::ks,_,r=>by
  rw[Fz]at r;cases r with
  |cons h t=>
   let(tk,e):=(show∃t ,_=Jk.int k t from h)
   subst e;exact .cons k tk<|lV t
def AV (I:Inv X P4 σ H s)(h:Lc X.K H v k)(r:RelV v u):Lb X.prog X.w s.heap u k.1 k.2:=by
 let(a,c,rfl,h1,h2):=h;cases r;let(its2,r2,t2,_):=I.tuple h2;let(its,r1,(o,q1,q2,n,q3),_):=I.tuple h1;have t2':=t2;let(o2,g1,g2,n2,g3):=t2';cases r1 with
 |cons hc r1=>
  cases r1 with
  |cons hl r1=>
   cases r1 with
   |cons hm r1=>
    cases r1;cases hc;let(t,e):=(show∃t ,_=Jk.int k.1.2 t from hl)
    subst e;let(u,e):=(show∃t ,_=Jk.int k.2 t from hm)
    subst e;exact(_,o,n,_,t,u,its2.toArray,rfl,q1,q2,q3,t2,by simpa using lV r2,o2,_,n2,g1,g2,g3,by simpa using jG r2)
end
end
end L2
namespace L2
open PySem PySem.W PyProof.Rows Sp
section
variable {prog:Jn}{w:Jo}{A:Ju}{E:Jk->Js->Prop}{s:Js}
def oJ {n:Nat}{P:Fin->Js->Prop}{κ:SortKind}(ho:s.heap.get? a=some (seqObj "list" vs.toArray n))(hz:⇑vs<=sizeLine)
  (hk:2<=⇑vs->∀Q:SortKind->Js->Prop ,Q κ {s with heap:=((s.heap.update a<|Jt.mapSeq λJ=> #[]).push<|seqObj "tuple" vs.toArray 0).push<|seqObj "list" #[] 0}->Jw (Jx prog w) A (keyKind' vs.toArray) Q (λJ J=>False) {s with heap:=((s.heap.update a<|Jt.mapSeq λJ=> #[]).push<|seqObj "tuple" vs.toArray 0).push<|seqObj "list" #[] 0})
  (hA:2<=⇑vs->Cmp prog w A {s with heap:=((s.heap.update a<|Jt.mapSeq λJ=> #[]).push<|seqObj "tuple" vs.toArray 0).push<|seqObj "list" #[] 0} κ (vs.zip vs))
  (h:∀vs':↑Jk ,vs'.Perm vs->P (.done<|.ret .none) {s with heap:=sortedHeap s.heap a vs vs'.toArray}):
  Jw (Jx prog w) A (Jl.«list.sort» ([.ref a],[])) P E s:=by
 have ha:a<↥s:=Fy ho;obtain⟨e1,o1⟩:∃e1,(s.heap.update a<|Jt.mapSeq λJ=> #[]).get? a=some (seqObj "list" #[] e1):=(_,get?_update_seq ho<|λJ=> #[])
 rw[list_sort_plain];refine Jy<|listItems_at ho rfl<|Jy<|listUpdate_at ho rfl ?_ (by rw[FI];omega)<|FU _;refine Jy (seqEpoch_at o1 rfl<|Jy<|wpAny_newTuple ?_<|by show ⇑vs<=_;omega);refine Jy<|wpAny_newList ?_<|FU _;refine JH ?_;have o6:(((s.heap.update a<|Jt.mapSeq λJ=> #[]).push<|seqObj "tuple" vs.toArray 0).push<|seqObj "list" #[] 0).get? a=some (seqObj "list" #[] e1):=Fx _<|Fx _ o1;dsimp only;have zz:(vs.zip vs).map (·.2)=vs:=List.map_snd_zip<|Fw _
 have fin:∀out:Array Jk,out.toList.Perm vs->Jw (Jx prog w) A (do
   let touched:=(<-seqEpoch a) !=e1
   Jl.List.listUpdate (.ref a) λJ=>out
   if touched then rule "list.sort.modified";raiseError "ValueError" "list modified during sort"
   ret .none) P E {s with heap:=((s.heap.update a<|Jt.mapSeq λJ=> #[]).push<|seqObj "tuple" vs.toArray 0).push<|seqObj "list" #[] 0}:=λout hp=>by
  have hl:=hp.length_eq;rw[F6]at hl;refine Jy<|seqEpoch_at o6 rfl<|Jy<|listUpdate_at o6 rfl ?_ (FU _) ∅;simp only[bne_self_eq_false,Gu,if_false];exact JC<|h out.toList hp
 by_cases n2:⇑vs<2
 .rw[np (by rw[FI];exact n2),np<|by rw[FI];exact n2];refine Jy<|JC ?_;rw[StateT.run_pure];refine Jy<|JC ?_;have out:((arrOf<|SortSt.mk' general' (vs.toArray.zip vs.toArray) #[] 7 none).map (·.2)).toList.Perm vs:=by show ((vs.toArray.zip vs.toArray).map (·.2)).toList.Perm vs;simp [zz]
  exact fin _ out
 .rw[gV (by rw[FI];exact n2),gV<|by rw[FI];exact n2];refine Jy (J3 (hk ∅ (λκ' s'=>κ'=κ/\s'=_) (rfl,rfl)) (λκ' s' hκ=>?_) λJ J z=>z.elim);let(rfl,rfl):=hκ;have run:=Bg (E:=E) (g:=7) (c:=vs.toArray.zip vs.toArray) (Q:=λJ st=>∃c' pe g ,st=ss κ' c' pe g/\c'.toList.Perm (vs.zip vs)) (hA ∅) ⇑_ λc' pe g hc=>(c',pe,g,rfl,hc)
  unfold wpS at run;refine Jy (J3 run (λr s' hr=>?_) λJ J z=>z);let(u,st):=r;let(rfl,c',pe,g,e,hc):=hr;dsimp only at e;subst e;refine fin (c'.map (·.2)) ?_;have:=hc.map (·.2);rw[zz]at this;simpa using this
end
def Vals.perm:∀ {us us':↑Jk},us'.Perm us->∀ {ys:↑V},Vals ys us->∃ys':↑V,ys'.Perm ys/\Vals ys' us':=by
 intro us us' h
 induction h with
 |nil=>intro ys v;exact(ys,FO.refl _,v)
 |cons x h ih=>
  intro ys v;cases v with|cons r t=>let(ys',p,t'):=ih t;exact(_::ys',p.cons _,.cons r t')
 |swap x y l=>
  intro ys v;cases v with
  |cons r t=>
   cases t with|cons r2 t=>exact(_,FO.swap ..,.cons r2<|.cons r t)
 |trans h1 h2 ih1 ih2=>
  intro ys v;let(y2,p2,v2):=ih2 v;let(y1,p1,v1):=ih1 v2;exact(y1,p1.trans p2,v1)
section
variable {X:Cx}{P4:↑(Jq×Jt)}{σ:St}{H:Hp}{s:Js}
def tJ {vs:↑Jk}{A:Ju}{E:Jk->Js->Prop}{Q:SortKind->Js->Prop}(h0:0<⇑vs)(h:∀v∈vs ,∃k m,Lb X.prog X.w s.heap v k m)(q:Q (tuples' false) s):
  Jw (Jx X.prog X.w) A (keyKind' vs.toArray) Q E s:=by
 have fs:∃fs:↑Jk,KatTups s.heap vs fs/\⇑fs=⇑vs/\∀f∈fs,Looks (Jx X.prog X.w) s.heap (typeOf f) (.type "tuple"):=by
  clear h0
  induction vs with
  |nil=>exact([],trivial,rfl,λf hf=>nomatch hf)
  |cons v vs ih=>
   let(fs,h1,h2,h3):=ih λv hv=>h v<|FX _ hv;let(k,m,a,o,n,c,t,u,its,rfl,g1,g2,g3,(o2,q1,q2,_),_):=h v FQ;refine(.ref c::fs,KatTups.cons g1 g2 g3 rfl h1,by rw[FA,FA,h2],λf hf=>?_);rcases FC.mp hf with rfl|hf
   rw[<-q2];exact (Looks.ld q1).andThen .now;exact h3 f hf
 let(fs,h1,h2,h3):=fs;exact kat_kind h1 ∅ h3 ↥_ q
def mo (hu:X.A.units+64<Jv):CallR X (.builtin "sorted") (λxs H Q=>∃ (p:Jq) (ys:↑V) ,xs=[.ref p]/\SqL X.K H p ys/\(∀v∈ys ,∃k,Lc X.K H v k)/\∀ys':↑V,ys'.Perm ys->∀q,H q=none->Q (.ref q) (upd H q<|.lst ys')):=by
 intro P4 s σ H xs us Q I r h;let(p,ys,rfl,hq,hr,q):=h;let(u,rfl,ru):=PM r;cases ru;let(its,rv,pl',hz):=I.list hq;have il:=⇑rv;refine Calls.call_function_entry kind_sorted plain_sorted entry_sorted (args_sorted1 _) ?_;unfold Jl.«sorted»;refine Jy (m:=checkCount "sorted" 1 1 _)<|JC<|Jy<|collect_list pl'.isList ?_ ∅;refine Jy<|wpAny_newList ?_ ∅;have sz:((s.heap.push<|seqObj "list" #[] 0).update ↥s (Jt.mapSeq (· ++its.toArray))).objs.size=↥s+1:=by rw[Iu,size_push']
 have keep:∀b o,s.heap.get? b=`o->(((s.heap.push<|seqObj "list" #[] 0).update ↥s (Jt.mapSeq (· ++its.toArray))).push<|seqObj "list" its.toArray 0).get? b=`o:=λb o e=>by have lt:b<↥s:=Fy e;refine Fx _ ?_;rw[Hj _ _ _ _<|FJ lt];exact Fx _ e
 have oD:(((s.heap.push<|seqObj "list" #[] 0).update ↥s (Jt.mapSeq (· ++its.toArray))).push<|seqObj "list" its.toArray 0).get? (↥s+1)=some (seqObj "list" its.toArray 0):=by rw[<-sz];exact FM _ rfl
 show Jw _ _ _ _ _ {s with heap:=((s.heap.push<|seqObj "list" #[] 0).update ↥s (Jt.mapSeq (· ++its.toArray))).push<|seqObj "list" its.toArray 0};rw[sz];generalize hB:((s.heap.push<|seqObj "list" #[] 0).update ↥s (Jt.mapSeq (· ++its.toArray))).push (seqObj "list" its.toArray 0)=B at*;have lD:↥s<=↥s+1:=Gj _;have keepE:∀ (vs:↑Jk) b o,s.heap.get? b=`o->(((B.update (↥s+1)<|Jt.mapSeq λJ=> #[]).push<|seqObj "tuple" vs.toArray 0).push<|seqObj "list" #[] 0).get? b=`o:=λvs b o e=>by have lt:b<↥s:=Fy e;refine Fx _<|Fx _ ?_;rw[Hj _ _ _ _<|FJ<|Iy lt];exact keep b o e
 have row:∀ (s':Js),Inv X P4 σ H s'->∀v∈its,∃k m,Lb X.prog X.w s'.heap v k m:=λs' I' v hv=>by
  let(i,hi):=Hg hv;obtain⟨y,hy⟩:∃y,ys[i]?=`y:=(_,FS (by have:=(FD.mp hi).1;omega))
  let(v',e3,r3):=rv.get hy;rw[hi]at e3;cases e3;let(k,hk):=hr y<|FK hy;exact(_,_,AV I' hk r3)
 have IE:=I.kept (t':=s.toks)<|keepE its;refine Jy<|JH<|JB slot_list_sort (_,oD,rfl) entry_list_sort ?_<|args_list_sort _;refine oJ (s:={s with heap:=B}) (κ:=tuples' false) oD ∅ (λh2 Q' hq'=>?_) (λh2 x hx y hy Q' hq'=>?_) λvs' hp=>?_;exact tJ (X:=X) ∅ (row _ IE) hq';have mem:∀x∈its.zip its,x.1∈its:=λx hx=>(HG (a:=x.1) (b:=x.2) hx).1;let(k,m,h1):=row _ IE x.1<|mem x hx;let(k',m',h2):=row _ IE y.1<|mem y hy;exact AU (by show X.A.units+2<Jv;omega) h1 h2<|hq' _
 .let(ys',py,v'):=Vals.perm hp rv;have hl:=py.length_eq;obtain⟨e1,o1⟩:∃e1,(B.update (↥s+1)<|Jt.mapSeq λJ=> #[]).get? (↥s+1)=some (seqObj "list" #[] e1):=(_,get?_update_seq oD<|λJ=> #[])
  have o6:(((B.update (↥s+1)<|Jt.mapSeq λJ=> #[]).push<|seqObj "tuple" its.toArray 0).push<|seqObj "list" #[] 0).get? (↥s+1)=some (seqObj "list" #[] e1):=Fx _<|Fx _ o1;refine(_,rfl,JC (_,rfl,.ref<|↥s+1,_,I.laid (t':=s.toks) (o:=.lst ys') (λb o e=>?_) lD ?_,rfl,q ys' py _<|I.hok.fresh lD));have lt:b<↥s:=Fy e;unfold sortedHeap;rw[Hj _ _ _ _<|FJ<|Iy lt];exact keepE its b o e;exact(∅,_,_,v',get?_update_seq o6 λJ=>vs'.toArray)
end
end L2
namespace L2
open PySem PySem.W PyProof.Rows
end L2
namespace L2
open PySem PySem.Spec PyProof.Rows
section
variable {X:Cx}{E:XK}{a:Expr}{p pos:JY}{l:KU->M ↑W}
noncomputable def Oy (w:W):Option ((↑Int×Int)×Int):=match w with
 |.tup [.tup l,.int i,.int m]=>(NU iOf l).map λks=>((ks ,i) ,m)
 |_=>none
def vL {α β:Type}{f:α->Option β}:∀ {l:↑α}{m:↑β}{i:Nat}{x:α},NU f l=`m->l[i]?=`x->∃y,m[i]?=`y/\f x=`y:=by
 intro l
 induction l with
 |nil=>intro m i x h e;simp at e
 |cons z l ih=>
  intro m i x h e;unfold NU at h;cases e1:f z with
  |none=>rw[e1]at h;cases h
  |some y=>
   cases e2:NU f l with
   |none=>rw[e1,e2]at h;cases h
   |some r=>
    rw[e1,e2]at h;cases h;cases i with
    |zero=>cases e;exact(y,rfl,e1)
    |succ i=>
     let(y',g1,g2):=ih (m:=r) (i:=i) (x:=x) e2 e;exact(y',g1,g2)
set_option tactic.hygienic true in
def yg {K:Zf}{w:W}(h:Oy w=`k)(r:Rv K o w v):Lc K o.H v k:=by
 unfold Oy at h;split at h;rename_i l i m;let(ks,e,rfl):=FE.mp h;unfold Rv at r;let(a,vs,rfl,s,r):=r;unfold Rvs at r;let(v1,r1,rfl,h1,r):=r;unfold Rvs at r;let(v2,r2,rfl,h2,r):=r;unfold Rvs at r;let(v3,r3,rfl,h3,r):=r;unfold Rvs at r;subst r;rw[OE.mp h2,OE.mp h3]at s;unfold Rv at h1;let(c,us,rfl,s1,r1):=h1;have e2:us=ks.map V.int:=cS g0 e r1;subst e2;exact(a,c,rfl,s,s1);cases h
end
section
open Sem (wp)
section
variable {X:Cx}{P4:↑(Jq×Jt)}{σ:St}{H:Hp}{s:Js}
def lB {b:Bool}{ep:Nat}(I:Inv X P4 σ H s)(e:H a=some (.dN b xs ep)):(a==JM)=false/\∃es,RawD s.heap a es ep/\es.size=⇑xs/\∀ (i:Nat) (y:PKy×Jq×V),xs[i]?=`y->∃d,es[i]?=`d/\d.key=.ref y.2.1/\RelV y.2.2 d.val:=by
 let(_,hs,ys,r,o,es,h1,h2,h3,h4,_):=(show ObjOk X.prog X.w H s.heap a (.dN b xs ep) from I.hok a _ e)
 have gt:∀ {xs:↑(PKy×Jq×V)}{ys:↑(PKy×Jq×Jk)},KN xs ys->∀ {i:Nat}{x:PKy×Jq×V},xs[i]?=`x->∃y,ys[i]?=`y/\x.2.1=y.2.1/\RelV x.2.2 y.2.2:=λ{xs ys} r=>by
  induction r with
  |nil=>intro i x e;simp at e
  |cons hh _ ih=>
   intro i x e;cases i with|zero=>cases e;exact(_,rfl,hh.2.1,hh.2.2)|succ i=>exact ih e
 refine(hs,es,(o,h1,h2,h3),?_,λi y ei=>?_);rw[<-F6,h4,Fv];exact (Paired.length r).symm;let(z,ez,e1,e2):=gt r ei;refine(_,by rw[<-Gb,h4,FB,ez];rfl,by rw[e1],e2)
end
section
variable {X:Cx}{E:XK}{e a b:Expr}
noncomputable def MQ (b:Bool)(k:PKy):W:=match b with|false=>.tup [.int k.1,.tup<|k.2.map W.int]|true=>.tup [.tup<|k.2.map W.int,.int k.1]
theorem qp {K:Zf}:∀ns:↑Int,Rvs K o (ns.map W.int) (ns.map V.int)|[]=>Rvs.nil|n::r=>Rvs.cons (OE.mpr rfl)<|qp r
def qR {K:Zf}{b:Bool}(h:KeyN K o.H b c k):Rv K o (MQ b k) (.ref c):=by
 let(d,h1,h2):=h;have r2:Rv K o (.tup<|k.2.map W.int) (.ref d):=by unfold Rv;exact(d,_,rfl,h2,qp _)
 cases b with|false=>unfold MQ;dsimp only;unfold Rv;exact(c,_,rfl,h1,Rvs.cons (OE.mpr rfl)<|Rvs.cons r2 Rvs.nil)|true=>unfold MQ;dsimp only;unfold Rv;exact(c,_,rfl,h1,Rvs.cons r2<|Rvs.cons (OE.mpr rfl) Rvs.nil)
noncomputable def Ot (K:Zf)(neg:Bool):R2:=λx y H Q=>∃a b xs ep c k,x=.ref c/\y=.ref a/\H a=some (.dN b xs ep)/\(∀x∈xs ,KeyN K H b x.2.1 x.1)/\KeyN K H b c k/\Q (.bl<|(PL (kvN xs) k).isSome !=neg) H
def Fu (hu:X.A.units+64<Jv):OpR X (J4 .In) (Ot X.K false):=by intro P4 s σ H x y v u Q I rx ry h;let(a,b,xs,ep,c,k,rfl,rfl,e,hk,hc,q):=h;cases rx;cases ry;let(z,hd,ys,rel,dd):=n8 I e hk;refine wpAny_in_heap (knd:=ja X.prog X.w b) (by show X.A.units+1+1<Jv;omega) (gf I hc) hd dd (_,H,I.tok _,?_,q);have:=(rel.val k).isSome_eq;rw[GZ]at this;rw[<-this];cases (PL (kvN xs) k).isSome<;>rfl
def yT (hu:X.A.units+64<Jv):OpR X (J4 .NotIn) (Ot X.K true):=by intro P4 s σ H x y v u Q I rx ry h;let(a,b,xs,ep,c,k,rfl,rfl,e,hk,hc,q):=h;cases rx;cases ry;let(z,hd,ys,rel,dd):=n8 I e hk;have:=(rel.val k).isSome_eq;rw[GZ]at this;refine wpAny_notIn_heap (knd:=ja X.prog X.w b) (by show X.A.units+1+1<Jv;omega) (gf I hc) hd dd (_,H,I.tok _,?_,q);rw[<-this];cases (PL (kvN xs) k).isSome<;>rfl
noncomputable def Mu (neg:Bool)(x y:W):M W:=λh=>match LU y h with
 |some (b ,ks,ws)=>match MN b x with|some k=>.ok (.bl<|(atK ks ws k).isSome !=neg) h|none=>.bad
 |none=>.bad
def yK {neg:Bool}:OpM X E (Ot X.K neg) (Mu neg):=by
 intro o x y vx vy Q R rx ry h;unfold Mu at h;cases e1:LU y o.h with
 |none=>rw[e1]at h;exact h.elim
 |some t=>
  let(b,ks,ws):=t;rw[e1]at h;cases e2:MN b x with
  |none=>simp only[e2]at h;exact h.elim
  |some k=>
   simp only[e2]at h;let(a,xs,ep,rfl,g1,g2,g3,g4):=og R e1 ry;let(c,rfl,hc):=lR e2 rx;have hv:=dA (x:=k) (kvs:=kvN xs) (ks:=ks) (ws:=ws) (by unfold kvN;rw[F4];exact g2) (by unfold kvN;rw[F4];exact g4);have e3:(PL (kvN xs) k).isSome=(atK ks ws k).isSome:=by
    cases e4:atK ks ws k with|none=>rw[e4]at hv;rw[hv];rfl|some w=>rw[e4]at hv;let(v,hv,_):=hv;rw[hv];rfl
   refine(a,b,xs,ep,c,k,rfl,rfl,g1,g3,hc,?_);rw[e3];exact Ps.pr (c:=cg X E) (r:=Rv X.K) h R<|OD.mpr rfl
end
end
section
section
variable {X:Cx}{E:XK}{e a b:Expr}{pos p p2 pos2:JY}{l:KU->M ↑W}
def su:∀bs:↑Bool,((List.range ⇑bs).any λi=>(bs[i]?).getD true)=bs.any id:=λbs=>by
 rw[Gv,G1,G1];constructor
 .rintro⟨i,hi,h⟩
  have hi:=G8.mp hi;rw[FS hi]at h;exact(_,HA hi,h)
 .rintro⟨b,hb,h⟩
  let(i,hi,e):=List.mem_iff_getElem.mp hb;refine(i,G8.mpr hi,?_);rw[FS hi,e];exact h
def xv (hc:X.calm=true):CallR X (.builtin "any") (λxs H Q=>∃ (p:Jq) (bs:↑Bool) ,xs=[.ref p]/\SqL X.K H p (bs.map V.bl)/\Q (.bl<|bs.any id) H):=by
 intro P4 s σ H xs us Q I r h;let(p,bs,rfl,hq,q):=h;let(u,rfl,ru):=PM r;cases ru;let(its,rv,pl,hz):=I.list hq;have hb:=jW rv;have hl:=pl.isList;have hlt:p<↥s:=by let(_,e,_):=hl;exact Fy e
 refine call_any_walk<|wpAny_pyIter_list hl ?_
 refine(↥s,[↥s,p],[↥s],its.toArray.size,_,_,λi=>(bs[i]?).getD true,rfl,Walks.list (A:=X.A.in1) (I.ok.hd hc) _ p (FJ hlt) its.toArray,
  ((_,FM _ rfl,rfl,rfl),hl.push _),λi v s' Q' E' hP hQ=>?_,λh' tk hk=>?_)
 let(b,e,rfl):=hb.get i v (by simpa using hP);simp only[e,Hc]at hQ;exact JJ hQ
 .have e:((List.range its.toArray.size).any λi=>(bs[i]?).getD true)=bs.any id:=by rw[FI,⇑hb];exact su bs
  rw[e];exact(.bl _,H,I.kept (t':=tk)<|LSm.kept_iter hk,rfl,q)
noncomputable def Lr (ws:↑W):M W:=match ws with
 |[w]=>bd (Na w) λl=>match NU bOf l with|some ns=>pr (.bl<|ns.any id)|none=>no
 |_=>no
def Cp (hc:X.calm=true)(hm:X.mg "any"=none)(ha:JA X E [a] l)(hg:Gl X "any")(he:J1 [a] X.env=(false ,JX a X.env)::J1 [] X.env)(hpl:(JZ pos<|J1 [] X.env).any (·.1)=false):JE X E (.Call (.Name "any" p) [a] [] pos) (Ng Lr l):=
 cM (xv hc) (λo ws vs Q R rv h=>by
  unfold Lr at h;split at h
  .let(v,rfl,r):=rv.one;let(l,a,us,rfl,s,r,h):=bT R r h;cases e:NU bOf l with
   |none=>rw[e]at h;exact h.elim
   |some ns=>
    rw[e]at h;rw[cS xB e r]at s;exact(a,ns,rfl,s,h.pr R<|OD.mpr rfl)
  .exact h.elim) hg hm PyProof.Rows.boot_any ha (he:=he) (hpl:=hpl)
noncomputable def tTR1 (ta:TA):TE:=λσ H Q=>ta σ H λvs H1=>∃j:Int,vs=[.int j]/\(-(2^62)<=j/\j<2^62)/\j.toNat<=sizeLine/\∀l,H1 l=none->Q (.ref l) (upd H1 l<|.tup<|Mx 0 j.toNat)
def o3 (hc:X.calm=true)(hgl:Gl X "tuple")(hml:X.mg "tuple"=none)(hg:Gl X "range")(hm:X.mg "range"=none)(ha:PA X [a] ta)(hs:J1 [a] X.env=[(false ,JX a X.env)]:=by rfl)
  (he:J1 [.Call (.Name "range" p2) [a] [] pos2] X.env=(false ,JX (.Call (.Name "range" p2) [a] [] pos2) X.env)::J1 [] X.env:=by rfl)(hpl:(JZ pos<|J1 [] X.env).any (·.1)=false:=by rfl):
  PE X (.Call (.Name "tuple" p) [.Call (.Name "range" p2) [a] [] pos2] [] pos) (tTR1 ta):=by
 intro P4 s σ H Q I h;refine Kq<|bu I hgl hml PyProof.Rows.boot_tuple ?_ ↥_ ↥_;refine PyProof.Rows.callWith_type1 ?_ he hpl;rw[he];refine Calls.spliced_cons ?_;refine Call_ (bu I hg hm boot_range<|PyProof.Rows.callWith_type1 (thn (ha pos2 P4 s σ H _ I h) λus s1 qz=>?_) (by rw[hs];rfl)<|by rfl);let(vs,H1,I1,r1,q1):=qz;let(j,e,(q3,q4),hz,q):=q1;subst e;cases r1 with
 |cons r rr=>
  cases rr;let(t,rfl):=r;refine call_range_1<|Calls.spliced_nil ?_;have I2:Inv X P4 σ H1 {s1 with heap:=s1.heap.push {cls:=.type "range",data:=.fields #[.int 0 s1.toks,.int j t,.int 1<|s1.toks+1]},toks:=s1.toks+1+1}:=I1.kept λb o e=>Fx _ e;have hn:Jl.Range.rangeSize 0 j 1=(j.toNat:Int):=by rw[rangeSize_one];split<;>omega
  refine dL (I2.ok.hd hc) (IsRange.new ..) (small_one ↥_ ↥_ q3 q4) hn (F1 hz ↥_) hz λh' tk acc' hk hacc=>?_;have vs:Vals (Mx 0 j.toNat) acc'.toList:=c8 _ _ _ (by rw[F6,hacc.1]) λk v e=>by let(t,e):=hacc.2 k v (by rw[<-Gb];exact e);exact(t,by rw[e];congr 1;omega)
  have I3:Inv X P4 σ H1 {s1 with heap:=h',toks:=tk}:=I2.kept (t':=tk) hk;exact(.ref _,_,I3.laid (t':=tk) (λb o e=>Fx _ e) (Fw _) (show ObjOk X.prog X.w _ (h'.push {cls:=.type "tuple",data:=.seq acc'}) _ (.tup<|Mx 0 j.toNat) from(by rw[dH];exact hz,acc'.toList,vs,by rw[Hf];exact IsTupD.new _ _)),rfl,q _<|I3.hok.fresh<|Fw _)
noncomputable def PB (ws:↑W):M W:=match ws with|[.int j]=>gd ((-(2^62)<=j/\j<2^62)/\j.toNat<=sizeLine) (pr<|.tup<|My 0 j.toNat)|_=>no
def pk (hc:X.calm=true)(hml:X.mg "tuple"=none)(hm:X.mg "range"=none)(ha:JA X E [a] l)(hgl:Gl X "tuple")(hg:Gl X "range")(hs:J1 [a] X.env=[(false ,JX a X.env)])
  (he:J1 [.Call (.Name "range" p2) [a] [] pos2] X.env=(false ,JX (.Call (.Name "range" p2) [a] [] pos2) X.env)::J1 [] X.env)(hpl:(JZ pos<|J1 [] X.env).any (·.1)=false):JE X E (.Call (.Name "tuple" p) [.Call (.Name "range" p2) [a] [] pos2] [] pos) (Ng PB l):=
 (o3 hc hgl hml hg hm ha.h hs he hpl).imp λσ H Q h=>by
  let(o,ρ,rfl,R,S,h):=h;refine(o,ρ,rfl,R,S,Ps.bd h λp x vx e1 R1 r1 h1=>?_);unfold PB at h1;split at h1;let(v,rfl,r):=r1.one;let(hz,h1):=h1.gd;exact(_,by rw[OE.mp r],hz.1,hz.2,λl hl=>fk R1 hl (dE _ _) h1);exact h1.elim
def wj {x:Str}{i:Int}(hm:X.mg x=some (.ref c))(hq:∀H ,SqT X.K H c [.ref d,.int i])(hq2:∀H ,SqT X.K H d<|ks.map V.int)(hg:Gl X x:=by rfl)(hd:(x==("__debug__":Str))=false:=by decide):JE X E (.Name x pos) (mC<|MQ true (i ,ks)):=
 iz (v:=.ref c) hg hm rfl (λo=>qR (b:=true) (k:=(i ,ks)) (d,hq _,hq2 _)) hd
end
end
section
open Sem (wp)
section
variable {prog:Jn}{w:Jo}{A:Ju}{E:Jk->Js->Prop}{s:Js}
def pR {ep:Nat}{Q:Jk->Js->Prop}(hs:(d==JM)=false)(hd:RawD s.heap d es ep)
  (k:Q (.ref ↥s) {s with heap:=s.heap.push {cls:=.type "dict_items",data:=.fields #[.ref d]}}):
  Jw (Jx prog w) A (call (.builtin "dict.items") [.ref d]) Q E s:=by
 let(od,g1,g2,g3):=hd;have hT:s.TypeIs (.ref d) "dict":=(_,g1,g2.1)
 refine JB F.slot_dict_items hT F.entry_dict_items ?_<|F.args_dict_items_1 _;show Jw _ _ (((typeOf (.ref d)>>=_)>>=_)>>=_) _ _ s;refine Jy<|Jy<|Jy<|wpAny_typeOf (T:="dict") hT ?_;show Jw _ _ (pure ()) _ _ s;refine JC ?_;show Jw _ _ (pure d) _ _ s;refine JC ?_;show Jw _ _ (Jl.Dict.showsAll d>>=_) _ _ s;unfold Jl.Dict.showsAll;rw[hs,gV ↥_];refine Jy<|JC ?_;refine Jy (Kv ?_<|show 1<=_ by decide);exact JC (_,rfl,k)
def pK {ep:Nat}{Q:Jk->Js->Prop}(hv:s.heap.IsItemsView v d)(hd:RawD s.heap d es ep)
  (k:Q (.ref ↥s) {s with heap:=s.heap.push {cls:=.type "dict_itemiterator",data:=.fields #[.none,.bool false,.ref d,.int 0 0,.int (es.size:Nat) 0,.int ep 0,.none,.none]}}):
  Jw (Jx prog w) A (pyIter<|.ref v) Q E s:=by
 have hT:=hv.typeIs (s:=s);let(o,h1,h2,h3):=hv;let(od,g1,g2,g3):=hd;refine wpAny_pyIter_slot hT F.slot_dict_items_iter<|JB F.slot_dict_items_iter hT F.entry_dict_items_iter ?_<|F.args_dict_items_iter_1 _;show Jw _ _ ((field (.ref v) 0>>=_)>>=_) _ _ s;refine Jy<|Jy<|Ku h1 h3 (x:=.ref d) rfl ?_;refine JC ?_;show Jw _ _ ((dictEntries d>>=_)>>=_) _ _ s;refine Jy<|Jy<|wpAny_dictEntries g1 g3<|Jy<|wpAny_dictEpoch g1 g3 ?_;refine Kv ?_ (show 8<=_ by decide);exact JC (_,rfl,"dict_itemiterator",_,(_,FM _ rfl,rfl),F.slot_dict_itemiterator_next.lookup,k)
def kJ:Jl.Dict_items.ownsTuple "dict_itemiterator"=true:=↥_
def sN {i n ep:Nat}{ok ov:Jk}{Q:Option Jk->Js->Prop}(hi:IsItemIter s.heap it d i n ep ok ov)(hd:RawD s.heap d es ep)(hn:es.size=n)(he:es[i]?=`e)
  (k:∀h':Jp ,IsItemIterOut h' it d (i+1) n ep e.key e.val ↥s->h'.get? ↥s=some {cls:=.type "tuple",data:=.seq #[e.key,e.val]}->(∀b o ,b≠it->s.heap.get? b=`o->h'.get? b=`o)->Q (some<|.ref ↥s) {s with heap:=h'}):
  Jw (Jx prog w) A (Kc<|.ref it) Q E s:=by
 let(hp,g,dr,tk,os):=s;have hT:Js.TypeIs (hp,g,dr,tk,os) (.ref it) "dict_itemiterator":=(_,hi,rfl)
 let(od,g1,g2,g3):=hd;unfold Kc;refine Jy<|wpAny_attempt<|wpAny_callSpecial?_slot (name:=Str.ofString "__next__") hT F.slot_dict_itemiterator_next<|JB F.slot_dict_itemiterator_next hT F.entry_dict_itemiterator_next ?_<|F.args_dict_itemiterator_next_1 _;show Jw _ _ (((typeNameOfWhole (.ref it)>>=_)>>=_)>>=_) _ _ _;refine Jy<|Jy<|Jy<|wpAny_typeNameOfWhole_itemiter hT<|JC ?_;refine Jy<|wpAny_fieldsOf hi rfl ?_;simp only[kJ,if_true];show Jw _ _ (dictEntries d>>=_) _ _ _;refine Jy<|wpAny_dictEntries g1 g3 ?_;have z:((es.size:Int) !=(n:Int))=false:=by rw[hn];simp
 show Jw _ _ (if ((es.size:Int) !=(n:Int))=true then _ else dictEpoch d>>=_) _ _ _;rw[z,gV ↥_];refine Jy<|wpAny_dictEpoch g1 g3 ?_;have z2:((ep:Int) !=(ep:Int))=false:=⇑_;show Jw _ _ (if ((ep:Int) !=(ep:Int))=true then _ else _) _ _ _;rw[z2,gV ↥_];refine JC ?_;have z3:(if ((i:Nat):Int)<0 then none else es[((i:Nat):Int).toNat]?)=`e:=by rw[gV ∅,G0];exact he
 dsimp only;rw[z3];dsimp only;refine Jy<|Jy<|wpAny_typeNameOfWhole_itemiter hT<|JC ?_;refine Jy<|wpAny_isOneOf_itemiter hT ?_;show Jw _ _ (setField (.ref it) 3 (Ke<|(i:Int)+1)>>=_) _ _ _;refine Jy (KF hi ⇑_ λh1 e1 s1=>?_);have s1:Ga it hp h1:=s1;have e1:IsItemIter h1 it d (i+1) n ep ok ov:=by have q:((i+1:Nat):Int)=(i:Int)+1:=∅;unfold IsItemIter;rw[q];simpa [Ke] using e1
 have hT1:Js.TypeIs (h1,g,dr,tk,os) (.ref it) "dict_itemiterator":=(_,e1,rfl)
 refine Jy<|JH<|Jy<|wpAny_isOneOf_itemiter hT1<|Jy<|wpAny_isOneOf_itemiter hT1 ?_;show Jw _ _ (Jl.Dict_items.pairFromOwner (.ref it) 6 e.key e.val) _ _ (h1,g,dr,tk,os);unfold Jl.Dict_items.pairFromOwner;refine Jy<|wpAny_newTuple ?_;have z1:h1.objs.size=hp.objs.size:=s1.1;have il:it<hp.objs.size:=Fy hi;have nt:hp.objs.size≠it:=GU il;have t2:(h1.push {cls:=.type "tuple",data:=.seq #[e.key,e.val]}).get? hp.objs.size=some {cls:=.type "tuple",data:=.seq #[e.key,e.val]}:=by rw[<-z1];exact FM _ rfl
 have e2:IsItemIter (h1.push {cls:=.type "tuple",data:=.seq #[e.key,e.val]}) it d (i+1) n ep ok ov:=Fx _ e1;have k2:∀b o,b≠it->hp.get? b=`o->(h1.push {cls:=.type "tuple",data:=.seq #[e.key,e.val]}).get? b=`o:=λb o hb q=>Fx _<|s1.extBut b o hb q;show Jw _ _ (Jl.Dict_items.ownedTupleIsFree (.ref it)>>=_) _ _ (h1.push {cls:=.type "tuple",data:=.seq #[e.key,e.val]},g,dr,tk,os);rw[z1];generalize h1.push {cls:=.type "tuple",data:=.seq #[e.key,e.val]}=h2 at e2 t2 k2;refine Jy ?_;unfold Jl.Dict_items.ownedTupleIsFree;refine Jy<|Ku e2 rfl (x:=.none) rfl<|JC ?_;simp only[if_true];refine Jy<|Ku e2 rfl (x:=ok) rfl<|Jy<|Ku e2 rfl (x:=ov) rfl ?_;refine Jy (KF e2 ⇑_ λh3 e3 s3=>?_);refine Jy (KF e3 ⇑_ λh4 e4 s4=>?_);refine Jy (KF e4 ⇑_ λh5 e5 s5=>?_);refine Jy (KF e5 ⇑_ λh6 e6 s6=>?_);have ke:∀b o,b≠it->h2.get? b=`o->h6.get? b=`o:=λb o hb q=>s6.extBut b o hb<|s5.extBut b o hb<|s4.extBut b o hb<|s3.extBut b o hb q;exact Jy<|KI<|JC<|JC (_,rfl,JC<|k h6 e6 (ke _ _ nt t2) λb o hb q=>ke b o hb<|k2 b o hb q)
def xi {i n ep:Nat}{ok ov:Jk}{Q:Option Jk->Js->Prop}(hh:A.in1.handled=none)(hi:IsItemIter s.heap it d i n ep ok ov)(hd:RawD s.heap d es ep)(hn:es.size=n)(he:es[i]?=none)
  (k:∀h':Jp ,HI it s.heap h'->Q none {s with heap:=h'}):
  Jw (Jx prog w) A (Kc<|.ref it) Q E s:=by
 have hT:s.TypeIs (.ref it) "dict_itemiterator":=(_,hi,rfl)
 let(od,g1,g2,g3):=hd;unfold Kc;refine Jy<|wpAny_attempt<|wpAny_callSpecial?_slot (name:=Str.ofString "__next__") hT F.slot_dict_itemiterator_next<|JB F.slot_dict_itemiterator_next hT F.entry_dict_itemiterator_next ?_<|F.args_dict_itemiterator_next_1 _;show Jw _ _ (((typeNameOfWhole (.ref it)>>=_)>>=_)>>=_) _ _ _;refine Jy<|Jy<|Jy<|wpAny_typeNameOfWhole_itemiter hT<|JC ?_;refine Jy<|wpAny_fieldsOf hi rfl ?_;simp only[kJ,if_true];show Jw _ _ (dictEntries d>>=_) _ _ _;refine Jy<|wpAny_dictEntries g1 g3 ?_;have z:((es.size:Int) !=(n:Int))=false:=by rw[hn];simp
 show Jw _ _ (if ((es.size:Int) !=(n:Int))=true then _ else dictEpoch d>>=_) _ _ _;rw[z,gV ↥_];refine Jy<|wpAny_dictEpoch g1 g3 ?_;have z2:((ep:Int) !=(ep:Int))=false:=⇑_;show Jw _ _ (if ((ep:Int) !=(ep:Int))=true then _ else _) _ _ _;rw[z2,gV ↥_];refine JC ?_;have z3:(if ((i:Nat):Int)<0 then none else es[((i:Nat):Int).toNat]?)=none:=by rw[gV ∅,G0];exact he
 dsimp only;rw[z3];dsimp only;refine Jy<|Jy<|wpAny_typeNameOfWhole_itemiter hT<|JC ?_;show Jw _ _ (setField (.ref it) 2 .none>>=_) _ _ s;refine Jy (KF hi ⇑_ λh1 e1 s1=>?_);refine Jy (nC λh' e kp nw th=>wpAny_raiseNew_none hh ?_);let(o,q1,q2):=th;exact Jy (JG (T:="StopIteration") (b:=true) (o,q1,q2) isSubtype_stop<|JC<|k _ λb o hb q=>kp b o<|s1.extBut _ _ hb q)
end
def jO:entryFor table "dict_itemiterator.__iter__"=some Jl.«dict_keyiterator.__iter__»:=entryFor_alias (id':="dict_keyiterator.__iter__") (by kernel_rfl) rfl ⋯ (by kernel_rfl)
noncomputable def Ity (a:Jq)(b:Bool)(xs:↑(PKy×Jq×V))(ep:Nat):It where
 go:=λi H=>H a=some (.dN b xs ep)/\i<⇑xs
 yld:=λi H x H'=>∃T y,H T=none/\x=.ref T/\xs[i]?=`y/\H'=upd H T (.tup [.ref y.2.1,y.2.2])
 stop:=λi H=>H a=some (.dN b xs ep)/\i=⇑xs
def oF {P:Jn}{w:Jo}{K:Zf}{elts:↑Expr}{x1}{tpos:JY}(it a:Jq)(b:Bool)(xs:↑(PKy×Jq×V))(ep:Nat):Lj P w K (.Tuple elts x1 tpos) (Ity a b xs ep) [it] it (λi h=>∃ok ov ,IsItemIter h it a i ⇑xs ep ok ov) where
 mem:=⇑_
 obj:=λi h st b hb=>by
  have e:b=it:=by simpa using hb
  subst e;let(ok,ov,e):=st;exact(_,e,λv z=>by cases z)
 keep:=λi h h' st k=>let (ok,ov,e):=st;(ok,ov,k it ⇑_ _ e)
 item:=by
  intro X hP hw hK hc i P4 s σ H E I hf st hg;subst hP hw hK;let(e,hl):=hg;let(hs,es,rd,sz,at_):=lB I e;obtain⟨y,hy⟩:∃y,xs[i]?=`y:=(_,FS hl)
  let(d,hd,kd,vd):=at_ i y hy;have fi:=hf it ⇑_;let(ok,ov,st):=st;refine sN st rd sz hd λh' hout hT hk=>?_;have nT:H ↥s=none:=I.hok.fresh<|Fw _;have lt:∀b o,s.heap.get? b=`o->b≠↥s:=λb o q=>FJ<|Fy q;have ltH:∀b o,H b=`o->b≠↥s:=λb o q z=>by rw[z,nT]at q;cases q
  have neH:∀b o,H b=`o->b≠it:=λb o q z=>by rw[z,fi.1]at q;cases q
  have I1:Inv X P4 σ (upd H ↥s (.tup [.ref y.2.1,y.2.2])) {s with heap:=h'}:=by
   refine I.call' (s':={s with heap:=h'}) (ch:=[it]) rfl (λb o q n hb hx=>?_,λb o q n hb hx=>?_,λb o q n hx=>?_,λb o q hx=>?_,λb xs q=>?_,λb o u q=>?_,λb ps q=>?_) (λb o q=>?_) I.bare λb hb=>?_;exact hk b o (λz=>hx<|by simp [z]) q;exact(o.slots,hk b o (λz=>hx<|by simp [z]) q);rw[af<|lt b o q];exact n;exact(o,hk b o (λz=>hx<|by simp [z]) q);rw[af<|ltH b _ q];exact q;rw[af<|ltH b _ q];exact q;exact(#[],by rw[af<|ltH b _ q,q];simp)
   .by_cases hb:b=↥s;subst hb;rw[aB]at q;cases q;exact(by show 2<=sizeLine;decide,_,.cons kd<|.cons vd .nil,(_,hT,rfl,_,rfl),_,hT,rfl)
    .rw[af hb]at q;refine (I.hok b o q).stay (λc v hc r=>?_) (λc r=>by rw[af<|ltH c _ r];exact r) λc xs r=>by rw[af<|ltH c _ r];exact r
     have:∃o,H c=`o:=by
      rcases hc with rfl|hc
      exact(o,q);exact(_,hc)
     let(o',qo):=this;exact hk c v (neH c o' qo) r
   .have e':b=it:=by simpa using hb
    subst e';exact(fi.2.2.2.1,fi.2.1,fi.2.2.2.2.1,fi.2.2.2.2.2)
  refine(_,rfl,wpAny_letOwnedTupleGo_items (s:={s with heap:=h'}) hout λh2 he2 hs2=>?_);have neT:it≠↥s:=lt _ _ st;have fe':(upd H ↥s (.tup [.ref y.2.1,y.2.2])) it=none:=by rw[af neT];exact fi.1
  refine(.ref ↥s,upd H ↥s (.tup [.ref y.2.1,y.2.2]),?_,rfl,(↥s,y,nT,rfl,hy,rfl),(_,_,he2),λb hb=>?_);exact I1.turned (t':=s.toks) (λb o hb eo=>(hs2.2 b hb).trans eo) fe' fi.2.1 fi.2.2.2.1 fi.2.2.2.2.1 fi.2.2.2.2.2
  .have e':b=it:=by simpa using hb
   subst e';exact fe'
 done:=by intro X hP hw hK hc i P4 s σ H E I hf st hg;subst hP hw hK;let(e,hl):=hg;let(hs,es,rd,sz,_):=lB I e;let(f0,f1,f2,f3,f4,f5):=hf it ⇑_;let(ok,ov,st):=st;exact xi (I.ok.hd hc) st rd sz (Array.getElem?_eq_none ∅) λh' eb=>(rfl,I.turned (t':=s.toks) (λb o hb e=>eb b o hb e) f0 f1 f3 f4 f5)
 self:=λJ J s J J st h=>by
  let(ok,ov,st):=st;have hT:s.TypeIs (.ref it) "dict_itemiterator":=(_,st,rfl)
  refine wpAny_pyIter_slot hT F.slot_dict_itemiterator_iter<|JB F.slot_dict_itemiterator_iter hT jO ?_<|F.args_dict_itemiterator_iter_1 _;show Jw _ _ (ret<|.ref it) _ _ s;exact JC (_,rfl,"dict_itemiterator",_,hT,F.slot_dict_itemiterator_next.lookup,h)
section
variable {X:Cx}{E:XK}{o e:Expr}{apos cpos:JY}{fa:KU->M W}{elts:↑Expr}{tpos:JY}
def CP {b:Bool}{ep:Nat}(I:Inv X P4 σ H s)(ha:H a=some (.dN b xs ep)):s.TypeIs (.ref a) "dict"/\∀b,Jk.ref a=.ref b->∃ob,s.heap.get? b=`ob/\ob.dict=none:=by let(hs,es,(od,g1,g2,g3),_):=lB I ha;exact((_,g1,g2.1),λc q=>by cases q;exact(od,g1,g2.2.1))
noncomputable def iItm (te:TE):TI:=λσ H R=>te σ H λx H1=>∃a b xs ep,x=.ref a/\H1 a=some (.dN b xs ep)/\R (Ity a b xs ep) H1
def vm {x1}(he:PE X o te)(hb:Kj o "items" X.env (JX o X.env)=JX o X.env)(hln:(apos.endLine==cpos.line)=true):PI X (.Tuple elts x1 tpos) (.Call (.Attribute o "items" apos) [] [] cpos) (iItm te):=by
 intro P4 s σ H R I h;refine wpAny_Call_method hb rfl hln PySem.F.plainAttrs_dict PySem.F.slot_dict_items PySem.F.type_dict_items (thn (he P4 s σ H _ I h) λu s1 qz=>?_);let(x,H1,I1,rx,a,b,xs,ep,ex,ha,q):=qz;subst ex;obtain rfl:u=Jk.ref a:=rx;let(t1,t2):=CP I1 ha;refine(t1,t2,?_);let(hs,es,rd,sz,_):=lB I1 ha;refine Calls.callWith_builtin rfl ?_;show Jw _ _ (pure _) _ _ _;refine JC<|pR hs rd ?_;have I2:Inv X P4 σ H1 {s1 with heap:=s1.heap.push {cls:=.type "dict_items",data:=.fields #[.ref a]},toks:=s1.toks}:=I1.kept λb o e=>Fx _ e;have rd2:RawD (s1.heap.push {cls:=.type "dict_items",data:=.fields #[.ref a]}) a es ep:=rd.keep λo q=>Fx _ q;refine pK (s:={s1 with heap:=s1.heap.push {cls:=.type "dict_items",data:=.fields #[.ref a]}}) (_,FM _ rfl,rfl,rfl) rd2 ?_;rw[sz];refine(_,[_],_,_,H1,rfl,I2.kept (t':=s1.toks) λb o e=>Fx _ e,oF _ a b xs ep,(_,_,FM _ rfl),λb hb=>?_,q);have e:b=(s1.heap.push {cls:=.type "dict_items",data:=.fields #[.ref a]}).objs.size:=by simpa using hb
 subst e;exact I2.fpOk (Fw _)<|I2.hok.fresh<|Fw _
noncomputable def Pl (w:W):M Sr:=match w with|.dn b ks ws=>pr (Hw (λk w=>.tup [MQ b k,w]) ks ws,λJ=>True)|_=>no
def v9 {x1}(he:JE X E o fa)(hb:Kj o "items" X.env (JX o X.env)=JX o X.env)(hln:(apos.endLine==cpos.line)=true):JI X E (.Tuple elts x1 tpos) (.Call (.Attribute o "items" apos) [] [] cpos) (Nu fa Pl):=(vm he.h hb hln).imp λσ H Q h=>by
 ac_nf;cases x with
 |dn b ks ws=>
  unfold Rv at r1;let(a,(xs,ep),rfl,ha,n,hk,hn,hv):=r1;dsimp only at ha hk hn hv;have lk:⇑ks=⇑xs:=by rw[<-hk,Fv]
  have lw:⇑ws=⇑xs:=by have:=hv.len;rw[Fv]at this;exact this.symm
  refine(a,b,xs,ep,rfl,ha,h1.pr R1 (λo X R g=>((X.fr a _ ha n).1,by rw[Gq,lk,lw,Iz]),λo i w X R g ei=>?_));rw[Hy]at ei;cases ek:ks[i]? with
  |none=>rw[ek]at ei;cases ei
  |some k=>
   cases ew:ws[i]? with
   |none=>rw[ek,ew]at ei;cases ei
   |some w'=>
    rw[ek,ew]at ei;cases ei;rw[<-hk,FB]at ek;let(y,ey,rfl):=FE.mp ek;let(v,hv1,rv):=(hv.mono R1 X).get ew;rw[FB,ey]at hv1;cases hv1;refine(((X.fr a _ ha n).1,(FD.mp ey).1),λx H' hy=>?_);let(T,y',hT,rfl,ey',rfl):=hy;rw[ey]at ey';cases ey';exact((o.mu,o.h,upd o.H T<|.tup [.ref y.2.1,y.2.2]),rfl,rfl,Ex.new hT,R.new hT,Rv.newT R hT<|Rvs.cons (qR<|(hn y<|FK ey).mono X R1)<|Rvs.cons rv Rvs.nil)
 |_=>exact h1.elim
end
end
end L2
namespace HT
open PySem PySem.Spec PyProof.Rows
end HT
namespace L2
open PySem PySem.Spec PyProof.Rows
section
def ln1 {α:Type}:∀ {us:↑α},⇑us=1->∃a,us=[a]
 |[a],_=>(a,rfl)
def ln2 {α:Type}:∀ {us:↑α},⇑us=2->∃a b,us=[a,b]
 |[a,b],_=>(a,b,rfl)
def ln3 {α:Type}:∀ {us:↑α},⇑us=3->∃a b c,us=[a,b,c]
 |[a,b,c],_=>(a,b,c,rfl)
def ln4 {α:Type}:∀ {us:↑α},⇑us=4->∃a b c d,us=[a,b,c,d]
 |[a,b,c,d],_=>(a,b,c,d,rfl)
def ln5 {α:Type}:∀ {us:↑α},⇑us=5->∃a b c d e,us=[a,b,c,d,e]
 |[a,b,c,d,e],_=>(a,b,c,d,e,rfl)
section
variable (K:Zf)(mg:Str->Option Jk)(x:Str)(C:Jq)
def Dq (st:J2):Prop:=∃f fd,Fun K x x st f fd/\mg x=some (.ref f)
def Dqm (q:Str)(st:J2):Prop:=∃f fd,Fun K x q st f fd/\K0 K C x f
def Gt (zs:↑Str):Prop:=∃a,mg x=some (.ref a)/\∀H,SqT K H a<|zs.map V.str
def Gi (i:Int):Prop:=∃t,mg x=some (.int i t)
def Gs (i:Str):Prop:=∃t,mg x=some (.str i t)
end
section
variable {K:Zf}{mg:Str->Option Jk}{x q:Str}{st:J2}{C f:Jq}{k:Nat}{oc:Jk}{od an:Option Jq}{osl:Array (Option Jk)}{kV doc pm cdv ct:Jk}{h:Jp}
def dq (X:K.In h)(G:h.Ns JP mg)(a:Jj K JP x=some (some<|.ref f))(l:K.lookup f=some (oc,od,.func<|fnOf x x (bC st) (aF st) (ab st) .none kV doc pm an cdv ct,osl))(c:codeIn K cdv x=true)(k:Jh K (.ref f)=true):Dq K mg x st:=(_,_,wY l c k,mg_of X G a)
def dqm (a:Jf K (.ref C) x=some (some<|.ref f))(i:PySem.W.isFn K (.ref f)=true)(l:K.lookup f=some (oc,od,.func<|fnOf x q (bC st) (aF st) (ab st) .none kV doc pm an cdv ct,osl))(c:codeIn K cdv q=true)(k:Jh K (.ref f)=true):Dqm K x C q st:=(_,_,wY l c k,a,i,k)
def gi {i:Int}(X:K.In h)(G:h.Ns JP mg)(a:Jj K JP x=some (some<|.int i t)):Gi mg x i:=(_,mg_of X G a)
def gs {i:Str}(X:K.In h)(G:h.Ns JP mg)(a:Jj K JP x=some (some<|.str i t)):Gs mg x i:=(_,mg_of X G a)
def gn (X:K.In h)(G:h.Ns JP mg)(a:Jj K JP x=`none):mg x=none:=PySem.W.mg_none_of X G a
noncomputable def stx:↑Jk->↑Str
 |.str z _::r=>z::stx r
 |_=>[]
theorem uz:∀ {us:↑Jk},⇑(stx us)=⇑us->Vals ((stx us).map V.str) us|[],_=>.nil|.str z t::r,e=>.cons (_,rfl)<|uz<|GQ.inj e
def gt {zs:↑Str}{n:Nat}(X:K.In h)(G:h.Ns JP mg)(a:Jj K JP x=some (some<|.ref f))(l:K.lookup f=some (.type "tuple",od,.seq its n,osl))(e:zs=stx its.toList/\⇑(stx its.toList)=⇑its.toList/\⇑its.toList<=64):Gt K mg x zs:=by let(rfl,e,e2):=e;exact(f,mg_of X G a,λH=>.inr (_,_,_,l,rfl,rfl,F1 (by simpa using e2) (by unfold sizeLine;decide),uz e))
end
section
variable {P:Jn}{w:Jo}{K:Zf}{mg:Str->Option Jk}{base:Jp}{x q:Str}{st:J2}{C f:Jq}{fd:Km}{k:Nat}{fn:↑W->M W}{g:KU->M Fl}
def okf (N:↑Str)(m:Nat)(F:Fun K x x st f fd)(Mf:mg x=some (.ref f))
  (hb:∀ (cdv:Jk) (A:Ju) (outer:↑Env) (s:Js) (H:Hp) (E:XK) ,Room k (A.deeper<|Kt x (ab st) ↥s f cdv)->(A.deeper<|Kt x (ab st) ↥s f cdv).units+1<Jv->(A.deeper<|Kt x (ab st) ↥s f cdv).units+64<Jv->N.Nodup->JSs (LO CX0 P w K mg base N x (ab st) f cdv A outer s H E).nox E0 (aF st) g)
  (S:KW N (N.take m) (ab st):=by array_mem_dec)(hm:⇑(N.take m)=m:=by rfl)(hf:fn=OB N.length g:=by rfl)
  (hi:∀ (kV doc pm:Jk) (an:Option Jq) (cdv ct:Jk) (us:↑Jk) ,⇑us=⇑(N.take m)->bindArgs (fnOf x x (bC st) (aF st) (ab st) .none kV doc pm an cdv ct) (us,[])=pure ((N.take m).zip us):=by subst_eqs):
  CG P w K mg base (k+1) x f fd (N.take m) m fn:=
 (Ar (g:=g) F S rfl hm hf λcdv A outer s H E hr=>hb cdv A outer s H E hr (qY hr) hr.units S.nd,F.binds hi,F.kp,Mf)
def okz (N:↑Str)(m:Nat)(F:Fun K x x st f fd)(Mf:mg x=some (.ref f))(h:∀ws h ,fn ws h=.bad)
 (hi:∀ (kV doc pm:Jk) (an:Option Jq) (cdv ct:Jk) (us:↑Jk) ,⇑us=⇑(N.take m)->bindArgs (fnOf x x (bC st) (aF st) (ab st) .none kV doc pm an cdv ct) (us,[])=pure ((N.take m).zip us)):
 CG P w K mg base k x f fd (N.take m) m fn:=(C1 h,F.binds hi,F.kp,Mf)
def okm (N:↑Str)(m:Nat)(F:Fun K x q st f fd)(Mf:K0 K C x f)
  (hb:∀ (cdv:Jk) (A:Ju) (outer:↑Env) (s:Js) (H:Hp) (E:XK) ,Room k (A.deeper<|Kt q (ab st) ↥s f cdv)->(A.deeper<|Kt q (ab st) ↥s f cdv).units+1<Jv->(A.deeper<|Kt q (ab st) ↥s f cdv).units+64<Jv->N.Nodup->JSs (LO CX0 P w K mg base N q (ab st) f cdv A outer s H E).nox E0 (aF st) g)
  (S:KW N (N.take m) (ab st))(hm:⇑(N.take m)=m)(hf:fn=OB N.length g)
  (hi:∀ (kV doc pm:Jk) (an:Option Jq) (cdv ct:Jk) (us:↑Jk) ,⇑us=⇑(N.take m)->bindArgs (fnOf x q (bC st) (aF st) (ab st) .none kV doc pm an cdv ct) (us,[])=pure ((N.take m).zip us)):
  CGm P w K mg base (k+1) C x f fd (N.take m) m fn:=
 (Ar (g:=g) F S rfl hm hf λcdv A outer s H E hr=>hb cdv A outer s H E hr (qY hr) hr.units S.nd,F.binds hi,Mf)
end
section
variable {X:Cx}{E:XK}{p pos apos:JY}{zs:↑Str}{x:Str}
noncomputable def nst:Expr->Bool|.Starred ..=>false|_=>true
def oK (h:nst e=true):J1 (e::es) env=(false ,JX e env)::J1 es env:=by cases e<;>first|rfl|cases h
noncomputable def nsl:Expr->Bool|.Slice ..=>false|_=>true
def DB (h:nsl b=true):iI b:=by cases b<;>first|exact λJ J=>rfl|cases h
def Fe {fa fb:KU->M W}(h:nsl b=true)(hu:X.A.units+1<Jv)(ha:JE X E a fa)(hb:JE X E b fb):JE X E (.Subscript a b pos) (m2 ixW fa fb):=Eh hu ha hb<|DB h
def Ei {fa fb:KU->M W}(h:nsl b=true)(hu:X.A.units+64<Jv)(ha:JE X E a fa)(hb:JE X E b fb):JE X E (.Subscript a b pos) (m2 MG fa fb):=Ci hu ha hb<|DB h
def Fh {u:KU->M W}{l:KU->M ↑W}(h:nst e=true)(ha:JE X E e u)(hr:JA X E es l):JA X E (e::es) (Ni u l):=zo ha hr<|oK h
def yR (h:es.all nst=true):(JZ pos<|J1 es env).any (·.1)=false:=by
 induction es with|nil=>exact BG|cons e r ih=>rw[GX,Gd]at h;exact yS (oK h.1)<|ih h.2
def Cm (X:Cx)(E:XK)(op:CmpOp)(f:W->W->M W):Prop:=∃r,OpM X E r f/\OpR X (J4 op) r
def Fc {f:W->W->M W}{fa fb:KU->M W}(h:Cm X E op f)(ha:JE X E a fa)(hb:JE X E b fb)(hm:J5 op b=false):JT X E (.Compare a [op] [b] pos) (mB<|m2 f fa fb):=h.elim λJ h=>BN h.2 h.1 ha hb hm
def Fg {f:W->W->M W}{fa fb:KU->M W}(h:Cm X E op f)(ha:JE X E a fa)(hb:JE X E b fb)(hm:J5 op b=false):JE X E (.Compare a [op] [b] pos) (m2 f fa fb):=h.elim λJ h=>Co h.2 h.1 ha hb hm
def Cr (X:Cx)(x:Str)(m:Nat)(f:↑W->M W):Prop:=∃k a d ps,CG X.prog X.w X.K X.mg X.base k x a d ps m f/\Room k X.A
def Ff {l:KU->M ↑W}{m:Nat}{f:↑W->M W}(h:Cr X x m f)(ha:JA X E0 (e::es) l)(hg:Gl X x)
  (hdb:(x==("__debug__":Str))=false)(he:(e::es).all nst=true):
  JE X E0 (.Call (.Name x p) (e::es) [] pos) (Ng (arW m f) l):=by
 let(_,_,_,_,h,hr):=h;rw[GX,Gd]at he;exact Ep h hr ha hg hdb (oK he.1)<|yR he.2
def Cs (X:Cx)(c x:Str)(m:Nat)(f:↑W->M W):Prop:=∃C k a d ps,Jj X.K JP c=some (some<|.ref C)/\Cls X.K C/\CGm X.prog X.w X.K X.mg X.base k C x a d ps m f/\Room k X.A
def Fd {c:Str}{fo:KU->M W}{l:KU->M ↑W}{m:Nat}{f:↑W->M W}(h:Cs X c x m f)(ho:JE X E0 o fo)(ha:JA X E0 (e::es) l)
  (hst:J1 (e::es) X.env=(false ,JX e X.env)::J1 es X.env)(hpl:(JZ pos<|J1 es X.env).any (·.1)=false)
  (ht:JX (.Call (.Attribute o x apos) (e::es) [] pos) X.env=(do
   let ov<-JX o X.env
   J6 apos.atName
   let (f ,first)<-J7 [ov] (Ki ov x pl)
   callWith pos f first (JZ pos<|J1 (e::es) X.env) (Kk pos<|Kl [] X.env))):
  JE X E0 (.Call (.Attribute o x apos) (e::es) [] pos) (Nn c x m f fo l):=by
 let(_,_,_,_,_,n,k,F,hr):=h;exact Ce n k F hr ho ha hst hpl ht
def Fq (X:Cx)(c x:Str):Prop:=∃C,Jj X.K JP c=some (some<|.ref C)/\Cls X.K C/\NoAttr X.K C x
def Eo {c:Str}{fo:KU->M W}(h:Fq X c x)(ho:JE X E o fo)(hb:Kj o x X.env (JX o X.env)=JX o X.env):JE X E (.Attribute o x pos) (m1 (Md c x) fo):=by let(_,n,k,a):=h;exact Cn n k a ho hb
def Ea {c:Str}{fo fv:KU->M W}(h:Fq X c x)(ho:JE X E o fo)(hv:JE X E value fv)(hs:swapsWith value (some<|.Attribute o x pos') pos.line X.env=pure false):JS X E (.Assign [.Attribute o x pos'] value pos) (OO c x fo fv):=by let(_,n,k,a):=h;exact BR n k a ho hv hs
def Tq (X:Cx)(tg:Expr)(t:W->KU->Option KU):Prop:=∃m gT,Lg X.K m gT t/\PG X tg gT
def Eb {src:KU->M Sr}{t:W->KU->Option KU}{g:KU->M Fl}(h:Tq X tg t)(hp:Ka (Jx X.prog X.w) X.A X.env X.xe)(hc:X.calm=true)(hi:JI X E tg iter src)(hb:JSs X E body g)
  (hs:∀x ,Kg iter X.env x=pure x):JS X E (.For tg iter body [] pos) (OP src t g):=by
 let(_,_,ht,hg):=h;exact BQ hp hc hi hg ht hb hs
def Ec {c:Str}{fo fv:KU->M W}(h:Fq X c x)(ho:JE X E o fo)(hv:JE X E value fv):JS X E (.AugAssign (.Attribute o x tpos) .Add value pos) (OK c x fo fv):=by let(_,n,k,a):=h;exact sT n k a ho hv
def EK (hu:X.A.units+64<Jv):Cm X E .Eq eqW:=(_,Bp hu,DX)
def EF (hu:X.A.units+64<Jv):Cm X E .NotEq neW:=(_,Bi hu,DS)
def EG:Cm X E .Lt ltW:=(_,Bj,DT)
def EI:Cm X E .Gt gtW:=(_,Bn,DV)
def EJ:Cm X E .GtE geW:=(_,Bo,DW)
def EH (hu:X.A.units+1<Jv):Cm X E .In inW:=(_,Bm,DU hu)
def EE (hu:X.A.units+1<Jv):Cm X E .NotIn gS:=(_,sJ,vJ hu)
def C5:Cm X E .Is MB:=(_,yJ,Bv)
def zO:Cm X E .IsNot NF:=(_,vM,yM)
def Em {i:Int}(hm:Gi X.mg x i)(hg:Gl X x:=by rfl)(hd:(x==("__debug__":Str))=false:=by decide):JE X E (.Name x pos) (mC<|.int i):=hm.elim λJ hm=>iz (w:=.int i) (v:=.int i) hg hm (_,rfl) (λo=>OE.mpr rfl) hd
def Ek {i:Str}(hm:Gs X.mg x i)(hg:Gl X x:=by rfl)(hd:(x==("__debug__":Str))=false:=by decide):JE X E (.Name x pos) (mC<|.str i):=hm.elim λJ hm=>iz (w:=.str i) (v:=.str i) hg hm (_,rfl) (λo=>OG.mpr rfl) hd
def Ej (h:Gt X.K X.mg x zs)(hg:Gl X x:=by rfl)(hd:(x==("__debug__":Str))=false:=by decide):JE X E (.Name x pos) (mC<|.tup<|zs.map W.str):=by let(a,hm,hq):=h;exact wg hm hq hg hd
end
section
variable (P:Jn)(w:Jo)(K:Zf)(mg:Str->Option Jk)(base:Jp)(k:Nat)(C:Jq)(x:Str)(m:Nat)(fn:↑W->M W)
def Cq:Prop:=∃a d ps,CG P w K mg base k x a d ps m fn
def Cqm:Prop:=∃a d ps,CGm P w K mg base k C x a d ps m fn
end
section
variable {P:Jn}{w:Jo}{K:Zf}{mg:Str->Option Jk}{base:Jp}{x q:Str}{st:J2}{C:Jq}{k:Nat}{fn:↑W->M W}{g:KU->M Fl}
def okq (N:↑Str)(m:Nat)(D:Dq K mg x st)(hb:∀ (f:Jq) (cdv:Jk) (A:Ju) (outer:↑Env) (s:Js) (H:Hp) (E:XK) ,Room k (A.deeper<|Kt x (ab st) ↥s f cdv)->(A.deeper<|Kt x (ab st) ↥s f cdv).units+1<Jv->(A.deeper<|Kt x (ab st) ↥s f cdv).units+64<Jv->N.Nodup->JSs (LO CX0 P w K mg base N x (ab st) f cdv A outer s H E).nox E0 (aF st) g)
  (S:KW N (N.take m) (ab st):=by array_mem_dec)(hm:⇑(N.take m)=m:=by rfl)(hf:fn=OB N.length g:=by rfl)(hi:∀ (kV doc pm:Jk) (an:Option Jq) (cdv ct:Jk) (us:↑Jk) ,⇑us=⇑(N.take m)->bindArgs (fnOf x x (bC st) (aF st) (ab st) .none kV doc pm an cdv ct) (us,[])=pure ((N.take m).zip us):=by subst_eqs):Cq P w K mg base (k+1) x m fn:=by
 let(f,_,F,M):=D;exact(_,_,_,okf N m F M (hb f) S hm hf hi)
def NH (N:↑Str)(m:Nat)(D:Dqm K x C q st)(hb:∀ (f:Jq) (cdv:Jk) (A:Ju) (outer:↑Env) (s:Js) (H:Hp) (E:XK) ,Room k (A.deeper<|Kt q (ab st) ↥s f cdv)->(A.deeper<|Kt q (ab st) ↥s f cdv).units+1<Jv->(A.deeper<|Kt q (ab st) ↥s f cdv).units+64<Jv->N.Nodup->JSs (LO CX0 P w K mg base N q (ab st) f cdv A outer s H E).nox E0 (aF st) g)
  (S:KW N (N.take m) (ab st):=by array_mem_dec)(hm:⇑(N.take m)=m:=by rfl)(hf:fn=OB N.length g:=by rfl)(hi:∀ (kV doc pm:Jk) (an:Option Jq) (cdv ct:Jk) (us:↑Jk) ,⇑us=⇑(N.take m)->bindArgs (fnOf x q (bC st) (aF st) (ab st) .none kV doc pm an cdv ct) (us,[])=pure ((N.take m).zip us):=by subst_eqs):Cqm P w K mg base (k+1) C x m fn:=by
 let(f,_,F,M):=D;exact(_,_,_,okm N m F M (hb f) S hm hf hi)
def okqz (N:↑Str)(m:Nat)(D:Dq K mg x st)(h:∀ws h ,fn ws h=.bad)(hi:∀ (kV doc pm:Jk) (an:Option Jq) (cdv ct:Jk) (us:↑Jk) ,⇑us=⇑(N.take m)->bindArgs (fnOf x x (bC st) (aF st) (ab st) .none kV doc pm an cdv ct) (us,[])=pure ((N.take m).zip us):=by subst_eqs):Cq P w K mg base k x m fn:=by let(_,_,F,M):=D;exact(_,_,_,okz N m F M h hi)
end
section
variable {X:Cx}{x c:Str}{C:Jq}{k m:Nat}{f:↑W->M W}{p pos:JY}
def cr (h:Cq X.prog X.w X.K X.mg X.base k x m f)(r:Room k X.A):Cr X x m f:=h.elim λa (d,ps,h)=>(k,a,d,ps,h,r)
def cs (h:Cqm X.prog X.w X.K X.mg X.base k C x m f)(n:Jj X.K JP c=some (some<|.ref C))(l:Cls X.K C)(r:Room k X.A):Cs X c x m f:=h.elim λa (d,ps,h)=>(C,k,a,d,ps,n,l,h,r)
def Cd {l:KU->M ↑W}(h:Cqm X.prog X.w X.K X.mg X.base k C "__init__" m f)(hn:Jj X.K JP c=some (some<|.ref C))(hk:PySem.W.makesIn X.K C=true)(kc:Jh X.K (.ref C)=true)(hm:X.mg c=some (.ref C))(hr:Room (k+1) X.A)(ha:JA X E0 (e::es) l)(he:(e::es).all nst=true)(hg:Gl X c:=by rfl)(hdb:(c==("__debug__":Str))=false:=by decide):JE X E0 (.Call (.Name c p) (e::es) [] pos) (Nm c m f l):=by let(_,_,_,h):=h;rw[GX,Gd]at he;exact zh (hk,h.me.at_,h.me.fn,kc) hn h.ok h.bi hr hm ha hg hdb (oK he.1)<|yR he.2
end
section
variable {X:Cx}{E:XK}{e a b:Expr}{es:↑Expr}{s:J2}{ss:↑J2}{o:Option Expr}{op:Operator}{kw:↑Kr}{c:Const}{x:Str}{pos:JY}{f:KU->M W}{u:KU->M Bool}{l:KU->M ↑W}{g:KU->M Fl}{r:KU->M Sr}{q:KU->M (Option Int)}
def gNm (h:JE X E (.Name x pos) f):JE X E (.Name x pos) f:=h
def gCo {j:Nat}(h:JE X E (.Constant c j pos) f):JE X E (.Constant c j pos) f:=h
def gCl (h:JE X E (.Call e es kw pos) f):JE X E (.Call e es kw pos) f:=h
def gBi (h:JE X E (.BinOp a op b pos) f):JE X E (.BinOp a op b pos) f:=h
def gSu (h:JE X E (.Subscript a b pos) f):JE X E (.Subscript a b pos) f:=h
def gJE (h:JE X E e f):JE X E e f:=h
def gJT (h:JT X E e u):JT X E e u:=h
def gJW (h:JW X E e u):JW X E e u:=h
def gJA (h:JA X E es l):JA X E es l:=h
def gJF (h:JF X E e l):JF X E e l:=h
def gJS (h:JS X E s g):JS X E s g:=h
def gJZ (h:JSs X E ss g):JSs X E ss g:=h
def gJI (h:JI X E a b r):JI X E a b r:=h
def gJO (h:JO X E o q):JO X E o q:=h
end
end
section
structure Ch where
 f:↑W->↑W
 p:∀l,(f l).Perm l
def tN {α β:Type}(c:Cg)(r:Wo->α->β->Prop)(F:Ch->KU->M α)(σ:St)(H:Hp)(Q:β->Hp->Prop):Prop:=∃o ρ,o.H=H/\Rel c.K o/\Re c.K o ρ σ/\∀π,Ps c r o (F π ρ o.h) Q
structure JEn (X:Cx)(E:XK)(e:Expr)(F:Ch->KU->M W):Prop where
 h:PE X e (tN (cg X E) (Rv (cg X E).K) F)
structure JSn (X:Cx)(E:XK)(e:J2)(F:Ch->KU->M Fl):Prop where
 h:PS X e λD σ H=>tN (cg X E) (RFl (cg X E).K) F σ H<|DQ D
structure JNs (X:Cx)(E:XK)(e:↑J2)(F:Ch->KU->M Fl):Prop where
 h:PSs X e λD σ H=>tN (cg X E) (RFl (cg X E).K) F σ H<|DQ D
noncomputable def ch0:Ch:=(λl=>l,λl=>FO.refl l)
def Ps.bdN {α β γ δ:Type}{r:Wo->α->β->Prop}{r2:Wo->γ->δ->Prop}{f:M α}{g:Ch->α->M γ}{Q:δ->Hp->Prop}{N:β->Hp->Prop}(h:∀π ,Ps c r2 o (L2.bd f (g π) o.h) Q)(k:∀p a b ,Ex o p->Rel c.K p->r p a b->(∀π ,Ps c r2 p (g π a p.h) Q)->N b p.H):Ps c r o (f o.h) N:=by
 unfold L2.bd at h;cases e:f o.h with
 |ok a h'=>
  simp only[e]at h;intro p b hp X R rb;subst hp;exact k p a b X R rb λπ=>(h π).after X
 |ex x h'=>
  simp only[e]at h;exact h ch0
 |bad=>
  simp only[e]at h;exact h ch0
section
variable {X:Cx}{E:XK}{pos:JY}{st:J2}{rest:↑J2}{e:Expr}{f:KU->M Fl}{F:Ch->KU->M Fl}{G:Ch->KU->M W}
def bz (h1:JS X E st f)(h2:JNs X E rest F):JNs X E (st::rest) λπ=>OY f (F π):=⟨λP4 s σ H D I q=>(i7 h1.h h2.h) P4 s σ H D I (by
 let(o,ρ,rfl,R,S,h):=q;refine(o,ρ,rfl,R,S,Ps.bdN h λp x b e1 R1 r1 h1=>?_);cases x with
 |nx r=>let(s,rfl,re):=r1;exact(p,r,rfl,R1,re,h1)
 |bk r=>have q:=(h1 ch0).pr R1 r1;let(s,rfl,re):=r1;exact q
 |ct r=>have q:=(h1 ch0).pr R1 r1;let(s,rfl,re):=r1;exact q
 |rt r=>have q:=(h1 ch0).pr R1 r1;let(s,rfl,re):=r1;exact q)⟩
def y8 (h1:JSn X E st F)(h2:JSs X E rest f):JNs X E (st::rest) λπ=>OY (F π) f:=⟨λP4 s σ H D I q=>(i7 h1.h h2.h) P4 s σ H D I (by
 let(o,ρ,rfl,R,S,h):=q;refine(o,ρ,rfl,R,S,λπ=>Ps.bd (h π) λp x b e1 R1 r1 h1=>?_);cases x with
 |nx r=>let(s,rfl,re):=r1;exact(p,r,rfl,R1,re,h1)
 |bk r=>have q:=h1.pr R1 r1;let(s,rfl,re):=r1;exact q
 |ct r=>have q:=h1.pr R1 r1;let(s,rfl,re):=r1;exact q
 |rt r=>have q:=h1.pr R1 r1;let(s,rfl,re):=r1;exact q)⟩
def BX (h1:JSn X E st F):JNs X E [st] F:=⟨qB h1.h⟩
def BU {i:Nat}{x:Str}(hN:X.N.Nodup)(hi:X.N[i]?=`x)(hx:Loc X.env.scope x)(he:JEn X E e G)(hs:swapsWith e (some<|.Name x pos') pos.line X.env=pure false:=by rfl)(hf:X.fn x=true\/X.env.scope.names.lookup x=some .local :=by subst_vars):
  JSn X E (.Assign [.Name x pos'] e pos) λπ=>OZ i (G π):=⟨λP4 s σ H D I q=>(u8 hN hi hx he.h hs hf) P4 s σ H D I (by
 let(o,ρ,rfl,R,S,h):=q
 exact(o,ρ,rfl,R,S,λπ=>Ps.bd (h π) λp x b e1 R1 r1 h1=>Ps.pr (b:=FlV.nx<|σ.set i<|some b) h1 R1 (_,rfl,(S.mono R e1).set r1 i)))⟩
def BV (he:JEn X E e G):JSn X E (.Return `e pos) λπ=>OW (G π):=⟨λP4 s σ H D I q=>(u9 he.h) P4 s σ H D I (by
 let(o,ρ,rfl,R,S,h):=q
 exact(o,ρ,rfl,R,S,λπ=>Ps.bd (h π) λp x b e1 R1 r1 h1=>Ps.pr (b:=FlV.rt b) h1 R1 (_,rfl,r1)))⟩
end
section
variable {P:Jn}{w:Jo}{K:Zf}{mg:Str->Option Jk}{base:Jp}{x qual:Str}{st:J2}{f:Jq}{fd:Km}{N ps:↑Str}{k:Nat}{g:Ch->KU->M Fl}
noncomputable def spN (K:Zf)(mg:Str->Option Jk)(n:Nat)(F:Ch->↑W->M W):Sp:=λvs H Q J=>∃o ws,o.H=H/\⇑ws=n/\Rel K o/\Rvs K o ws vs/\∀π,Ps (K,mg,E0) (Rv K) o (F π ws o.h) Q
def Aq {n m:Nat}{fn:Ch->↑W->M W}(F:Fun K x qual st f fd)(S:KW N ps (ab st))(hn:N.length=n)(hm:⇑ps=m)(hf:fn=λπ=>OB n<|g π)
  (hb:∀ (cdv:Jk) (A:Ju) (outer:↑Env) (s:Js) (H:Hp) (E:XK) ,Room k (A.deeper<|Kt qual (ab st) ↥s f cdv)->JNs (LO CX0 P w K mg base N qual (ab st) f cdv A outer s H E).nox E0 (aF st) g):
  FnOk P w K mg base CX0 (k+1) f fd ps (spN K mg m fn):=by
 subst hn hm hf;refine F.ok S (λvs H Q E h=>?_) (λcdv A outer s H vs Q E hr h=>?_);let(o,ws,_,hl,_,rv,_):=h;rw[rv.len,hl]
 .let(o,ws,rfl,hl,R,rv,h):=h;refine(_,(hb cdv A outer s o.H E hr).h,?_);have e:Pq N vs=vs.map some++List.replicate (N.length-⇑ws) none:=by unfold Pq;rw[rv.len]
  rw[e];refine(o,_,rfl,R,Re.args _ rv,λπ=>Ps.bd (h π) λp x b e1 R1 r1 h1=>?_);cases x with|rt w=>let(v,rfl,r):=r1;exact h1.pr R1 r|nx r=>let(s,rfl,r):=r1;exact h1.pr R1 (OF.mpr rfl)|bk r=>exact h1.elim|ct r=>exact h1.elim
structure CGn (P:Jn)(w:Jo)(K:Zf)(mg:Str->Option Jk)(base:Jp)(k:Nat)(x:Str)(f:Jq)(fd:Km)(ps:↑Str)(m:Nat)(fn:Ch->↑W->M W):Prop where
 ok:FnOk P w K mg base CX0 k f fd ps (spN K mg m fn)
 bi:Binds K fd ps []
 kp:Jh K (.ref f)=true
 mg:mg x=some (.ref f)
def Cqn (P:Jn)(w:Jo)(K:Zf)(mg:Str->Option Jk)(base:Jp)(k:Nat)(x:Str)(m:Nat)(fn:Ch->↑W->M W):Prop:=∃a d ps,CGn P w K mg base k x a d ps m fn
def okqn {fn:Ch->↑W->M W}(N:↑Str)(m:Nat)(D:Dq K mg x st)(hb:∀ (f:Jq) (cdv:Jk) (A:Ju) (outer:↑Env) (s:Js) (H:Hp) (E:XK) ,Room k (A.deeper<|Kt x (ab st) ↥s f cdv)->(A.deeper<|Kt x (ab st) ↥s f cdv).units+1<Jv->(A.deeper<|Kt x (ab st) ↥s f cdv).units+64<Jv->N.Nodup->JNs (LO CX0 P w K mg base N x (ab st) f cdv A outer s H E).nox E0 (aF st) g)
  (S:KW N (N.take m) (ab st):=by array_mem_dec)(hm:⇑(N.take m)=m:=by rfl)(hf:fn=λπ=>OB N.length (g π):=by rfl)(hi:∀ (kV doc pm:Jk) (an:Option Jq) (cdv ct:Jk) (us:↑Jk) ,⇑us=⇑(N.take m)->bindArgs (fnOf x x (bC st) (aF st) (ab st) .none kV doc pm an cdv ct) (us,[])=pure ((N.take m).zip us):=by subst_eqs):Cqn P w K mg base (k+1) x m fn:=by
 let(f,_,F,M):=D;exact(_,_,_,Aq (g:=g) F S rfl hm hf λcdv A outer s H E hr=>hb f cdv A outer s H E hr (qY hr) hr.units S.nd,F.binds hi,F.kp,M)
end
section
variable {P:Jn}{w:Jo}{K:Zf}{mg:Str->Option Jk}{base:Jp}{x:Str}{st:J2}{f:Jq}{fd:Km}{k:Nat}{g:Ch->KU->M Fl}
def okfn {fn:Ch->↑W->M W}(N:↑Str)(m:Nat)(F:Fun K x x st f fd)(Mf:mg x=some (.ref f))
  (hb:∀ (cdv:Jk) (A:Ju) (outer:↑Env) (s:Js) (H:Hp) (E:XK) ,Room k (A.deeper<|Kt x (ab st) ↥s f cdv)->(A.deeper<|Kt x (ab st) ↥s f cdv).units+1<Jv->(A.deeper<|Kt x (ab st) ↥s f cdv).units+64<Jv->N.Nodup->JNs (LO CX0 P w K mg base N x (ab st) f cdv A outer s H E).nox E0 (aF st) g)
  (S:KW N (N.take m) (ab st):=by array_mem_dec)(hm:⇑(N.take m)=m:=by rfl)(hf:fn=λπ=>OB N.length (g π):=by rfl)
  (hi:∀ (kV doc pm:Jk) (an:Option Jq) (cdv ct:Jk) (us:↑Jk) ,⇑us=⇑(N.take m)->bindArgs (fnOf x x (bC st) (aF st) (ab st) .none kV doc pm an cdv ct) (us,[])=pure ((N.take m).zip us):=by subst_eqs):
  CGn P w K mg base (k+1) x f fd (N.take m) m fn:=
 (Aq (g:=g) F S rfl hm hf λcdv A outer s H E hr=>hb cdv A outer s H E hr (qY hr) hr.units S.nd,F.binds hi,F.kp,Mf)
end
section
variable {X:Cx}{p pos:JY}{e a:Expr}{es:↑Expr}{l:KU->M ↑W}{k:Nat}{x:Str}
def Ed {m:Nat}{F:Ch->↑W->M W}(C:Cqn X.prog X.w X.K X.mg X.base k x m F)(hr:Room k X.A)(ha:JA X E0 (e::es) l)(he:(e::es).all nst=true)(hg:Gl X x:=by rfl)
  (hdb:(x==("__debug__":Str))=false:=by decide):
  JEn X E0 (.Call (.Name x p) (e::es) [] pos) λπ=>Ng (arW m<|F π) l:=by
 let(_,_,_,C):=C;rw[GX,Gd]at he;refine⟨λP4 s σ H Q I q=>(qF C.ok hr hg C.mg C.kp C.bi .nil NX ha.h hdb (oK he.1)<|yR he.2) P4 s σ H Q I ?_⟩;let(o,ρ,rfl,R,S,h):=q;refine(o,ρ,rfl,R,S,Ps.bdN h λp x vx e1 R1 r1 h1=>?_);unfold arW at h1;by_cases z:⇑x=m;simp only[np z]at h1;exact(p,x,rfl,z,R1,by rw[F5];exact r1,h1);simp only[gV z]at h1;exact (h1 ch0).elim
noncomputable def Pg (π:Ch)(ws:↑W):M W:=match ws with|[.tl l]=>gd ((NU Oy l).isSome=true) (pr<|.tl<|π.f l)|_=>no
def mT {K:Zf}(h:ys'.Perm ys):∀ {l:↑W},Rvs K o l ys->∃l':↑W,l'.Perm l/\Rvs K o l' ys':=by
 induction h with
 |nil=>intro l r;exact(l,FO.refl _,r)
 |cons x h ih=>
  intro l r;cases l with
  |nil=>unfold Rvs at r;cases r
  |cons w l=>
   unfold Rvs at r;let(v,t,e,r1,r2):=r;cases e;let(l',p,r'):=ih r2;exact(w::l',p.cons _,Rvs.cons r1 r')
 |swap x y t=>
  intro l r;cases l with
  |nil=>unfold Rvs at r;cases r
  |cons w l=>
   cases l with
   |nil=>unfold Rvs at r;let(v,t,e,r1,r2):=r;cases e;unfold Rvs at r2;cases r2
   |cons w2 l=>
    unfold Rvs at r;let(v,t,e,r1,r2):=r;cases e;unfold Rvs at r2;let(v,t,e,r2,r3):=r2;cases e;exact(w2::w::l,FO.swap ..,Rvs.cons r2<|Rvs.cons r1 r3)
 |trans h1 h2 ih1 ih2=>
  intro l r;let(l2,p2,r2):=ih2 r;let(l1,p1,r1):=ih1 r2;exact(l1,p1.trans p2,r1)
open Classical in
def sU (hu:X.A.units+64<Jv)(hm:X.mg "sorted"=none)(ha:JA X E0 [a] l)(he:nst a=true)(hg:Gl X "sorted":=by rfl)(hpl:(JZ pos<|J1 [] X.env).any (·.1)=false:=by rfl):JEn X E0 (.Call (.Name "sorted" p) [a] [] pos) λπ=>Ng (Pg π) l:=by
 refine⟨λP4 s σ H Q I q=>(nh (mo hu) hg hm PyProof.Rows.boot_sorted ha.h ↥_ ↥_ (oK he) hpl) P4 s σ H Q I ?_⟩;let(o,ρ,rfl,R,S,h):=q;refine(o,ρ,rfl,R,S,Ps.bdN h λp ws vs e1 R1 rv h=>?_);by_cases z:∃l,ws=[.tl l]
 .let(l,rfl):=z;let(v,rfl,r):=rv.one;unfold Rv at r;let(a,us,rfl,s,n,r):=r;have hp:∀π:Ch,(NU Oy l).isSome=true/\Ps (cg X E0) (Rv X.K) p (pr (.tl<|π.f l) p.h) Q:=λπ=>(show Ps (cg X E0) (Rv X.K) p (gd _ (pr<|.tl<|π.f l) p.h) Q from h π).gd;refine(a,us,rfl,.of s,λv hv=>?_,λys' py q hq=>?_)
  .let(rs,e):=H0.mp (hp ch0).1;let(i,hi):=Hg hv;obtain⟨w,ew⟩:∃w,l[i]?=`w:=(_,FS (by have:=(FD.mp hi).1;have:=r.len;omega))
   let(y,ey,fy):=vL e ew;let(v',ev,rv'):=r.get ew;rw[hi]at ev;cases ev;exact(y,yg fy rv')
  .let(l',pl,r'):=mT py r
   have:=(hp (λx=>if x=l then l' else x,λx=>by
    by_cases z:x=l;rw[np z,z];exact pl
    .rw[gV z])).2
   dsimp only at this;rw[np rfl]at this;exact fZ R1 hq r' this
 .exfalso;have:=h ch0;unfold Pg at this;split at this;exact z (_,rfl);exact this
end
end
end L2
namespace L2
open PySem PySem.W PySem.Spec PyProof.Rows
section
variable {prog:Jn}{w:Jo}{A:Ju}{E:Jk->Js->Prop}{s:Js}
def oj {Q:↑Jk->Js->Prop}(hl:IsTup s.heap l vs.toArray)(hz:⇑vs<=sizeLine)
  (h:Q vs {s with heap:=(s.heap.push<|seqObj "list" #[] 0).update ↥s (Jt.mapSeq (· ++vs.toArray))}):Jw (Jx prog w) A (collect<|.ref l) Q E s:=by
 let(o,ho,hc,n,hd):=id hl;have g1:(s.heap.push<|seqObj "list" #[] 0).get? l=`o:=Fx _ ho;have g2:=FM s.heap (o:=seqObj "list" #[] 0) rfl;have b2:((false||(Jk.type "tuple"==Jk.type "list"))||(Jk.type "tuple"==Jk.type "tuple"))=true:=by rfl
 unfold collect;refine Jy<|wpAny_runValue<|codeAny_builtin entry_proto_collect' ?_;refine Jy (m:=newList [])<|wpAny_newList ?_<|FU _;refine JC (Code.quiet_builtin _ ⋯,codeAny_builtin entry_list_iadd' ?_);show Jw _ _ (Jl.List.listExtendWith (.ref ↥s) (.ref l)<|.ref ↥s) _ _ {s with heap:=s.heap.push<|seqObj "list" #[] 0};unfold Jl.List.listExtendWith;refine Jy<|wpAny_typeOf (T:="tuple") (o,g1,hc) ?_;rw[np<|by rw[show (Jk.type "tuple"==Jk.type "tuple")=true by rfl,Bool.or_true]];refine Jy<|listItems_at g1 hd<|Jy<|listItems_at (xs:= #[]) (n:=0) g2 rfl ?_;rw[gV ⇑_];refine Jy (listUpdate_at (xs:= #[]) (n:=0) g2 rfl (JC ?_) (FU _)<|by rw[Array.size_append,FI];show 0+⇑vs<=_;omega);show Jw (Jx prog w) A (load ↥s>>=λo=>_) Q E _;refine Jy<|wpAny_load (get?_update_seq g2 _) ?_;refine JC ?_;show Q ((#[]:Array Jk)++vs.toArray).toList _;rw[show ((#[]:Array Jk)++vs.toArray).toList=vs by simp];exact h
end
section
section
variable {X:Cx}{E:XK}
noncomputable def srt (ns:↑Int):↑Int:=ns.mergeSort λa b=>decide<|a<=b
def iR (ns:↑Int):(srt ns).Perm ns:=List.mergeSort_perm _ _
def uD (ns:↑Int):(srt ns).Pairwise (· <= ·):=by have:=List.pairwise_mergeSort (le:=λa b:Int=>decide<|a<=b) (λa b c h1 h2=>by simp at*;omega) (λa b=>by simp;omega) ns;exact this.imp λh=>of_decide_eq_true h
theorem iQ:∀ {a b:↑Int},a.Perm b->a.Pairwise (· <= ·)->b.Pairwise (· <= ·)->a=b
 |[],b,p,_,_=>p.symm.eq_nil.symm
 |x::a,[],p,_,_=>absurd p.eq_nil ⇑_
 |x::a,y::b,p,ha,hb=>by
  let(a1,a2):=IR.mp ha;let(b1,b2):=IR.mp hb;have e:x=y:=by
   have h1:x∈y::b:=p.mem_iff.mp FQ;have h2:y∈x::a:=p.mem_iff.mpr FQ;rcases FC.mp h1 with h|h
   exact h
   .rcases FC.mp h2 with g|g
    exact g.symm;have:=a1 y g;have:=b1 x h;omega
  subst e;rw[iQ p.cons_inv a2 b2]
def mq:CallR X (.builtin "sorted") (λxs H Q=>∃ (p:Jq) (ns:↑Int) ,xs=[.ref p]/\SqT X.K H p (ns.map V.int)/\⇑ns<64/\∀q,H q=none->Q (.ref q) (upd H q<|.lst<|(srt ns).map V.int)):=by
 intro P4 s σ H xs us Q I r h;let(p,ns,rfl,hq,hz,q):=h;let(u,rfl,ru):=PM r;cases ru;let(its,rv,tp,_):=I.tuple hq;have il:=⇑rv;rw[Fv]at il;have big:1000<=sizeLine:=↥_;refine Calls.call_function_entry kind_sorted plain_sorted entry_sorted (args_sorted1 _) ?_;unfold Jl.«sorted»;refine Jy (m:=checkCount "sorted" 1 1 _)<|JC<|Jy<|oj tp ∅ ?_;refine Jy<|wpAny_newList ?_ ∅;have sz:((s.heap.push<|seqObj "list" #[] 0).update ↥s (Jt.mapSeq (· ++its.toArray))).objs.size=↥s+1:=by rw[Iu,size_push']
 have keep:∀b o,s.heap.get? b=`o->(((s.heap.push<|seqObj "list" #[] 0).update ↥s (Jt.mapSeq (· ++its.toArray))).push<|seqObj "list" its.toArray 0).get? b=`o:=λb o e=>by refine Fx _ ?_;rw[Hj _ _ _ _<|FJ<|Fy e];exact Fx _ e
 have oD:(((s.heap.push<|seqObj "list" #[] 0).update ↥s (Jt.mapSeq (· ++its.toArray))).push<|seqObj "list" its.toArray 0).get? (↥s+1)=some (seqObj "list" its.toArray 0):=by rw[<-sz];exact FM _ rfl
 show Jw _ _ _ _ _ {s with heap:=((s.heap.push<|seqObj "list" #[] 0).update ↥s (Jt.mapSeq (· ++its.toArray))).push<|seqObj "list" its.toArray 0};rw[sz];generalize ((s.heap.push<|seqObj "list" #[] 0).update ↥s (Jt.mapSeq (· ++its.toArray))).push (seqObj "list" its.toArray 0)=B at*;have lD:↥s<=↥s+1:=Gj _;refine Jy<|JH<|JB slot_list_sort (_,oD,rfl) entry_list_sort ?_<|args_list_sort _;have hQ:=q (↥s+1)<|I.hok.fresh lD;refine list_sort_tree (s:={s with heap:=B}) oD (lV rv) ∅ λout ns' ho hp hs=>?_;have e:ns'=srt ns:=iQ (hp.trans (iR ns).symm) hs<|uD ns;subst e;refine(_,rfl,JC (_,rfl,?_));obtain⟨e1,o1⟩:∃e1,(B.update (↥s+1)<|Jt.mapSeq λJ=> #[]).get? (↥s+1)=some (seqObj "list" #[] e1):=(_,get?_update_seq oD<|λJ=> #[])
 have o6:(((B.update (↥s+1)<|Jt.mapSeq λJ=> #[]).push<|seqObj "tuple" its.toArray 0).push<|seqObj "list" #[] 0).get? (↥s+1)=some (seqObj "list" #[] e1):=Fx _<|Fx _ o1;have hl:⇑(srt ns)<=sizeLine:=by rw[(iR ns).length_eq];omega
 refine(.ref<|↥s+1,_,I.laid (t':=s.toks) (o:=.lst<|(srt ns).map V.int) (λb o e=>?_) lD ?_,rfl,hQ);have ne:=FJ<|Iy<|Fy e;unfold sortedHeap;rw[Hj _ _ _ _ ne];refine Fx _<|Fx _ ?_;rw[Hj _ _ _ _ ne];exact keep b o e;exact(by rw[Fv];exact hl,out.toList,_,gE ho,get?_update_seq o6 λJ=>out)
theorem mU {K:Zf}:∀ns:↑Int,Rvs K o (ns.map W.int) (ns.map V.int)|[]=>Rvs.nil|n::ns=>Rvs.cons (OE.mpr rfl)<|mU ns
noncomputable def iT (ws:↑W):M W:=match ws with
 |[.tup l]=>match NU iOf l with|some ns=>gd (⇑ns<64) (pr<|.tl<|(srt ns).map W.int)|none=>no
 |_=>no
set_option tactic.hygienic true in
def x6:KP X E (λxs H Q=>∃ (p:Jq) (ns:↑Int) ,xs=[.ref p]/\SqT X.K H p (ns.map V.int)/\⇑ns<64/\∀q,H q=none->Q (.ref q) (upd H q<|.lst<|(srt ns).map V.int)) iT:=λo ws vs Q R rv h=>by
 unfold iT at h;split at h
 .rename_i l;let(v,rfl,r):=rv.one;cases e:NU iOf l with
  |none=>rw[e]at h;exact h.elim
  |some ns=>
   rw[e]at h;let(hz,h):=h.gd;unfold Rv at r;let(a,us,rfl,s,r):=r;rw[cS g0 e r]at s;refine(a,ns,rfl,s,hz,λq hq=>fZ R hq (mU<|srt ns) h)
 exact h.elim
def pp {l:KU->M ↑W}(hm:X.mg "sorted"=none)(ha:JA X E [a] l)(hg:Gl X "sorted")(he:J1 [a] X.env=(false ,JX a X.env)::J1 [] X.env)(hpl:(JZ pos<|J1 [] X.env).any (·.1)=false):JE X E (.Call (.Name "sorted" p) [a] [] pos) (Ng iT l):=
 cM mq x6 hg hm PyProof.Rows.boot_sorted ha ↥_ ↥_ he hpl
end
end
end L2
namespace Q
open PySem L2
noncomputable def top (i:Nat):J2:=PySem.Challenge.pw_blockfall_k30_whole_best_is_run.main.body.getD i<|.Pass (0,0,0,0)
abbrev yc:J2:=top 2
abbrev gL:J2:=gg (top 5) 0
abbrev eQ:J2:=gg (top 5) 1
abbrev eR:J2:=gg (top 5) 2
abbrev j4:J2:=gg (top 5) 3
abbrev i4:J2:=gg (top 5) 4
abbrev oM:J2:=top 10
abbrev lq:J2:=top 9
abbrev ik:J2:=top 8
abbrev Ac:J2:=top 7
abbrev AO:J2:=top 11
abbrev uJ:J2:=top 12
abbrev ye:J2:=top 15
abbrev uK:J2:=top 16
abbrev fY:J2:=top 19
abbrev kA:J2:=top 20
abbrev mS:J2:=top 18
abbrev AR:J2:=top 17
abbrev yd:J2:=top 21
abbrev eP:J2:=top 22
abbrev qm:J2:=top 23
abbrev fL:J2:=top 24
abbrev iZ:J2:=top 25
abbrev j0:J2:=top 34
abbrev oN:J2:=top 33
abbrev sj:J2:=top 30
abbrev si:J2:=top 31
abbrev oQ:J2:=top 29
abbrev fG:J2:=top 32
abbrev uI:J2:=top 28
abbrev oO:J2:=top 36
abbrev iY:J2:=top 37
abbrev kB:J2:=top 38
abbrev j3:J2:=top 39
abbrev iX:J2:=top 40
abbrev oP:J2:=top 41
abbrev mR:J2:=top 42
abbrev ij:J2:=top 43
abbrev lu:J2:=top 44
abbrev Ad:J2:=top 45
noncomputable def dj (fr:↑W->M W):KU->M Fl:=(OY (sIf (mB<|m2 eqW (m2 ixW (Ny 0) ⇑0) ⇑"number") (OW<|m2 ixW (Ny 0) ⇑1) OV)<|OY (sIf (mB<|m2 eqW (m2 ixW (Ny 0) ⇑0) ⇑"box") (OW<|m2 ixW (Ny 1)<|m2 ixW (Ny 0) ⇑1) OV)<|OY (OZ 2<|Ng (arW 2 fr)<|Ni (m2 ixW (Ny 0) ⇑1)<|Ni (Ny 1) Nq)<|OY (OZ 3<|Ng (arW 2 fr)<|Ni (m2 ixW (Ny 0) ⇑2)<|Ni (Ny 1) Nq)<|OY (sIf (mB<|m2 eqW (m2 ixW (Ny 0) ⇑0) ⇑"+") (OW<|m2 Lo (Ny 2)<|Ny 3) OV)<|OY (sIf (mB<|m2 eqW (m2 ixW (Ny 0) ⇑0) ⇑"-") (OW<|m2 Pt (Ny 2)<|Ny 3) OV)<|OW<|m2 ND (Ny 2)<|Ny 3)
noncomputable def bA:Nat->↑W->M W|0=>λJ=>no|n+1=>OB 4<|dj<|bA n
noncomputable def bM:KU->M Fl:=(OY (OO "Doing" "held" (Ny 0)<|Ng LP<|Ni (Ny 1) Nq)<|OY (OO "Doing" "numbers" (Ny 0)<|mTl<|MZ<|Ni (Ny 2) Nq)<|OY (OO "Doing" "taken" (Ny 0) ⇑0)<|OO "Doing" "said" (Ny 0)<|Np<|MX Nq)
noncomputable def aD:↑W->M W:=OB 3 bM
noncomputable def aX:KU->M Fl:=(OW<|Nc (m2 eqW (m2 ixW (Ny 1) ⇑0) ⇑"ask")<|m2 eqW (m1 (Md "Doing" "taken")<|Ny 0)<|Ng MY<|Ni (m1 (Md "Doing" "numbers")<|Ny 0) Nq)
noncomputable def ar:↑W->M W:=OB 2 aX
noncomputable def aY:KU->M Fl:=(sIf (mB<|m2 eqW (m2 ixW (Ny 1) ⇑0) ⇑"put") (av (m1 (Md "Doing" "held")<|Ny 0) (m2 ixW (Ny 1) ⇑1)<|m2 NC (Ng (arW 2<|bA 6)<|Ni (m2 ixW (Ny 1) ⇑2)<|Ni (m1 (Md "Doing" "held")<|Ny 0) Nq) ⇑1000000)<|sIf (mB<|m2 eqW (m2 ixW (Ny 1) ⇑0) ⇑"say") (sEx<|No isL cA (m1 (Md "Doing" "said")<|Ny 0)<|Ni (Ng (arW 2<|bA 6)<|Ni (m2 ixW (Ny 1) ⇑1)<|Ni (m1 (Md "Doing" "held")<|Ny 0) Nq) Nq)<|OY (av (m1 (Md "Doing" "held")<|Ny 0) (m2 ixW (Ny 1) ⇑1)<|m2 NC (m2 ixW (m1 (Md "Doing" "numbers")<|Ny 0)<|m1 (Md "Doing" "taken")<|Ny 0) ⇑1000000)<|OK "Doing" "taken" (Ny 0) ⇑1)
noncomputable def az:↑W->M W:=OB 2 aY
noncomputable def cH:KU->M Fl:=(OY (sIf (mB<|m2 eqW (Ny 1) ⇑"<") (OW<|m2 ltW (Ng (arW 2<|bA 6)<|Ni (Ny 2)<|Ni (m1 (Md "Doing" "held")<|Ny 0) Nq)<|Ng (arW 2<|bA 6)<|Ni (Ny 3)<|Ni (m1 (Md "Doing" "held")<|Ny 0) Nq) OV)<|OW<|m2 eqW (Ng (arW 2<|bA 6)<|Ni (Ny 2)<|Ni (m1 (Md "Doing" "held")<|Ny 0) Nq)<|Ng (arW 2<|bA 6)<|Ni (Ny 3)<|Ni (m1 (Md "Doing" "held")<|Ny 0) Nq)
noncomputable def ba:↑W->M W:=OB 4 cH
noncomputable def cw:KU->M Fl:=(OW<|m2 NC (Ng (arW 2<|bA 6)<|Ni (Ny 1)<|Ni (m1 (Md "Doing" "held")<|Ny 0) Nq)<|Ny 2)
noncomputable def bI:↑W->M W:=OB 3 cw
noncomputable def cC:KU->M Fl:=(OY (sIf (mB<|m2 eqW (m2 ixW (Ny 0) ⇑0) ⇑"go") (OW<|Nx<|Ni (m2 ixW (Ny 0) ⇑1) Nq) OV)<|OY (sIf (mB<|m2 eqW (m2 ixW (Ny 0) ⇑0) ⇑"if") (OW<|Nx<|Ni (m2 ixW (Ny 0) ⇑4)<|Ni (m2 ixW (Ny 0) ⇑5) Nq) OV)<|OY (sIf (mB<|m2 eqW (m2 ixW (Ny 0) ⇑0) ⇑"table") (OW<|m2 ixW (Ny 0) ⇑2) OV)<|OW<|Nx Nq)
noncomputable def bH:↑W->M W:=OB 1 cC
noncomputable def cV:KU->M Fl:=(OY (sIf (mB<|m2 eqW (m2 ixW (Ny 1) ⇑0) ⇑"if") (OW<|mIf (mB<|Nn "Doing" "holds" 4 ba (Ny 0)<|Ni (m2 ixW (Ny 1) ⇑1)<|Ni (m2 ixW (Ny 1) ⇑2)<|Ni (m2 ixW (Ny 1) ⇑3) Nq) ⇑0 ⇑1) OV)<|OY (sIf (mB<|m2 eqW (m2 ixW (Ny 1) ⇑0) ⇑"table") (OW<|Nn "Doing" "chosen" 3 bI (Ny 0)<|Ni (m2 ixW (Ny 1) ⇑1)<|Ni (Ng MY<|Ni (m2 ixW (Ny 1) ⇑2) Nq) Nq) OV)<|OW ⇑0)
noncomputable def cx:↑W->M W:=OB 2 cV
noncomputable def ci:KU->M Fl:=(OY (OP (Nu (Ny 1) Pm) (tgN 2)<|OY (sIf (mB<|Nn "Doing" "lacks_number" 2 ar (Ny 0)<|Ni (Ny 2) Nq) (OW<|mC<|.bl false) OV)<|sEx<|Nn "Doing" "do_statement" 2 az (Ny 0)<|Ni (Ny 2) Nq)<|OW<|mC<|.bl true)
noncomputable def bq:↑W->M W:=OB 3 ci
noncomputable def q9:KU->M Fl:=(OY (OZ 3<|Nm "Doing" 3 aD<|Ni (m2 ixW (Ny 0) ⇑0)<|Ni (Ny 1) Nq)<|OY (OZ 4<|Np<|MX Nq)<|OY (OZ 5 ⇑0)<|OY (bh (mB<|m2 ltW (Ng MY<|Ni (Ny 4) Nq)<|Ny 2) (OY (OZ 6<|m2 ixW (m2 ixW (Ny 0) ⇑1)<|Ny 5)<|OY (sIf (Nr<|mB<|Ng (arW 2 bq)<|Ni (Ny 3)<|Ni (m2 ixW (Ny 6) ⇑1) Nq) (OW<|Nx<|Ni (m1 (Md "Doing" "said")<|Ny 3)<|Ni (Nx<|Ni ⇑"out" Nq)<|Ni (Ny 4) Nq) OV)<|OY (OZ 7<|m2 ixW (Ny 6) ⇑2)<|OY (sIf (mB<|m2 eqW (m2 ixW (Ny 7) ⇑0) ⇑"stop") (OW<|Nx<|Ni (m1 (Md "Doing" "said")<|Ny 3)<|Ni (Nx<|Ni ⇑"stop" Nq)<|Ni (Ny 4) Nq) OV)<|OY (OZ 8<|Ng (arW 2 cx)<|Ni (Ny 3)<|Ni (Ny 7) Nq)<|OY (OZ 9<|m2 ixW (Ng (arW 1 bH)<|Ni (Ny 7) Nq)<|Ny 8)<|OY (sEx<|No isL cA (Ny 4)<|Ni (mKt<|Ni (Ny 5)<|Ni (Ny 8)<|Ni (Ny 9) Nq) Nq)<|OZ 5<|Ny 9) 62)<|OW<|Nx<|Ni (m1 (Md "Doing" "said")<|Ny 3)<|Ni (Nx<|Ni ⇑"on" Nq)<|Ni (Ny 4) Nq)
noncomputable def kQ:↑W->M W:=OB 10 q9
noncomputable def l5:KU->M Fl:=(OY (OZ 1<|Np<|MX Nq)<|OY (OP (Nv (Ni (m2 ixW (Ny 0) ⇑1) Nq) L5) (tgT [2,3])<|OP (Nv (Ni (Ng (arW 1 bH)<|Ni (m2 ixW (Ny 3) ⇑2) Nq) Nq) L6) (tgT [4,5])<|sEx<|No isL cA (Ny 1)<|Ni (mKt<|Ni (Ny 2)<|Ni (Ny 4)<|Ni (Ny 5) Nq) Nq)<|OW<|m1 Mt<|Ny 1)
noncomputable def jL:↑W->M W:=OB 6 l5
noncomputable def gq:KU->M Fl:=(OY (OZ 3 lO)<|OY (OP (Nu (Ng (arW 1 jL)<|Ni (Ny 0) Nq) Pm) (tgN 4)<|av (Ny 3) (Ny 4) ⇑0)<|OY (OP (Nu (Ny 1) Pm) (tgN 5)<|OP (Nu (m2 ixW (Ng (arW 3 kQ)<|Ni (Ny 0)<|Ni (Ny 5)<|Ni (Ny 2) Nq) ⇑2) Pm) (tgN 4)<|OJ (Ny 3) (Ny 4) ⇑1)<|OW<|mTl<|lvL<|Ny 3)
noncomputable def eT:↑W->M W:=OB 6 gq
noncomputable def iE:KU->M Fl:=(OY (OZ 2 lO)<|OY (OP (Nv (Ni (Ng (arW 1 jL)<|Ni (Ny 0) Nq)<|Ni (Ny 1) Nq)<|Po false false) (tgT [3,4])<|OY (OZ 5<|m2 ixW (m2 ixW (m2 ixW (Ny 0) ⇑1)<|m2 ixW (m1 PH<|Ny 3) ⇑0) ⇑2)<|sIf (mB<|m2 neW (m2 ixW (Ny 5) ⇑0) ⇑"table") (OY (OZ 6<|mKt<|Ni (m2 ixW (m1 PH<|Ny 3) ⇑0)<|Ni (m2 ixW (m1 PH<|Ny 3) ⇑2) Nq)<|av (Ny 2) (Ny 6)<|m2 Lo (Nl (Ny 2) (Ny 6) ⇑0)<|Ny 4) OV)<|OW<|Ny 2)
noncomputable def du:↑W->M W:=OB 7 iE
noncomputable def l7:KU->M Fl:=(OY (OZ 3<|Ng (arW 2 du)<|Ni (Ny 0)<|Ni (Ny 2) Nq)<|OW<|m2 Pt (Ng Pu<|Ni (Ny 2) Nq)<|Ng Pu<|Ni (mTl<|Nh [] (Nv (Ni (Ny 1)<|Ni (m3 slW (Ny 1) (Nt ⇑1) aj) Nq)<|Po true true) (tgN 0) Nz (Nl (Ny 5) (Ny 0) ⇑0) 2) Nq)
noncomputable def g7:↑W->M W:=OB 4 l7
noncomputable def cX:KU->M Fl:=(OY (OZ 1<|mTl<|MX<|Ni (Nx<|Ni ⇑0 Nq) Nq)<|OY (OP (Nv (Ni ⇑1 (Ni (Ny 0) Nq)) Ox) (tgN 2)<|OZ 1<|m2 Lo (Ny 1)<|mTl<|Nh [] (Nu (Ny 1) Pm) (tgN 0) Nz (m2 Lo (Ny 0)<|Nx<|Ni (Ny 4) Nq) 2)<|OW<|Ny 1)
noncomputable def cz:↑W->M W:=OB 3 cX
noncomputable def fq:KU->M Fl:=(OW<|Ng gG<|Ni (mTl<|Nh [] (Nu (Ny 0) Pn) (tgN 0) (mB<|m2 neW (Ny 0)<|Ny 3) (Ny 0) 2) Nq)
noncomputable def cY:↑W->M W:=OB 2 fq
noncomputable def dm:KU->M Fl:=(OY (OZ 4<|mC .non)<|OY (OP (Nu (Ny 1) Pn) (tgN 5)<|OY (OZ 6<|m2 MG (Ny 3)<|Nx<|Ni (Ny 5)<|Ni (Ng (arW 2 cY)<|Ni (Ny 1)<|Ni (Ny 5) Nq) Nq)<|OY (OZ 7<|m2 Lo (Nl (Ny 2) (Nx<|Ni (Ny 0)<|Ni (Ny 5) Nq) ⇑0)<|m2 ixW (Ny 6) ⇑0)<|sIf (mOr (mB<|m2 MB (Ny 4)<|mC .non)<|mB<|m2 gtW (Ny 7)<|m2 ixW (Ny 4) ⇑0) (OZ 4<|Nx<|Ni (Ny 7)<|Ni (m2 Lo (Nx<|Ni (Ny 5) Nq)<|m2 ixW (Ny 6) ⇑1) Nq) OV)<|OW<|mIf (mB<|m2 MB (Ny 4)<|mC .non) (Nx<|Ni ⇑0 (Ni (Nx Nq) Nq))<|Ny 4)
noncomputable def dw:↑W->M W:=OB 8 dm
noncomputable def l8:KU->M Fl:=(OY (OZ 2<|Ng MY<|Ni (m2 ixW (Ny 0) ⇑1) Nq)<|OY (OZ 3<|Ng (arW 2 du)<|Ni (Ny 0)<|Ni (Ny 1) Nq)<|OY (OZ 4<|gU false)<|OY (OP (Nu (Ng (arW 1 cz)<|Ni (Ny 2) Nq) Pm) (tgN 5)<|OY (OZ 6<|m3 slW (Ny 5) (Nt ⇑1) aj)<|OP (Nv (Ni (Ny 2) Nq) Ow) (tgN 7)<|sIf (mB<|m2 gS (Ny 7)<|Ny 6) (dO (Ny 4) (Nx<|Ni (Ny 7)<|Ni (Ny 6) Nq)<|Ng (arW 4 dw)<|Ni (Ny 7)<|Ni (Ny 6)<|Ni (Ny 3)<|Ni (Ny 4) Nq) OV)<|OW<|m2 Lo (Nx<|Ni ⇑0 Nq)<|m2 ixW (m2 MG (Ny 4)<|Nx<|Ni ⇑0 (Ni (Ng trW<|Ni ⇑1 (Ni (Ny 2) Nq)) Nq)) ⇑1)
noncomputable def jM:↑W->M W:=OB 8 l8
noncomputable def iD:KU->M Fl:=(OY (OZ 1<|Np<|MX<|Ni (mC<|MQ true (0 ,[0])) Nq)<|OY (OP (Nu (Ng (arW 1 cz)<|Ni (Ny 0) Nq) Pm) (tgN 2)<|OP (Nu (m3 slW (Ny 2) (Nt ⇑1) aj) Pn) (tgN 3)<|sEx<|No isL cA (Ny 1)<|Ni (Nx<|Ni (Ny 2)<|Ni (Ny 3) Nq) Nq)<|OW<|m1 Mt<|Ny 1)
noncomputable def fB:↑W->M W:=OB 4 iD
noncomputable def be:KU->M Fl:=(OY (sIf (mB<|m2 eqW (Nx<|Ni (Ny 0)<|Ni (Ny 1) Nq)<|mC<|MQ true (0 ,[0])) (OW ⇑0) OV)<|OY (OZ 4<|Ng (arW 2 cY)<|Ni (Ny 0)<|Ni (Ny 1) Nq)<|OY (OZ 5<|mIf (mB<|m2 eqW (Ny 4)<|Nx<|Ni ⇑0 Nq) (Ny 4)<|m3 slW (Ny 4) (Nt ⇑1) aj)<|OW<|Ng (L9 NB)<|Ni (mTl<|Nh [] (Nu (Ny 5) Pn) (tgN 0) Nz (m2 Lo (m2 MG (Ny 4)<|Nx<|Ni (Ny 6)<|Ni (Ny 0) Nq)<|Nl (Ny 5) (Nx<|Ni (Ny 0)<|Ni (Ny 3) Nq) ⇑0) 2) Nq)
noncomputable def aE:↑W->M W:=OB 6 be
noncomputable def gm (π:Ch):KU->M Fl:=(OY (OZ 2<|Ng (arW 2 du)<|Ni (Ny 0)<|Ni (Ny 1) Nq)<|OY (OZ 3<|gU true)<|OY (OP (Nu (Ng (arW 1 fB)<|Ni (Ng MY<|Ni (m2 ixW (Ny 0) ⇑1) Nq) Nq) Pm) (tgT [4,5])<|dO (Ny 3) (Nx<|Ni (Ny 4)<|Ni (Ny 5) Nq)<|Ng (arW 4 aE)<|Ni (Ny 4)<|Ni (Ny 5)<|Ni (Ny 3)<|Ni (Ny 2) Nq)<|OW<|Ng (Pg π)<|Ni (mTl<|Nh [] (Nu (m1 Mt<|Ny 3) Pl) (tgT [0,1]) Nz (m2 Lo (Ny 0)<|Nx<|Ni (Ny 1) Nq) 3) Nq)
noncomputable def gu (π:Ch):↑W->M W:=OB 6<|gm π
noncomputable def d7:KU->M Fl:=(OY (OZ 3<|Ng (arW 1 fB)<|Ni (Ng MY<|Ni (m2 ixW (Ny 0) ⇑1) Nq) Nq)<|OY (OZ 4<|gU true)<|OY (OP (Nu (Ny 2) Pm) (tgT [5,6,7])<|dO (Ny 4) (Nx<|Ni (Ny 5)<|Ni (Ny 6) Nq)<|Ny 7)<|OY (sIf (mOr (mB<|m2 neW (Ng MY<|Ni (Ny 2) Nq)<|Ng MY<|Ni (Ny 3) Nq)<|mB<|Ng Lr<|Ni (mTl<|Nh [] (Nu (Ny 3) Pm) (tgN 0) Nz (m2 (Mu true) (Ny 0)<|Ny 6) 2) Nq) (OW<|mC<|.bl false) OV)<|OY (OZ 8<|Ng (arW 2 du)<|Ni (Ny 0)<|Ni (Ny 1) Nq)<|OW<|Ng Lq<|Ni (mTl<|Nh [] (Nu (Ny 3) Pm) (tgT [0,1]) Nz (m2 geW (m2 MG (Ny 7)<|Nx<|Ni (Ny 0)<|Ni (Ny 1) Nq)<|Ng (arW 4 aE)<|Ni (Ny 0)<|Ni (Ny 1)<|Ni (Ny 7)<|Ni (Ny 11) Nq) 3) Nq)
noncomputable def de:↑W->M W:=OB 9 d7
noncomputable def d9:KU->M Fl:=(OY (OZ 3<|Ng PB<|Ni (Ng MY<|Ni (m2 ixW (Ny 0) ⇑1) Nq) Nq)<|OW<|m2 Pt (Ng Pu<|Ni (Ny 1) Nq)<|Ng (L9 NB)<|Ni (mTl<|Nh [] (Nu (Ny 2) Pm) (tgT [0,1,2]) (mB<|m2 eqW (Ny 0)<|Ny 7) (Ny 2) 4) Nq)
noncomputable def df:↑W->M W:=OB 4 d9
noncomputable def a0:KU->M Fl:=(OY (sIf (mB<|m2 eqW (m2 ixW (Ny 1) ⇑0) ⇑"jump") (OW<|m2 ixW (Ny 1) ⇑1) OV)<|OY (sIf (mB<|m2 eqW (m2 ixW (Ny 1) ⇑0) ⇑"when") (OW<|mIf (mB<|Nn "Doing" "holds" 4 ba (Ny 0)<|Ni (m2 ixW (Ny 1) ⇑1)<|Ni (m2 ixW (Ny 1) ⇑2)<|Ni (m2 ixW (Ny 1) ⇑3) Nq) (m2 ixW (Ny 1) ⇑4)<|mC .non) OV)<|OY (sIf (mB<|m2 eqW (m2 ixW (Ny 1) ⇑0) ⇑"unless") (OW<|mIf (mB<|Nn "Doing" "holds" 4 ba (Ny 0)<|Ni (m2 ixW (Ny 1) ⇑1)<|Ni (m2 ixW (Ny 1) ⇑2)<|Ni (m2 ixW (Ny 1) ⇑3) Nq) (mC .non)<|m2 ixW (Ny 1) ⇑4) OV)<|OY (sIf (mB<|m2 eqW (m2 ixW (Ny 1) ⇑0) ⇑"table") (OW<|m2 ixW (m2 ixW (Ny 1) ⇑2)<|Nn "Doing" "chosen" 3 bI (Ny 0)<|Ni (m2 ixW (Ny 1) ⇑1)<|Ni (Ng MY<|Ni (m2 ixW (Ny 1) ⇑2) Nq) Nq) OV)<|OW<|mC .non)
noncomputable def bU:↑W->M W:=OB 2 a0
noncomputable def dY:KU->M Fl:=(OY (OZ 4<|Nm "Doing" 3 aD<|Ni (Ny 0)<|Ni (Ny 2) Nq)<|OY (OZ 5 ⇑0)<|OY (OZ 6 ⇑0)<|OY (OZ 7 ⇑0)<|OY (bh (mB<|m2 ltW (Ny 7)<|Ny 3) (OY (OZ 8<|m2 ixW (Ny 1)<|Ny 6)<|OY (sIf (mB<|m2 eqW (m2 ixW (Ny 8) ⇑0) ⇑"stop") (OW<|Nx<|Ni (m1 (Md "Doing" "said")<|Ny 4)<|Ni (Nx<|Ni ⇑"stop" Nq)<|Ni (Ny 5) Nq) OV)<|OY (sIf (mB<|Nn "Doing" "lacks_number" 2 ar (Ny 4)<|Ni (Ny 8) Nq) (OW<|Nx<|Ni (m1 (Md "Doing" "said")<|Ny 4)<|Ni (Nx<|Ni ⇑"out" Nq)<|Ni (Ny 5) Nq) OV)<|OY (sIf (mB<|m2 inW (m2 ixW (Ny 8) ⇑0)<|mC<|.tup<|(["put","say","ask"]:↑Str).map W.str) (sEx<|Nn "Doing" "do_statement" 2 az (Ny 4)<|Ni (Ny 8) Nq) OV)<|OY (OZ 9<|Ng (arW 2 bU)<|Ni (Ny 4)<|Ni (Ny 8) Nq)<|OY (sIf (mB<|m2 MB (Ny 9)<|mC .non) (OI 6 ⇑1)<|OY (OZ 6<|Ny 9)<|OI 5 ⇑1)<|OI 7 ⇑1) 402)<|OW<|Nx<|Ni (m1 (Md "Doing" "said")<|Ny 4)<|Ni (Nx<|Ni ⇑"on" Nq)<|Ni (Ny 5) Nq)
noncomputable def eA:↑W->M W:=OB 10 dY
noncomputable def fw:KU->M Fl:=(OW<|mIf (mB<|m2 eqW (Ny 0)<|Ny 1) (mTl<|MX Nq)<|mTl<|MX<|Ni (Nx<|Ni ⇑"jump" (Ni (Ny 0) Nq)) Nq)
noncomputable def cZ:↑W->M W:=OB 2 fw
noncomputable def fu:KU->M Fl:=(OY (OZ 2<|m3 slW (Ny 0) (Nt ⇑1)<|Nt ⇑4)<|OY (OZ 3<|m2 ixW (Ny 0) ⇑4)<|OY (OZ 4<|m2 ixW (Ny 0) ⇑5)<|OY (sIf (mB<|m2 eqW (Ny 3)<|Ny 4) (OW<|Ng (arW 2 cZ)<|Ni (Ny 3)<|Ni (Ny 1) Nq) OV)<|OY (sIf (mB<|m2 eqW (Ny 3)<|Ny 1) (OW<|mTl<|MX<|Ni (m2 Lo (m2 Lo (Nx<|Ni ⇑"unless" Nq)<|Ny 2)<|Nx<|Ni (Ny 4) Nq) Nq) OV)<|OW<|mTl<|LC (mTl<|MX<|Ni (m2 Lo (m2 Lo (Nx<|Ni ⇑"when" Nq)<|Ny 2)<|Nx<|Ni (Ny 3) Nq) Nq)<|Ng (arW 2 cZ)<|Ni (Ny 4)<|Ni (Ny 1) Nq)
noncomputable def fD:↑W->M W:=OB 5 fu
noncomputable def d8:KU->M Fl:=(OY (sIf (mB<|m2 eqW (m2 ixW (Ny 0) ⇑0) ⇑"go") (OW<|Ng (arW 2 cZ)<|Ni (m2 ixW (Ny 0) ⇑1)<|Ni (Ny 1) Nq) OV)<|OY (sIf (mB<|m2 eqW (m2 ixW (Ny 0) ⇑0) ⇑"if") (OW<|Ng (arW 2 fD)<|Ni (Ny 0)<|Ni (Ny 1) Nq) OV)<|OW<|mTl<|MX<|Ni (Ny 0) Nq)
noncomputable def eC:↑W->M W:=OB 2 d8
noncomputable def cF:KU->M Fl:=(OY (sIf (mB<|m2 inW (m2 ixW (Ny 0) ⇑0)<|mC<|.tup<|(["jump","when","unless"]:↑Str).map W.str) (OW<|m2 Lo (m3 slW (Ny 0) aj<|Nt<|m1 NE ⇑1)<|Nx<|Ni (m2 ixW (Ny 1)<|m2 ixW (Ny 0)<|m1 NE ⇑1) Nq) OV)<|OY (sIf (mB<|m2 eqW (m2 ixW (Ny 0) ⇑0) ⇑"table") (OW<|Nx<|Ni ⇑"table" (Ni (m2 ixW (Ny 0) ⇑1)<|Ni (Ng gG<|Ni (mTl<|Nh [] (Nu (m2 ixW (Ny 0) ⇑2) Pn) (tgN 0) Nz (m2 ixW (Ny 3)<|Ny 0) 2) Nq) Nq)) OV)<|OW<|Ny 0)
noncomputable def cI:↑W->M W:=OB 2 cF
noncomputable def l6:KU->M Fl:=(OY (OZ 2<|Np<|MX Nq)<|OY (OZ 3 Nj)<|OY (OP (Nv (Ni (Ny 1)<|Ni (m2 LD (m3 slW (Ny 1) (Nt ⇑1) aj)<|Nx<|Ni (mC .non) Nq) Nq)<|Po true true) (tgT [4,5])<|OY (OZ 6<|m2 ixW (m2 ixW (Ny 0) ⇑1)<|Ny 4)<|OY (av (Ny 3) (Ny 4)<|Ng MY<|Ni (Ny 2) Nq)<|OY (sEx<|No isL dy (Ny 2)<|Ni (m2 ixW (Ny 6) ⇑1) Nq)<|sEx<|No isL dy (Ny 2)<|Ni (Ng (arW 2 eC)<|Ni (m2 ixW (Ny 6) ⇑2)<|Ni (Ny 5) Nq) Nq)<|OW<|Np<|Nh [] (Nu (Ny 2) Pm) (tgN 0) Nz (Ng (arW 2 cI)<|Ni (Ny 0)<|Ni (Ny 5) Nq) 2)
noncomputable def l9:↑W->M W:=OB 7 l6
noncomputable def d5:KU->M Fl:=(OY (av (Ny 0) ⇑1 (m2 Lo (m2 ixW (Ny 0) ⇑1) ⇑1))<|OY (OZ 2<|m2 ixW (Ny 0) ⇑0)<|OY (sIf (mB<|m2 geW (Ny 2)<|m2 Oe ⇑10 ⇑18) (OY (av (Ny 0) ⇑0 (m2 Ma (Ny 2)<|Ny 1))<|OW<|m2 NC (Ny 2)<|Ny 1) OV)<|OY (OZ 3<|m2 NC (m2 Lo (m2 Lo (m2 ND (Ny 2) ⇑69621)<|m2 ND (m2 ixW (Ny 0) ⇑1) ⇑7919) ⇑13) ⇑2147483647)<|OY (OZ 3<|m2 NC (m2 ND (Ny 3)<|Ny 3) ⇑2147483629)<|OW<|m2 NC (m2 Ma (m2 NC (m2 Lo (m2 ND (Ny 3) ⇑48271)<|m2 ND (m2 ixW (Ny 0) ⇑1) ⇑40692) ⇑2147483587) ⇑8)<|Ny 1)
noncomputable def ai:↑W->M W:=OB 4 d5
noncomputable def d4:KU->M Fl:=(OY (sIf (mB<|m2 eqW (Ng MY<|Ni (Ny 0) Nq) ⇑0) (OW<|mTl<|MX<|Ni (Np<|MX<|Ni ⇑0 (Ni ⇑0 Nq)) Nq) OV)<|OW<|mTl<|Nh [] (Nu (m3 slW (Ny 0) aj<|Nt ⇑63) Pm) (tgN 0) Nz (Np<|MX<|Ni (Ny 0)<|Ni ⇑0 Nq) 2)
noncomputable def dc:↑W->M W:=OB 1 d4
noncomputable def ft:KU->M Fl:=(OY (OZ 2<|Ng (arW 2 ai)<|Ni (Ny 0)<|Ni ⇑8 Nq)<|OY (OZ 3<|Ng (arW 2 ai)<|Ni (Ny 0)<|Ni (Ny 1) Nq)<|OY (OZ 4<|Ng (arW 2 ai)<|Ni (Ny 0)<|Ni (Ny 1) Nq)<|OY (sIf (mB<|m2 eqW (Ny 2) ⇑0) (OW<|Nx<|Ni ⇑"stop" Nq) OV)<|OY (sIf (mB<|m2 ltW (Ny 2) ⇑3) (OW<|Nx<|Ni ⇑"go" (Ni (Ny 3) Nq)) OV)<|OY (sIf (mB<|m2 eqW (Ny 2) ⇑7) (OW<|Nx<|Ni ⇑"table" (Ni (Nx<|Ni ⇑"box" (Ni ⇑"a" Nq))<|Ni (Ng gG<|Ni (mTl<|Nh [] (Nv (Ni (m2 Lo ⇑1 (Ng (arW 2 ai)<|Ni (Ny 0)<|Ni ⇑6 Nq)) Nq) Ow) (tgN 0) Nz (Ng (arW 2 ai)<|Ni (Ny 2)<|Ni (Ny 3) Nq) 2) Nq) Nq)) OV)<|OY (sIf (mB<|m2 eqW (Ny 2) ⇑6) (OZ 4<|Ny 3) OV)<|OW<|Nx<|Ni ⇑"if" (Ni (m2 ixW (mTl<|MX<|Ni ⇑"<" (Ni ⇑"=" Nq))<|Ng (arW 2 ai)<|Ni (Ny 0)<|Ni ⇑2 Nq)<|Ni (Nx<|Ni ⇑"box" (Ni ⇑"a" Nq))<|Ni (Nx<|Ni ⇑"number" (Ni (Ng (arW 2 ai)<|Ni (Ny 0)<|Ni ⇑1000 Nq) Nq))<|Ni (Ny 3)<|Ni (Ny 4) Nq))
noncomputable def dI:↑W->M W:=OB 5 ft
noncomputable def cG:KU->M Fl:=(OY (OZ 2<|mTl<|MX<|Ni (mTl<|MX Nq)<|Ni (mTl<|MX<|Ni (Nx<|Ni ⇑"say" (Ni (Nx<|Ni ⇑"box" (Ni ⇑"a" Nq)) Nq)) Nq)<|Ni (mTl<|MX<|Ni (Nx<|Ni ⇑"ask" (Ni ⇑"a" Nq)) Nq)<|Ni (mTl<|MX<|Ni (Nx<|Ni ⇑"put" (Ni ⇑"a" (Ni (Nx<|Ni ⇑"number" (Ni ⇑7 Nq)) Nq)))<|Ni (Nx<|Ni ⇑"ask" (Ni ⇑"a" Nq)) Nq) Nq)<|OY (OZ 3<|Np<|MX Nq)<|OY (OP (Nv (Ni (Ny 1) Nq) Ow) (tgN 4)<|sEx<|No isL cA (Ny 3)<|Ni (Nx<|Ni (m2 Lo ⇑"n" (m2 ixW ⇑"abcdefghij" (Ny 4)))<|Ni (mTl<|MZ<|Ni (m2 ixW (Ny 2)<|Ng (arW 2 ai)<|Ni (Ny 0)<|Ni ⇑4 Nq) Nq)<|Ni (Ng (arW 2 dI)<|Ni (Ny 0)<|Ni (Ny 1) Nq) Nq) Nq)<|OW<|Nx<|Ni (mTl<|MX<|Ni (Nx<|Ni ⇑"a" (Ni ⇑3 Nq)) Nq)<|Ni (m1 Mt<|Ny 3) Nq)
noncomputable def bV:↑W->M W:=OB 5 cG
noncomputable def dZ:KU->M Fl:=(OY (OZ 1<|Np<|MX Nq)<|OY (OP (Nv (Ni (Ny 0) Nq) L5) (tgG [(tgN 2),(tgT [3,4,5])])<|OY (OZ 6<|mTl<|MX Nq)<|OY (sIf (mB<|m2 eqW (m2 ixW (Ny 5) ⇑0) ⇑"go") (OZ 6<|mTl<|MX<|Ni (m2 ixW (Ny 5) ⇑1) Nq) OV)<|OY (sIf (mB<|m2 eqW (m2 ixW (Ny 5) ⇑0) ⇑"if") (OZ 6<|mTl<|MX<|Ni (m2 ixW (Ny 5) ⇑4)<|Ni (m2 ixW (Ny 5) ⇑5) Nq) OV)<|OY (sIf (mB<|m2 eqW (m2 ixW (Ny 5) ⇑0) ⇑"table") (OZ 6<|mTl<|MZ<|Ni (m2 ixW (Ny 5) ⇑2) Nq) OV)<|sEx<|No isL dy (Ny 1)<|Ni (mTl<|Nh [] (Nv (Ni (Ny 6) Nq) L5) (tgT [0,1]) Nz (Nx<|Ni (Ny 5)<|Ni (Ny 0)<|Ni (Ny 1) Nq) 3) Nq)<|OW<|m1 Mt<|Ny 1)
noncomputable def eB:↑W->M W:=OB 7 dZ
noncomputable def d6:KU->M Fl:=(OY (OZ 3 Nj)<|OY (OP (Nv (Ni (Ny 1)<|Ni (m3 slW (Ny 1) (Nt ⇑1) aj) Nq)<|Po true true) (tgT [4,5])<|av (Ny 3) (Ny 4)<|Ny 5)<|OY (OZ 6 ⇑0)<|OY (OP (Nv (Ni (Ng (arW 1 eB)<|Ni (Ny 0) Nq)<|Ni (Ny 2) Nq)<|Po false false) (tgG [(tgT [7,8,9]),(tgN 10)])<|sIf (mOr (mB<|m2 eqW (m2 ixW (m2 ixW (m2 ixW (Ny 0)<|Ny 7) ⇑2) ⇑0) ⇑"table")<|mB<|m2 neW (Nk (Ny 3)<|Ny 7)<|Ny 9) (OZ 6<|m2 Lo (Ny 6)<|Ny 10) OV)<|OW<|Ny 6)
noncomputable def aR:↑W->M W:=OB 11 d6
noncomputable def dk:KU->M Fl:=(OY (OZ 2<|Np<|lrL<|Ni ⇑1 (Ni (Ny 1) Nq))<|OY (OZ 3<|Nx<|Ni ⇑0 Nq)<|OY (bh (mB<|m2 neW (Ny 2)<|mTl<|MX Nq) (OZ 3<|m2 Lo (Ny 3)<|Nx<|Ni (No isL i9 (Ny 2)<|Ni (Ng (arW 2 ai)<|Ni (Ny 0)<|Ni (Ng MY<|Ni (Ny 2) Nq) Nq) Nq) Nq) 12)<|OW<|Ny 3)
noncomputable def cN:↑W->M W:=OB 4 dk
noncomputable def bZ:KU->M Fl:=(OY (OZ 5<|Ng (arW 2 l9)<|Ni (Ny 0)<|Ni (Ny 1) Nq)<|OY (OZ 6<|Ng (arW 4 eA)<|Ni (m2 ixW (Ny 0) ⇑0)<|Ni (Ny 5)<|Ni (mTl<|MZ<|Ni (Ny 2) Nq)<|Ni ⇑400 Nq)<|OW<|m2 eqW (Ny 6)<|Nx<|Ni (m2 ixW (Ny 3) ⇑0)<|Ni (m2 ixW (Ny 3) ⇑1)<|Ni (Ny 4) Nq)
noncomputable def aG:↑W->M W:=OB 7 bZ
noncomputable def cW:KU->M Fl:=(OY (sIf (mOr (Nr<|mB<|Ng MD<|Ni (Ny 0)<|Ni (mC<|.ty "tuple") Nq)<|mOr (mB<|m2 neW (Ng MY<|Ni (Ny 0) Nq)<|Ny 1)<|mB<|m2 neW (m2 ixW (Ny 0) ⇑0) ⇑0) (OW<|mC<|.bl false) OV)<|OY (OP (Nu (Ny 0) Pn) (tgN 2)<|sIf (mOr (Nr<|mB<|Ng MD<|Ni (Ny 2)<|Ni (mC<|.ty "int") Nq)<|mB<|Ng MD<|Ni (Ny 2)<|Ni (mC<|.ty "bool") Nq) (OW<|mC<|.bl false) OV)<|OW<|m2 eqW (Ng iT<|Ni (Ny 0) Nq)<|mTl<|M4<|Ni (Ny 1) Nq)
noncomputable def cy:↑W->M W:=OB 3 cW
noncomputable def nU (π:Ch):KU->M Fl:=(OY (OZ 1<|Ng (arW 1 dc)<|Ni (Ny 0) Nq)<|OY (OZ 2<|m2 Lo ⇑1 (Ng (arW 2 ai)<|Ni (m2 ixW (Ny 1) ⇑0)<|Ni ⇑7 Nq))<|OY (sIf (mB<|m2 eqW (Ng (arW 2 ai)<|Ni (m2 ixW (Ny 1) ⇑0)<|Ni ⇑8 Nq) ⇑0) (OZ 2<|m2 Lo ⇑8 (Ng (arW 2 ai)<|Ni (m2 ixW (Ny 1) ⇑0)<|Ni ⇑3 Nq)) OV)<|OY (OZ 3<|Ng (arW 2 bV)<|Ni (m2 ixW (Ny 1) ⇑0)<|Ni (Ny 2) Nq)<|OY (OZ 4<|m2 ixW (mTl<|MX<|Ni ⇑3 (Ni ⇑1000 (Ni (m2 Oe ⇑10 ⇑30) Nq)))<|Ng (arW 2 ai)<|Ni (m2 ixW (Ny 1) ⇑0)<|Ni ⇑3 Nq)<|OY (OZ 5<|mTl<|Nh [] (Nu (Ny 1) Pm) (tgN 0) Nz (Ng (arW 2 ai)<|Ni (Ny 0)<|Ni (Ny 6) Nq) 2)<|OY (OZ 6<|Ng (arW 3 kQ)<|Ni (Ny 3)<|Ni (mTl<|MZ<|Ni (Ny 5) Nq)<|Ni ⇑60 Nq)<|OY (OZ 7<|Ng (arW 3 eT)<|Ni (Ny 3)<|Ni (mTl<|MX<|Ni (mTl<|MZ<|Ni (Ny 5) Nq) Nq)<|Ni ⇑60 Nq)<|OY (OZ 8<|Ng (arW 2 jM)<|Ni (Ny 3)<|Ni (mTl<|MZ<|Ni (Ny 7) Nq) Nq)<|OY (sIf (Nr<|mB<|Ng (arW 2 cy)<|Ni (Ny 8)<|Ni (Ny 2) Nq) (OW<|mC<|.bl false) OV)<|OY (OZ 9<|Ng (arW 3 aR)<|Ni (m2 ixW (Ny 3) ⇑1)<|Ni (Ny 8)<|Ni (Ny 7) Nq)<|OY (OZ 10<|Ng (arW 2<|gu π)<|Ni (Ny 3)<|Ni (mTl<|MZ<|Ni (Ny 7) Nq) Nq)<|OY (sIf (mOr (mB<|m2 NF (Ng (arW 3 de)<|Ni (Ny 3)<|Ni (mTl<|MZ<|Ni (Ny 7) Nq)<|Ni (mTl<|MZ<|Ni (Ny 10) Nq) Nq)<|mC<|.bl true)<|mB<|m2 neW (Ng (arW 3 df)<|Ni (Ny 3)<|Ni (mTl<|MZ<|Ni (Ny 7) Nq)<|Ni (Ny 10) Nq)<|Ny 9) (OW<|mC<|.bl false) OV)<|OY (OZ 11<|Ny 8)<|OY (OP (Nu (Ny 1) Pm) (tgN 12)<|OY (OZ 11<|Ng (arW 2 cN)<|Ni (Ny 12)<|Ni (Ny 2) Nq)<|sIf (mB<|m2 ltW (Ng (arW 3 aR)<|Ni (m2 ixW (Ny 3) ⇑1)<|Ni (Ny 11)<|Ni (Ny 7) Nq)<|Ny 9) (OW<|mC<|.bl false) OV)<|OY (sIf (mB<|m2 neW (Ng (arW 3 g7)<|Ni (Ny 3)<|Ni (Ny 11)<|Ni (mTl<|MZ<|Ni (Ny 7) Nq) Nq)<|Ng (arW 3 aR)<|Ni (m2 ixW (Ny 3) ⇑1)<|Ni (Ny 11)<|Ni (Ny 7) Nq) (OW<|mC<|.bl false) OV)<|OY (sIf (mB<|m2 eqW (m2 ixW (Ny 6) ⇑1)<|Nx<|Ni ⇑"on" Nq) (OW<|mC<|.bl true) OV)<|OY (sIf (Nr<|mB<|Ng (arW 5 aG)<|Ni (Ny 3)<|Ni (Ny 8)<|Ni (Ny 5)<|Ni (Ny 6)<|Ni (Ny 9) Nq) (OW<|mC<|.bl false) OV)<|OW<|Ng (arW 5 aG)<|Ni (Ny 3)<|Ni (Ny 11)<|Ni (Ny 5)<|Ni (Ny 6)<|Ni (Ng (arW 3 aR)<|Ni (m2 ixW (Ny 3) ⇑1)<|Ni (Ny 11)<|Ni (Ny 7) Nq) Nq)
noncomputable def nW (π:Ch):↑W->M W:=OB 13<|nU π
end Q
namespace Q
open PySem L2
local macro_rules | `(tactic| simp! only [$xs,*]) => do { let l ← ("Mb aA aM aL aH bf bg OP Nn ah OI OK OO PF OW OZ OV sEx av mB L2.m2 L2.m1 L2.m3 Ny mC Ng Ni Nq Nx mTl Np MX MZ Nt aj mOr Nr Nc mIf No Nu Nv Pm Pn tgN tgT O6 Nz au bd_no asB_bl addW_int subW_int ltW_int leW_int gtW_int geW_int eqW_int eqW_str neW_int neW_str neW_bl slW_tl slW_cl lenW_tl lenW_tup NE List.set_cons_zero List.set_cons_succ List.getElem?_cons_zero Gn FA GM arW if_true if_false Gu ite_true ite_false reduceIte decide_true decide_false GE Bool.not_false gdn0 gdn1 gdn2 gdn3 gdn4 gdn6".splitOn " ").toArray.mapM λs => `(Lean.Parser.Tactic.simpLemma| $(Lean.mkIdent s.toName):term); let y : Lean.TSyntaxArray [`Lean.Parser.Tactic.simpStar, `Lean.Parser.Tactic.simpErase, `Lean.Parser.Tactic.simpLemma] := l.map (⟨·.raw⟩) ++ xs.getElems; `(tactic| try simp only [$[$y],*]) }
local macro_rules | `(tactic| simp! [$xs,*]) => `(tactic| simp! only [ae,$xs,*])
local macro_rules | `(tactic| simp!) => `(tactic| simp! only [aa])
section
def sz {n:Nat}(h:n<=100000):n<=sizeLine:=F1 h ↥_
def qK (l:↑W):M9 (.tl l)=pr l:=rfl
def cD (l:↑W):Pm (.tl l)=pr (l,λJ=>True):=rfl
def gF (l:↑W):gG [.tl l]=pr (.tup l):=rfl
def zW (a b:↑W)(h:⇑a+⇑b<=sizeLine):Lo (.tl a) (.tl b)=pr (.tl<|a++b):=by show gd (⇑a+⇑b<=sizeLine) (pr<|W.tl<|a++b)=_;exact ag h
def Pot (h:↑Ob)(j:Nat):Prop:=∃a b:Int,h[j]?=some (.lst [.int a,.int b])
structure Kp (j:Nat)(h h':↑Ob):Prop where
 fr:Fr j h h'
 re:Pot h' j
theorem Kp.trans {j:Nat}(x:Kp j a b)(y:Kp j b c):Kp j a c:=(x.fr.trans y.fr,y.re)
structure Kn (j:Nat)(h h':↑Ob):Prop where
 le:⇑h<=⇑h'
 eq:∀i,i<⇑h->i≠j->h'[i]?=h[i]?
 re:Pot h' j
def Kp.kn {j:Nat}(x:Kp j h h'):Kn j h h':=(GV x.fr.len.symm,λi J hj=>x.fr.eq i hj,x.re)
theorem Kn.trans {j:Nat}(x:Kn j a b)(y:Kn j b c):Kn j a c:=(F1 x.le y.le,λi hi hj=>(y.eq i (FT hi x.le) hj).trans<|x.eq i hi hj,y.re)
def cp18:KO 10 18:=(↥_,↥_,↥_)
def lJ {j:Nat}{m:Int}(R:Pot h j)(hm:0<m)(hz:m<2^200):Ok (ai [.loc j,.int m]) h λw h'=>∃v:Int,w=.int v/\0<=v/\v<m/\Kp j h h':=by
 let(a,b,e):=R;have e0:ai [.loc j,.int m]=bd (d5 [some<|.loc j,some<|.int m,none,none]) Mb:=rfl;rw[e0];unfold d5;simp! only[aa,ng cp18];refine nr e (w:=.int b) rfl ?_;simp!;refine Ai e (i:=1) rfl ?_;have e1:(h.set j<|.lst<|[.int a,.int b].set 1<|.int<|b+1)[j]?=some (.lst [.int a,.int<|b+1]):=aU e;have f1:Fr j h (h.set j<|.lst<|[.int a,.int b].set 1<|.int<|b+1):=Fr.set;generalize h.set j (.lst<|[.int a,.int b].set 1<|.int<|b+1)=h1 at*;generalize b+1=c at*;simp!;refine nr e1 (w:=.int a) rfl ?_;by_cases hc:10^(18:Int).toNat<=a;simp! only[aa,CF hc,kP hm hz];refine Ai e1 (i:=0) rfl ?_;simp! only[aa,cL hm];exact ae (a%m,rfl,GR _ ∅,G3 _ hm,f1.trans Fr.set,_,_,aU e1)
 .simp! only[aa,s0 hc,dF<|lN (i:=a) (j:=69621) ↥_ ↥_];refine nr e1 (w:=.int c) rfl ?_;simp! only[aa,dF<|lN (i:=c) (j:=7919) ↥_ ↥_,cL<|show (0:Int)<2147483647 by decide];generalize hx:(a*69621+c*7919+13)%2147483647=x;have b0:0<=x:=by rw[<-hx];exact GR _ ↥_
  have b1:x<2147483647:=by rw[<-hx];exact G3 _ ↥_
  simp! only[aa,dF<|BK (i:=x) (j:=x) ∅ ∅,cL (show (0:Int)<2147483629 by decide),dF<|lN (i:=x*x%2147483629) (j:=48271) ↥_ ↥_];refine nr e1 (w:=.int c) rfl ?_;simp! only[aa,dF<|lN (i:=c) (j:=40692) ↥_ ↥_,cL (show (0:Int)<2147483587 by decide),kP (show (0:Int)<8 by decide) ↥_,cL hm];exact ae (_,rfl,GR _ ∅,G3 _ hm,f1,_,_,e1)
def cq {β:Type}{k:W->M β}{Q:β->↑Ob->Prop}{j:Nat}{m:Int}(R:Pot h j)(hm:0<m)(hz:m<2^200)(q:∀v h' ,0<=v->v<m->Kp j h h'->Ok (k<|.int v) h' Q):Ok (bd (ai [.loc j,.int m]) k) h Q:=
 ap (lJ R hm hz) λw h' (v,e,a,b,K)=>by subst e;exact q v h' a b K
def qM (l:↑W):MY [.cl l]=pr (.int ⇑l):=rfl
def Pots (h:↑Ob)(ks:↑Nat):Prop:=∀k∈ks,Pot h k
def Pots.kn {j:Nat}(P:Pots h ks)(K:Kn j h h'):Pots h' ks:=λk hk=>by
 by_cases z:k=j;subst z;exact K.re;let(a,b,e):=P k hk;exact(a,b,(K.eq k (bm e) z).trans e)
def ua (ns:↑Int):⇑(LM ns none<|some 63)<=63:=by unfold LM;rw[Gm];show min (min (63:Int).toNat ⇑ns-0) _<=63;have:(63:Int).toNat=63:=rfl;omega
def xt (ns:↑Int)(h:ns≠ []):LM ns none (some 63)≠ []:=by unfold LM;intro z;have z:=congrArg List.length z;rw[Gm,Hq,GM]at z;have h0:0<⇑ns:=HM.mpr h;have z:min (min (63:Int).toNat ⇑ns-0) (⇑ns-0)=0:=z;have:(63:Int).toNat=63:=rfl;omega
def yp (ns:↑Int)(h:↑Ob):Ok (dc [.cl<|ns.map W.int]) h λw h'=>∃ks:↑Nat,w=.tl (ks.map W.loc)/\ks≠ []/\⇑ks<=63/\Pots h' ks:=by
 have e0:dc [.cl<|ns.map W.int]=bd (d4 [some<|.cl<|ns.map W.int]) Mb:=rfl;rw[e0];unfold d4;cases ns with
 |nil=>
  have z0:decide (((0:Nat):Int)=0)=true:=rfl;simp! only[aa,qM,GB,z0];refine dC ?_;simp!;refine ae ([⇑h],rfl,⇑_,⇑_,λk hk=>?_);rw[FR.mp hk];exact(_,_,bL)
 |cons c ns=>
  have hne:¬(((⇑((c::ns).map W.int):Nat):Int)=0):=by rw[Fv,FA];omega
  have cm:=zL W.int (c::ns) none<|some 63;have c1:=ua (c::ns);have c2:=xt (c::ns) ⇑_;generalize LM (c::ns) none (some 63)=cs at*;generalize c::ns=ms at*;have gl:∀ {α:Type} (q:M α),gd (⇑(cs.map W.int)<=sizeLine) q=q:=λq=>ag (by rw[Fv];exact sz ∅);simp! only[aa,qM,s0 hne,ah,cm,cD,gl];refine bY (I:=λi a h'=>∃ks:↑Nat ,a=ks.map W.loc/\⇑ks=i/\Pots h' ks) ([],rfl,rfl,λk hk=>absurd hk FV) cQ (λJ J J J=>trivial) (λi w a h' hw I=>?_) λa h' I=>?_
  .let(ks,rfl,rfl,P):=I;rw[FB]at hw;let(x,hx,rfl):=FE.mp hw;refine(_,rfl,?_);simp! only[List.replicate,F8,Ge,aa];refine(.loc ⇑h',h'++[.lst [.int x,.int 0]],rfl,ks++[⇑h'],by rw[FF];rfl,⇑_,λk hk=>?_);rcases Gg.mp hk with hk|hk
   let(a,b,e):=P k hk;exact(a,b,dX e);rw[FR.mp hk];exact(_,_,bL)
  let(ks,rfl,e,P):=I;rw[Fv]at e;simp!;refine ae (ks,rfl,λz=>c2 ?_,∅,P);rw[z]at e;exact Hu e.symm
noncomputable def Pd:Nat->W->Prop|0,_=>False|n+1,w=>(∃i ,w=.int i)\/(∃z ,w=.str z/\KC.strOk z=true)\/ ∃l,(w=.tup l\/w=.tl l)/\⇑l<=1000/\∀x∈l,Pd n x
theorem Pd.mono:∀ {n:Nat}{w:W},Pd n w->Pd (n+1) w
 |n+1,w,p=>by
  rcases p with p|p|⟨l,e,z,p⟩
  exact .inl p;exact .inr<|.inl p;exact .inr<|.inr (l,e,z,λx hx=>(p x hx).mono)
theorem Pd.int {n:Nat}{i:Int}:Pd (n+1) (.int i):=.inl (i,rfl)
theorem jp {n:Nat}:∀ (l:↑W),(∀x∈l ,∃d,LQ h n x=`d/\d.canLay0=true)->∃ds,NU (LQ h n) l=`ds/\KC.canLayAll0 ds=true
 |[],_=>([],rfl,by rw[KC.canLayAll0])
 |x::l,q=>by
  let(d,e,c):=q x FQ;let(ds,es,cs):=jp l λy hy=>q y<|FX _ hy;refine(d::ds,?_,?_);simp only[NU,e,es];rw[KC.canLayAll0,c,cs];rfl
theorem Pd.data :∀ {n:Nat}{w:W},Pd n w->∃d,LQ h n w=`d/\d.canLay0=true
 |n+1,w,p=>by
  rcases p with⟨i,rfl⟩|⟨z,rfl,hz⟩|⟨l,e,_,p⟩
  exact(.int i,rfl,by rw[KC.canLay0]);exact(.str z,rfl,by rw[KC.canLay0];exact hz)
  .let(ds,es,cs):=jp (h:=h) l λx hx=>(p x hx).data;rcases e with rfl|rfl
   exact(.tuple ds,by show (NU (LQ h n) l).map KC.tuple=_;rw[es];rfl,by rw[KC.canLay0];exact cs);exact(.list ds,by show (NU (LQ h n) l).map KC.list=_;rw[es];rfl,by rw[KC.canLay0];exact cs)
def wZ (p:∀x∈l ,Pd 49 x):eqW (.tl l) (.tl l)=pr (.bl true):=ma λh=>by let(ds,es,cs):=jp (h:=h) l λx hx=>(p x hx).data;rw[t5 es es cs cs,dz ds cs]
inductive E17|go (t:Int)|iff (s:Str)(a b:W)(x y:Int)|table (e:W)(ts:↑Int)|stop
noncomputable def E17.w:E17->W|.go t=>.tup [.str "go",.int t]|.iff s a b x y=>.tup [.str "if",.str s,a,b,.int x,.int y]|.table e ts=>.tup [.str "table",e,.tup<|ts.map W.int]|.stop=>.tup [.str "stop"]
end
section
noncomputable def bxW (p:Str×Int):W:=.tup [.str p.1,.int p.2]
noncomputable def nI (n:Nat):W:=.int n
inductive Xe|num (i:Int)|box (z:Str)|op (c:Str)(a b:Xe)
noncomputable def Xe.w:Xe->W|.num i=>.tup [.str "number",.int i]|.box z=>.tup [.str "box",.str z]|.op c a b=>.tup [.str c,a.w,b.w]
noncomputable def Xe.G (ns:↑Str):Nat->Xe->Prop|0,_=>False|_+1,.num i=>0<=i/\i<1000|_+1,.box z=>z∈ns|n+1,.op c a b=>(c="+"\/c="-"\/c="*")/\a.G ns n/\b.G ns n
inductive Sm|say (e:Xe)|ask (z:Str)|put (z:Str)(e:Xe)
noncomputable def Sm.w:Sm->W|.say e=>.tup [.str "say",e.w]|.ask z=>.tup [.str "ask",.str z]|.put z e=>.tup [.str "put",.str z,e.w]
noncomputable def Sm.G (ns:↑Str):Sm->Prop|.say e=>e.G ns 6|.ask z=>z∈ns|.put z e=>z∈ns/\e.G ns 6
structure Bx (ps:↑(Str×Int)):Prop where
 len:⇑ps<=4
inductive En|go (t:Nat)|iff (s:Str)(a b:Xe)(x y:Nat)|tab (e:Xe)(ts:↑Nat)|stop
noncomputable def En.w:En->W|.go t=>.tup [.str "go",nI t]|.iff s a b x y=>.tup [.str "if",.str s,a.w,b.w,nI x,nI y]|.tab e ts=>.tup [.str "table",e.w,.tup<|ts.map nI]|.stop=>.tup [.str "stop"]
noncomputable def En.G (ns:↑Str)(m:Nat):En->Prop|.go t=>t<m|.iff s a b x y=>(s="<"\/s="=")/\a.G ns 6/\b.G ns 6/\x<m/\y<m|.tab e ts=>e.G ns 6/\1<=⇑ts/\⇑ts<=6/\∀t∈ts,t<m|.stop=>True
def oy {α:Type}(l:↑α)(x:α):atI (l++[x]) (-1)=`x:=by unfold atI ixN;rw[gV ↥_,np<|by rw[FH];show -((⇑l+1:Nat):Int)<= -1;omega];show (l++[x])[((-1:Int)+(⇑(l++[x]):Int)).toNat]?=_;rw[show ((-1:Int)+(⇑(l++[x]):Int)).toNat=⇑l by rw[FH];show ((-1:Int)+((⇑l+1:Nat):Int)).toNat=_;omega];simp
def eqT1 {a b:Str}(ha:KC.canLay0 (.str a)=true)(hb:KC.canLay0 (.str b)=true):eqB (.tup [.str a]) (.tup [.str b]) h=some (KC.eqvAll [.str a] [.str b]):=
 xb (ds:=[.str a]) (es:=[.str b]) rfl rfl (by rw[KC.canLayAll0,ha,KC.canLayAll0];rfl) (by rw[KC.canLayAll0,hb,KC.canLayAll0];rfl)
def eqvS (a b:Str):KC.eqvAll [.str a] [.str b]=decide (a=b):=by
 rw[KC.eqvAll,KC.eqv,KC.eqvAll,Bool.and_true]
 first
  |rfl
  |exact Gv.mpr ⇑_
def Lz:∀a∈(["on","stop","out"]:↑Str),KC.canLay0 (.str a)=true:=by intro a ha;rw[KC.canLay0];revert a;decide+kernel
def Ez {a b:Str}(ha:a∈(["on","stop","out"]:↑Str))(hb:b∈(["on","stop","out"]:↑Str)):eqW (.tup [.str a]) (.tup [.str b])=pr (.bl<|decide<|a=b):=ma λh=>by rw[eqT1 (Lz a ha)<|Lz b hb,eqvS]
def Et:("on":Str)∈(["on","stop","out"]:↑Str):=⇑_
end
section
abbrev Sto:=List<|Str×Int
noncomputable def kz (σ:Sto):↑Key:=σ.map λp=>.inr p.1
noncomputable def vz (σ:Sto):↑W:=σ.map λp=>.int p.2
noncomputable def rd:Sto->Str->Option Int|[],_=>none|p::σ,z=>if p.1=z then some p.2 else rd σ z
noncomputable def wr (σ:Sto)(z:Str)(v:Int):Sto:=if (σ.any λp=>decide<|p.1=z)=true then σ.map (λp=>if p.1=z then (p.1 ,v) else p) else σ++[(z ,v)]
theorem xE (z:Str):∀σ:Sto,atK (kz σ) (vz σ) (.inr z)=(rd σ z).map W.int
 |[]=>rfl
 |p::σ=>by
  show (if (Sum.inr p.1:Key)=.inr z then some (W.int p.2) else atK (kz σ) (vz σ) (.inr z))=((if p.1=z then some p.2 else rd σ z).map W.int);by_cases h:p.1=z;rw[np h,np<|by rw[h]];rfl;rw[gV h,gV (λq=>h<|by cases q;rfl),xE z σ]
theorem nJ (z:Str)(v:Int):∀σ:Sto,NA (kz σ) (vz σ) (.inr z) (.int v)=vz (σ.map λp=>if p.1=z then (p.1 ,v) else p)
 |[]=>rfl
 |p::σ=>by
  show (if (Sum.inr p.1:Key)=.inr z then W.int v else .int p.2)::NA (kz σ) (vz σ) (.inr z) (.int v)=W.int (if p.1=z then (p.1 ,v) else p).2::vz (σ.map λp=>if p.1=z then (p.1 ,v) else p);rw[nJ z v σ];by_cases h:p.1=z;rw[np h,np<|by rw[h]];rw[gV h,gV<|λq=>h<|by cases q;rfl]
def Dg (z:Str)(σ:Sto):((kz σ).any λk=>decide<|k=(.inr z:Key))=σ.any λp=>decide (p.1=z):=by
 unfold kz;rw[Hv];congr 1;funext p;show decide ((Sum.inr p.1:Key)=.inr z)=_;by_cases h:p.1=z;rw[CF h,CF<|by rw[h]];rw[s0 h,s0<|λq=>h<|by cases q;rfl]
def lC (σ:Sto)(z:Str)(v:Int):Oo (kz σ) (vz σ) (.inr z) (.int v)=(kz (wr σ z v) ,vz<|wr σ z v):=by
 unfold Oo wr;rw[Dg];by_cases h:(σ.any λp=>decide<|p.1=z)=true
 .rw[np h,np h,nJ];congr 1;unfold kz;rw[F4];refine Go λp J=>?_;show _=(Sum.inr (if p.1=z then (p.1 ,v) else p).1:Key);by_cases q:p.1=z;rw[np q];rw[gV q]
 rw[gV h,gV h];unfold kz vz;rw[FF,FF];rfl
theorem u3 (y z:Str)(v:Int):∀σ:Sto,rd (σ++[(z ,v)]) y=(match rd σ y with
  |some u=>`u
  |none=>if z=y then `v else none)
 |[]=>rfl
 |p::σ=>by
  show (if p.1=y then some p.2 else rd (σ++[(z ,v)]) y)=_;rw[u3 y z v σ]
  show _=(match (if p.1=y then some p.2 else rd σ y) with
   |some u=>`u
   |none=>if z=y then `v else none)
  by_cases h:p.1=y;rw[np h,np h];rw[gV h,gV h]
theorem uZ (y z:Str)(v:Int):∀σ:Sto,rd (σ.map λp=>if p.1=z then (p.1 ,v) else p) y=if z=y then (rd σ y).map (λJ=>v) else rd σ y
 |[]=>by rw[GB];show none=if z=y then none else none;rw[ite_self]
 |p::σ=>by
  show (if (if p.1=z then (p.1 ,v) else p).1=y then some (if p.1=z then (p.1 ,v) else p).2 else rd (σ.map λp=>if p.1=z then (p.1 ,v) else p) y)=if z=y then (if p.1=y then some p.2 else rd σ y).map (λJ=>v) else if p.1=y then some p.2 else rd σ y
  rw[uZ y z v σ];by_cases h:p.1=z;subst h;by_cases q:p.1=y<;>simp [q]
  .rw[gV h];by_cases q:z=y;rw[np q,np q,gV (by rw[<-q];exact h),gV<|by rw[<-q];exact h];rw[gV q,gV q]
theorem lA (z:Str):∀σ:Sto,¬(σ.any λp=>decide<|p.1=z)=true->rd σ z=none|[],_=>rfl|p::σ,h=>by rw[GH,Bool.or_eq_true,not_or,decide_eq_true_eq]at h;show (if p.1=z then some p.2 else rd σ z)=none;rw[gV h.1,lA z σ h.2]
theorem qu (z:Str):∀σ:Sto,(σ.any λp=>decide<|p.1=z)=true->∃v,rd σ z=`v
 |[],h=>by cases h
 |p::σ,h=>by
  show∃v,(if p.1=z then some p.2 else rd σ z)=`v;by_cases q:p.1=z;exact(p.2,np q);rw[gV q];refine qu z σ ?_;rw[GH,s0 q,Bool.false_or]at h;exact h
def qt (σ:Sto)(y z:Str)(v:Int):rd (wr σ z v) y=if z=y then `v else rd σ y:=by
 unfold wr;by_cases h:(σ.any λp=>decide<|p.1=z)=true
 .rw[np h,uZ];by_cases q:z=y;let(u,e):=qu z σ h;rw[np q,np q,<-q,e];rfl;rw[gV q,gV q]
 .rw[gV h,u3];by_cases q:z=y;subst q;simp [lA z σ h];rw[gV q];cases rd σ y<;>simp [q]
def Aw (σ:Sto)(z:Str)(v:Int):⇑(wr σ z v)<=⇑σ+1:=by
 unfold wr;split;rw[Fv];omega;rw[FH];exact Fw _
set_option tactic.hygienic true in
def PZ {z:Str}{u:Int}(v:Int)(e:rd σ z=`u):⇑(wr σ z v)=⇑σ:=by
 unfold wr;split;rw[Fv];rename_i h;rw[lA z σ h]at e;cases e
structure Has (ns:↑Str)(σ:Sto):Prop where
 has:∀z∈ns,∃v:Int,rd σ z=`v/\0<=v/\v<1000000
 sz:⇑σ<=10
theorem Has.wr {ns:↑Str}{z:Str}(H:Has ns σ)(hz:z∈ns)(v:Int):Has ns (wr σ z<|v%1000000):=by
 let(u,e,_):=H.has z hz;refine(λy hy=>?_,by rw[PZ _ e];exact H.sz);rw[qt];by_cases q:z=y;rw[np q];exact(_,rfl,GR _ ↥_,G3 _ ↥_);rw[gV q];exact H.has y hy
noncomputable def Pr (ps:↑(Str×Int)):Sto:=ps.foldl (λσ p=>wr σ p.1 p.2) []
theorem qh:∀ (ps:↑(Str×Int)) (σ:Sto),⇑(ps.foldl (λσ p=>wr σ p.1 p.2) σ)<=⇑σ+⇑ps|[],σ=>⇑_|p::ps,σ=>by have:=qh ps<|wr σ p.1 p.2;have:=Aw σ p.1 p.2;rw[GA,FA];omega
theorem qi (P:Int->Prop):∀ (ps:↑(Str×Int)) (σ:Sto) (z:Str),(∀p∈ps ,P p.2)->(∀v ,rd σ z=`v->P v)->(z∈ps.map (·.1)\/ ∃v ,rd σ z=`v)->∃v,rd (ps.foldl (λσ p=>wr σ p.1 p.2) σ) z=`v/\P v
 |[],σ,z,_,h,q=>by
  rcases q with q|⟨v,q⟩
  cases q;exact(v,q,h v q)
 |p::ps,σ,z,hp,h,q=>by
  rw[GA];refine qi P ps _ z (λx hx=>hp x<|FX _ hx) (λv e=>?_) ?_
  .rw[qt]at e;by_cases y:p.1=z;rw[np y]at e;cases e;exact hp p FQ;rw[gV y]at e;exact h v e
  .by_cases y:p.1=z;exact .inr (p.2,by rw[qt,np y])
   .rcases q with q|⟨v,q⟩
    .rw[Fz]at q;rcases FC.mp q with q|q
     exact absurd q.symm y;exact .inl q
    exact .inr (v,by rw[qt,gV y];exact q)
def Has.first (l:⇑ps<=4)(h:∀p∈ps ,0<=p.2/\p.2<1000):Has (ps.map (·.1)) (Pr ps):=by refine(λz hz=>?_,by have:=qh ps [];unfold Pr;rw[GM]at this;omega);let(v,e,a,b):=qi (λv=>0<=v/\v<1000) ps [] z h (λv e=>by cases e)<|.inl hz;exact(v,e,a,∅)
noncomputable def Xe.val (σ:Sto):Xe->Int|.num i=>i|.box z=>(rd σ z).getD 0|.op c a b=>if c="+" then a.val σ+b.val σ else if c="-" then a.val σ-b.val σ else a.val σ*b.val σ
def E2:decide (("box":Str)="number")=false:=⋯
def EV:decide (("+":Str)="number")=false:=⋯
def EW:decide (("+":Str)="box")=false:=⋯
def EY:decide (("-":Str)="number")=false:=⋯
def EZ:decide (("-":Str)="box")=false:=⋯
def EX:decide (("-":Str)="+")=false:=⋯
def ER:decide (("*":Str)="number")=false:=⋯
def ET:decide (("*":Str)="box")=false:=⋯
def EQ:decide (("*":Str)="+")=false:=⋯
def ES:decide (("*":Str)="-")=false:=⋯
noncomputable def big (n:Nat):Nat:=2^(20*2^n)
def big0:1000000<=big 0:=↥_
def zQ (n:Nat):2<=big n:=by
 unfold big;have h1:1<=20*2^n:=by have:1<=2^n:=Nat.one_le_two_pow;omega
 exact F1 (by decide:2<=2^1)<|G4 ↥_ h1
def ox (n:Nat):big (n+1)=big n*big n:=by unfold big;rw[<-Nat.pow_add];congr 1;rw[Nat.pow_succ];omega
def rK (n:Nat):big n+big n<=big (n+1):=by rw[ox];have h:=zQ n;have:2*big n<=big n*big n:=Nat.mul_le_mul_right _ h;omega
def Db (n:Nat):1000000<=big n:=by
 induction n with|zero=>exact big0|succ n ih=>have:=rK n;omega
def big6 (n:Nat)(h:n<=6):big n<=2^65536:=by unfold big;refine G4 ↥_ ?_;have:2^n<=2^6:=G4 ↥_ h;have:(2:Nat)^6=64:=↥_;omega
def uo {ns:↑Str}(D:Has ns σ)(n:Nat):∀ {w:Xe},n<=6->w.G ns n->(w.val σ).natAbs<big n/\∀ {h:↑Ob}{k:Nat},h[k]?=some (.dic (kz σ)<|vz σ)->Ok (bA n [w.w,.loc k]) h λr h'=>r=.int (w.val σ)/\h'=h:=by
 induction n with
 |zero=>intro w _ p;exact p.elim
 |succ n ih=>
  intro w hn p;have e0:∀k:Nat,bA (n+1) [w.w,.loc k]=bd (dj (bA n) [some w.w,some<|.loc k,none,none]) Mb:=λk=>rfl;have b1:=Db<|n+1;have b2:=rK n;cases w with
  |num i=>
   let(i0,i1):=p;refine(by unfold Xe.val;omega,λ{h k} e=>?_);rw[e0];unfold dj Xe.w Xe.val;simp! only[aa,ix0,ix1,eq_self,decide_true];exact ae (rfl,rfl)
  |box z=>
   let(v,ev,v0,v1):=D.has z p;have vv:Xe.val σ (.box z)=v:=by unfold Xe.val;rw[ev];rfl
   refine(by rw[vv];omega,λ{h k} e=>?_);rw[e0,vv];unfold dj Xe.w;simp! only[aa,ix0,ix1,eq_self,decide_true,E2];refine BF (v:=.int v) e (by rw[xE,ev];rfl) ?_;simp!;exact ae (rfl,rfl)
  |op c a b=>
   let(hc,pa,pb):=p;let(bx,hx):=ih ∅ pa;let(by',hy):=ih ∅ pb;have b6:=big6 n ∅;have cm:KM (a.val σ) (b.val σ):=.inr (FT bx b6,FT by' b6);have mb:(a.val σ*b.val σ).natAbs<big (n+1):=by rw[Int.natAbs_mul,ox];exact Nat.mul_lt_mul'' bx by'
   unfold Xe.w at e0 ⊢;generalize hX:a.val σ=x at*;generalize hY:b.val σ=y at*;generalize a.w=aw at*;generalize b.w=bw at*;rcases hc with rfl|rfl|rfl
   .have vv:Xe.val σ (.op "+" a b)=x+y:=by unfold Xe.val;rw[np rfl,hX,hY]
    refine(by rw[vv];omega,λ{h k} e=>?_);rw[e0,vv];unfold dj;simp! only[aa,ix0,ix1,ix2,EV,EW];refine ap (hx e) λr h1 qq_=>?_;let(er,eh):=qq_;subst er eh;simp! only[aa,ix0,ix1,ix2];refine ap (hy e) λr h2 qq_=>?_;let(er,eh):=qq_;subst er eh;simp! only[aa,ix0,eq_self,decide_true];exact ae (rfl,rfl)
   .have vv:Xe.val σ (.op "-" a b)=x-y:=by unfold Xe.val;rw[gV ⋯,np rfl,hX,hY]
    refine(by rw[vv];omega,λ{h k} e=>?_);rw[e0,vv];unfold dj;simp! only[aa,ix0,ix1,ix2,EY,EZ];refine ap (hx e) λr h1 qq_=>?_;let(er,eh):=qq_;subst er eh;simp! only[aa,ix0,ix1,ix2];refine ap (hy e) λr h2 qq_=>?_;let(er,eh):=qq_;subst er eh;simp! only[aa,ix0,eq_self,decide_true,EX];exact ae (rfl,rfl)
   .have vv:Xe.val σ (.op "*" a b)=x*y:=by unfold Xe.val;rw[gV ⋯,gV ⋯,hX,hY]
    refine(by rw[vv];exact mb,λ{h k} e=>?_);rw[e0,vv];unfold dj;simp! only[aa,ix0,ix1,ix2,ER,ET];refine ap (hx e) λr h1 qq_=>?_;let(er,eh):=qq_;subst er eh;simp! only[aa,ix0,ix1,ix2];refine ap (hy e) λr h2 qq_=>?_;let(er,eh):=qq_;subst er eh;simp! only[aa,ix0,EQ,ES,dF cm];exact ae (rfl,rfl)
def dW {β:Type}{ns:↑Str}{w:Xe}{k:Nat}{c:W->M β}{Q:β->↑Ob->Prop}(D:Has ns σ)(g:w.G ns 6)(e:h[k]?=some (.dic (kz σ)<|vz σ))(q:Ok (c<|.int<|w.val σ) h Q):Ok (bd (bA 6 [w.w,.loc k]) c) h Q:=
 ap ((uo D 6 (Fw _) g).2 e) λr h' (e1,e2)=>by subst e1 e2;exact q
end
section
structure Sta where
 σ:Sto
 taken:Nat
 said:↑Int
noncomputable def Sm.asks:Sm->Bool|.ask _=>true|_=>false
noncomputable def MR (nums:↑Int)(s:Sta)(st:Sm):Bool:=st.asks && decide (s.taken=⇑nums)
noncomputable def doS (nums:↑Int)(s:Sta):Sm->Sta
 |.put z e=>(wr s.σ z<|e.val s.σ%1000000,s.taken,s.said)
 |.say e=>(s.σ,s.taken,s.said++[e.val s.σ])
 |.ask z=>(wr s.σ z<|nums.getD s.taken 0%1000000,s.taken+1,s.said)
def mf (nums:↑Int)(s:Sta)(st:Sm):(doS nums s st).said.length<=⇑s.said+1:=by
 cases st with|put z e=>exact Gj _|ask z=>exact Gj _|say e=>unfold doS;rw[FH];exact Fw _
noncomputable def nsD:↑Str:=["held","numbers","taken","said"]
structure DoAt (h:↑Ob)(d kh kS:Nat)(nums:↑Int)(s:Sta):Prop where
 ob:h[d]?=some (.ins "Doing" nsD [.loc kh,.tl<|nums.map W.int,.int s.taken,.loc kS])
 held:h[kh]?=some (.dic (kz s.σ)<|vz s.σ)
 said:h[kS]?=some (.lst<|s.said.map W.int)
 tk:s.taken<=⇑nums
def DoAt.n1 {d kh kS:Nat}(D:DoAt h d kh kS nums s):d≠kh:=λz=>by have:=D.ob;rw[z,D.held]at this;cases this
def DoAt.n2 {d kh kS:Nat}(D:DoAt h d kh kS nums s):d≠kS:=λz=>by have:=D.ob;rw[z,D.said]at this;cases this
def DoAt.n3 {d kh kS:Nat}(D:DoAt h d kh kS nums s):kh≠kS:=λz=>by have:=D.held;rw[z,D.said]at this;cases this
def DoAt.keep {d kh kS:Nat}(D:DoAt h d kh kS nums s)(f:∀i ,i=d\/i=kh\/i=kS->h'[i]?=h[i]?):DoAt h' d kh kS nums s:=((f _<|.inl rfl).trans D.ob,(f _<|.inr<|.inl rfl).trans D.held,(f _<|.inr<|.inr rfl).trans D.said,D.tk)
structure On3 (d kh kS:Nat)(h h':↑Ob):Prop where
 len:⇑h'=⇑h
 eq:∀i,i≠d->i≠kh->i≠kS->h'[i]?=h[i]?
def On3.refl {d kh kS:Nat}:On3 d kh kS h h:=(rfl,λJ J J J=>rfl)
theorem On3.trans {d kh kS:Nat}(x:On3 d kh kS a b)(y:On3 d kh kS b c):On3 d kh kS a c:=(y.len.trans x.len,λi h1 h2 h3=>(y.eq i h1 h2 h3).trans<|x.eq i h1 h2 h3)
def cT (a b c d:W):M0 nsD [a,b,c,d] "held"=`a:=by unfold nsD;rfl
def jA (a b c d:W):M0 nsD [a,b,c,d] "numbers"=`b:=by unfold nsD;rfl
def jy (a b c d:W):M0 nsD [a,b,c,d] "taken"=`c:=by unfold nsD;rfl
def dU (a b c d:W):M0 nsD [a,b,c,d] "said"=`d:=by unfold nsD;rfl
def u6 (a b c d y:W):putN nsD [a,b,c,d] "taken" y=(nsD ,[a,b,y,d]):=by unfold nsD;rfl
def eX (i j:Int):Ln (.int i) (.int j)=pr (.int<|i+j):=rfl
section
variable {ns:↑Str}{h:↑Ob}{d kh kS:Nat}{nums:↑Int}{s:Sta}{β:Type}{k:W->M β}{Q:β->↑Ob->Prop}
def wG {c:Str}(D:DoAt h d kh kS nums s):Ok (ar [.loc d,.tup (.str c::l)]) h λw h'=>w=.bl (decide (c="ask")&&decide (s.taken=⇑nums))/\h'=h:=by
 have e0:ar [.loc d,.tup (.str c::l)]=bd (aX [some<|.loc d,some<|.tup (.str c::l)]) Mb:=rfl;rw[e0];unfold aX;by_cases hc:c="ask"
 .simp! only[aa,ix0,CF hc];refine aZ D.ob (jy ..) ?_;simp!;refine aZ D.ob (jA ..) ?_;simp! only[aa,Fv];refine ae (?_,rfl);rw[HB];congr 1;by_cases e:s.taken=⇑nums;rw[CF e,CF<|by rw[e]];rw[s0 e,s0 ∅]
 simp! only[aa,ix0,s0 hc,Ho];exact ae (rfl,rfl)
def qT {c:Str}(D:DoAt h d kh kS nums s)(q:Ok (k<|.bl<|decide (c="ask")&&decide (s.taken=⇑nums)) h Q):Ok (bd (ar [.loc d,.tup (.str c::l)]) k) h Q:=
 ap (wG D) λw h' (e1,e2)=>by subst e1 e2;exact q
def EU:decide (("say":Str)="put")=false:=⋯
def E4:decide (("ask":Str)="put")=false:=⋯
def E3:decide (("ask":Str)="say")=false:=⋯
def Dv:decide (("say":Str)="ask")=false:=⋯
def Dw:decide (("put":Str)="ask")=false:=⋯
def Ap {st:Sm}(D:DoAt h d kh kS nums s)(H:Has ns s.σ)(g:st.G ns)(nl:MR nums s st=false)(z:⇑s.said<100000):Ok (az [.loc d,st.w]) h λw h'=>w=.non/\DoAt h' d kh kS nums (doS nums s st)/\Has ns (doS nums s st).σ/\On3 d kh kS h h':=by
 have e0:az [.loc d,st.w]=bd (aY [some<|.loc d,some st.w]) Mb:=rfl;rw[e0];unfold aY;cases st with
 |put y e=>
  let(gy,ge):=g;unfold Sm.w doS;simp! only[aa,ix0,ix1,ix2,eq_self,decide_true];refine aZ D.ob (cT ..) ?_;refine dW H ge D.held ?_;simp! only[aa,ix0,ix1,ix2,cL<|show (0:Int)<1000000 by decide];refine aZ D.ob (cT ..) ?_;simp! only[aa,ix0,ix1,ix2];refine vQ D.held (by unfold kz;rw[Fv];exact F9 H.sz ↥_) (lC ..) ?_;simp!;refine ae (rfl,(?_,aU D.held,?_,D.tk),H.wr gy _,F3 ..,λi J h2 J=>FG<|Ne.symm h2);rw[FG<|Ne.symm D.n1];exact D.ob;rw[FG D.n3];exact D.said
 |say e=>
  unfold Sm.w doS;simp! only[aa,ix0,ix1,ix2,EU,eq_self,decide_true];refine aZ D.ob (dU ..) ?_;refine dQ D.said ?_;simp! only[aa,ix0,ix1,ix2];refine aZ D.ob (cT ..) ?_;simp! only[aa,ix0,ix1,ix2];refine dW H g D.held ?_;simp!;refine ju D.said (by rw[Fv];exact FT z ↥_) ?_;simp!;refine ae (rfl,(?_,?_,?_,D.tk),H,F3 ..,λi J J h3=>FG<|Ne.symm h3);rw[FG<|Ne.symm D.n2];exact D.ob;rw[FG<|Ne.symm D.n3];exact D.held;rw[aU D.said,FF];rfl
 |ask y=>
  have ht:s.taken<⇑nums:=by
   have t:=D.tk;have:¬s.taken=⇑nums:=λq=>by unfold MR Sm.asks at nl;rw[CF q]at nl;cases nl
   omega
  unfold Sm.w doS;simp! only[aa,ix0,ix1,ix2,E4,E3];refine aZ D.ob (jA ..) ?_;simp!;refine aZ D.ob (jy ..) ?_;simp! only[aa,fR<|nG W.int nums 0 (i:=(s.taken:Int)) ∅ ∅,cL (show (0:Int)<1000000 by decide),G0];refine aZ D.ob (cT ..) ?_;simp! only[aa,ix0,ix1,ix2];refine vQ D.held (by unfold kz;rw[Fv];exact F9 H.sz ↥_) (lC ..) ?_;simp! only[OK,aa];have o1:(h.set kh<|.dic (kz<|wr s.σ y<|nums.getD s.taken 0%1000000)<|vz<|wr s.σ y<|nums.getD s.taken 0%1000000)[d]?=some (.ins "Doing" nsD [.loc kh,.tl<|nums.map W.int,.int s.taken,.loc kS]):=by rw[FG<|Ne.symm D.n1];exact D.ob
  refine aZ o1 (jy ..) ?_;simp! only[aa,eX];refine jq o1 (by unfold nsD;decide) (u6 ..) ?_;simp!;refine ae (rfl,(aU o1,?_,?_,ht),H.wr g _,by rw[F3,F3],λi h1 h2 J=>by rw[FG<|Ne.symm h1,FG<|Ne.symm h2]);rw[FG D.n1];exact aU D.held;rw[FG D.n2,FG D.n3];exact D.said
noncomputable def LH (σ:Sto)(c:Str)(a b:Xe):Bool:=if c="<" then decide (a.val σ<b.val σ) else decide (a.val σ=b.val σ)
def wS {c:Str}(D:DoAt h d kh kS nums s)(H:Has ns s.σ)(ga:a.G ns 6)(gb:b.G ns 6):Ok (ba [.loc d,.str c,a.w,b.w]) h λw h'=>w=.bl (LH s.σ c a b)/\h'=h:=by
 have e0:ba [.loc d,.str c,a.w,b.w]=bd (cH [some<|.loc d,some<|.str c,some a.w,some b.w]) Mb:=rfl;rw[e0];unfold cH LH;by_cases hc:c="<";rw[np hc];simp! only[aa,CF hc];refine aZ D.ob (cT ..) ?_;refine dW H ga D.held ?_;refine aZ D.ob (cT ..) ?_;refine dW H gb D.held ?_;simp!;exact ae (rfl,rfl);rw[gV hc];simp! only[aa,s0 hc];refine aZ D.ob (cT ..) ?_;refine dW H ga D.held ?_;refine aZ D.ob (cT ..) ?_;refine dW H gb D.held ?_;simp!;exact ae (rfl,rfl)
def lS {c:Str}(D:DoAt h d kh kS nums s)(H:Has ns s.σ)(ga:a.G ns 6)(gb:b.G ns 6)(q:Ok (k<|.bl<|LH s.σ c a b) h Q):Ok (bd (ba [.loc d,.str c,a.w,b.w]) k) h Q:=
 ap (wS D H ga gb) λw h' (e1,e2)=>by subst e1 e2;exact q
def nP {e:Xe}{m:Int}(D:DoAt h d kh kS nums s)(H:Has ns s.σ)(g:e.G ns 6)(hm:0<m)(q:Ok (k<|.int<|e.val s.σ%m) h Q):Ok (bd (bI [.loc d,e.w,.int m]) k) h Q:=by
 refine ap (P:=λw h'=>w=.int (e.val s.σ%m)/\h'=h) ?_ λw h' (e1,e2)=>by subst e1 e2;exact q
 have e0:bI [.loc d,e.w,.int m]=bd (cw [some<|.loc d,some e.w,some<|.int m]) Mb:=rfl;rw[e0];unfold cw;simp!;refine aZ D.ob (cT ..) ?_;refine dW H g D.held ?_;simp! only[aa,cL hm];exact ae (rfl,rfl)
end
def A8 (ps:↑(Str×Int)):NU prW (ps.map bxW)=some (ps.map λp=>((.inr p.1:Key) ,W.int p.2)):=br (f:=prW) (g:=bxW) (k:=λp=>((.inr p.1:Key) ,W.int p.2)) (λa=>rfl) ps
theorem nF:∀ (ps:↑(Str×Int)) (σ:Sto),dD (kz σ) (vz σ) (ps.map λp=>((.inr p.1:Key) ,W.int p.2))=(kz (ps.foldl (λσ p=>wr σ p.1 p.2) σ) ,vz<|ps.foldl (λσ p=>wr σ p.1 p.2) σ)|[],σ=>rfl|p::ps,σ=>by rw[Fz,GA];unfold dD;rw[lC];exact nF ps _
noncomputable def Pp (ps:↑(Str×Int)):Sta:=(Pr ps,0,[])
def wP (LB:Lw h bx (ps.map bxW))(LN:Lw h nm (nums.map W.int)):Ok (aD [.loc ⇑h,bx,nm]) (h++[.ins "Doing" [] []]) λw h'=>w=.non/\DoAt h' ⇑h (⇑h+1) (⇑h+2) nums (Pp ps)/\⇑h'=⇑h+3/\∀i,i<⇑h->h'[i]?=h[i]?:=by
 have e0:aD [.loc ⇑h,bx,nm]=bd (bM [some<|.loc ⇑h,some bx,some nm]) Mb:=rfl;rw[e0];unfold bM;obtain⟨h0,hh0⟩:∃h0,h0=h++[Ob.ins "Doing" [] []]:=(_,rfl)
 have l0:⇑h0=⇑h+1:=by rw[hh0];simp
 have f0:∀i,i<⇑h->h0[i]?=h[i]?:=λi hi=>by rw[hh0,F2 hi]
 have b0:h0[⇑h]?=some (.ins "Doing" [] []):=by rw[hh0];exact bL
 rw[<-hh0];have LB0:Lw h0 bx (ps.map bxW):=LB.keep f0;have LN0:Lw h0 nm (nums.map W.int):=LN.keep f0;clear hh0;simp! only[OO,aa];refine D5 LB0 (A8 ps) (nF ps []) ?_;rw[l0];have b1:∀x:Ob,(h0++[x])[⇑h]?=some (.ins "Doing" [] []):=λx=>dX b0;simp!;refine jq (b1 _) ↥_ (ns':=["held"]) (ws':=[.loc<|⇑h+1]) rfl ?_;obtain⟨h1,hh1⟩:∃h1,h1=(h0++[Ob.dic (kz<|ps.foldl (λσ p=>wr σ p.1 p.2) [])<|vz<|ps.foldl (λσ p=>wr σ p.1 p.2) []]).set ⇑h (.ins "Doing" ["held"] [.loc<|⇑h+1]):=(_,rfl)
 have l1:⇑h1=⇑h+2:=by rw[hh1,F3,FH,l0];rfl
 have f1:∀i,i<⇑h->h1[i]?=h0[i]?:=λi hi=>by rw[hh1,FG ∅,F2 ∅]
 have c1:h1[⇑h]?=some (.ins "Doing" ["held"] [.loc<|⇑h+1]):=by rw[hh1];exact aU<|b1 _
 have d1:h1[⇑h+1]?=some (.dic (kz<|Pr ps)<|vz<|Pr ps):=by rw[hh1,FG ∅,<-l0];exact bL
 rw[show (h0++[Ob.dic (kz<|ps.foldl (λσ p=>wr σ p.1 p.2) [])<|vz<|ps.foldl (λσ p=>wr σ p.1 p.2) []]).set ⇑h (.ins "Doing" ["held"] [.loc<|⇑h+1])=h1 from hh1.symm];clear hh1;have LN1:Lw h1 nm (nums.map W.int):=by
  rcases LN with rfl|⟨j,rfl,e⟩
  exact .inl rfl;exact .inr (j,rfl,by rw[f1 j<|bm e,f0 j<|bm e];exact e)
 rcases LN with e|⟨j,e,_⟩<;>subst e
 all_goals
  simp! only[OO,aa];refine vU LN1 ?_;simp! only[OO,aa];refine jq c1 ↥_ (ns':=["held","numbers"]) (ws':=[.loc<|⇑h+1,.tl<|nums.map W.int]) rfl ?_;have c2:=aU (b:=Ob.ins "Doing" ["held","numbers"] [.loc<|⇑h+1,.tl<|nums.map W.int]) c1;simp!;refine jq c2 ↥_ (ns':=["held","numbers","taken"]) (ws':=[.loc<|⇑h+1,.tl<|nums.map W.int,.int 0]) rfl ?_;have c3:=aU (b:=Ob.ins "Doing" ["held","numbers","taken"] [.loc<|⇑h+1,.tl<|nums.map W.int,.int 0]) c2;simp!;refine dC ?_;simp!;refine jq (dX c3) ↥_ (ns':=nsD) (ws':=[.loc<|⇑h+1,.tl<|nums.map W.int,.int 0,.loc<|⇑h+2]) (by unfold nsD;rw[F3,F3,l1];rfl) ?_;have l3:⇑((h1.set ⇑h<|.ins "Doing" ["held","numbers"] [.loc<|⇑h+1,.tl<|nums.map W.int]).set ⇑h<|.ins "Doing" ["held","numbers","taken"] [.loc<|⇑h+1,.tl<|nums.map W.int,.int 0])=⇑h+2:=by rw[F3,F3,l1]
  simp!;refine ae (rfl,(aU<|dX c3,?_,?_,FU _),?_,λi hi=>?_);rw[FG ∅,F2 ∅,FG ∅,FG ∅];exact d1;rw[FG ∅,<-l3];exact bL;rw[F3,FH,l3];rfl;rw[FG ∅,F2 ∅,FG ∅,FG ∅,f1 i hi,f0 i hi]
def wJ {β:Type}{k:W->M β}{Q:β->↑Ob->Prop}{l:KU->M ↑W}(e:l ρ=pr [bx,nm])(LB:Lw h bx (ps.map bxW))(LN:Lw h nm (nums.map W.int))(q:∀h' ,DoAt h' ⇑h (⇑h+1) (⇑h+2) nums (Pp ps)->⇑h'=⇑h+3->(∀i ,i<⇑h->h'[i]?=h[i]?)->Ok (k<|.loc ⇑h) h' Q):Ok (bd (Nm "Doing" 3 aD l ρ) k) h Q:=by unfold Nm;rw[e,au];exact yN rfl (wP LB LN) λh' (D,l1,f)=>q h' D l1 f
end
section
structure Bl where
 nm:Str
 sts:↑Sm
 en:En
def Bl.G (ns:↑Str)(m:Nat)(b:Bl):Prop:=⇑b.sts<=8/\(∀s∈b.sts ,s.G ns)/\b.en.G ns m
def BlAt (h:↑Ob)(bl:W)(bs:↑Bl):Prop:=∃ls:↑W,Lw h bl ls/\⇑ls=⇑bs/\∀ (i:Nat) (b:Bl),bs[i]?=`b->∃y,ls[i]?=some (.tup [.str b.nm,y,b.en.w])/\Lw h y (b.sts.map Sm.w)
theorem BlAt.keep {bs:↑Bl}(P:BlAt h x bs)(f:∀i ,i<⇑h->h'[i]?=h[i]?):BlAt h' x bs:=by let(ls,L1,ll,q):=P;refine(ls,L1.keep f,ll,λi b hb=>?_);let(y,e1,L3):=q i b hb;exact(y,e1,L3.keep f)
def PgAt (h:↑Ob)(x:W)(ps:↑(Str×Int))(bs:↑Bl):Prop:=∃ (bx bl:W) (ls:↑W),x=.tup [bx,bl]/\Lw h bx (ps.map bxW)/\Lw h bl ls/\⇑ls=⇑bs/\∀ (i:Nat) (b:Bl),bs[i]?=`b->∃y,ls[i]?=some (.tup [.str b.nm,y,b.en.w])/\Lw h y (b.sts.map Sm.w)
theorem PgAt.keep {bs:↑Bl}(P:PgAt h x ps bs)(f:∀i ,i<⇑h->h'[i]?=h[i]?):PgAt h' x ps bs:=by let(bx,bl,ls,e,L1,L2,ll,q):=P;refine(bx,bl,ls,e,L1.keep f,L2.keep f,ll,λi b hb=>?_);let(y,e1,L3):=q i b hb;exact(y,e1,L3.keep f)
theorem PgAt.bl {bs:↑Bl}(P:PgAt h x ps bs):∃bx bl,x=.tup [bx,bl]/\Lw h bx (ps.map bxW)/\BlAt h bl bs:=by let(bx,bl,ls,e,L1,L2,ll,q):=P;exact(bx,bl,e,L1,ls,L2,ll,q)
structure PgG (ps:↑(Str×Int))(bs:↑Bl):Prop where
 bx:Bx ps
 bv:∀p∈ps,0<=p.2/\p.2<1000
 l1:1<=⇑bs
 l2:⇑bs<=10
 g:∀b∈bs,b.G (ps.map (·.1)) ⇑bs
end
section
noncomputable def doL (nums:↑Int):Sta->↑Sm->Sta×Bool
 |s,[]=>(s ,true)
 |s,st::r=>if MR nums s st=true then (s ,false) else doL nums (doS nums s st) r
noncomputable def side (σ:Sto):En->Nat|.iff c a b _ _=>if LH σ c a b=true then 0 else 1|.tab e ts=>(e.val σ%⇑ts).toNat|_=>0
noncomputable def O9:En->↑Nat
 |.go t=>[t]
 |.iff _ _ _ x y=>[x,y]
 |.tab _ ts=>ts
 |.stop=>[]
noncomputable def to (σ:Sto)(e:En):Nat:=(O9 e).getD (side σ e) 0
structure OutB where
 said:↑Int
 en:Str
 went:↑(Nat×Nat×Nat)
abbrev Way:=Nat×Nat×Nat
noncomputable def PR (w:Way):↑Key:=[.inl w.1,.inl w.2.1,.inl w.2.2]
noncomputable def PU (w:Way):W:=.kt<|PR w
def ktN (a b c:Nat):ktW [nI a,nI b,nI c]=pr (PU (a ,b,c)):=by show gd (⇑([nI a,nI b,nI c]:↑W)<=sizeLine) (pr<|W.kt<|PR (a ,b,c))=_;exact ag (by show (3:Nat)<=sizeLine;decide)
noncomputable def En.stops:En->Bool|.stop=>true|_=>false
noncomputable def OA (nums:↑Int)(bs:↑Bl):Nat->Nat->Sta->OutB
 |0,_,s=>(s.said,"on",[])
 |n+1,p,s=>match bs[p]? with
  |none=>(s.said,"",[])
  |some b=>
   if (doL nums s b.sts).2=false then((doL nums s b.sts).1.said,"out",[])
   else if b.en.stops=true then((doL nums s b.sts).1.said,"stop",[])
   else((OA nums bs n (to (doL nums s b.sts).1.σ b.en) (doL nums s b.sts).1).said,(OA nums bs n (to (doL nums s b.sts).1.σ b.en) (doL nums s b.sts).1).en,(p ,side (doL nums s b.sts).1.σ b.en,to (doL nums s b.sts).1.σ b.en)::(OA nums bs n (to (doL nums s b.sts).1.σ b.en) (doL nums s b.sts).1).went)
theorem rp (nums:↑Int):∀ (l:↑Sm) (s:Sta),(doL nums s l).1.said.length<=⇑s.said+⇑l
 |[],s=>Fw _
 |st::r,s=>by
  unfold doL;split;exact F7 _ _;have:=rp nums r<|doS nums s st;have:=mf nums s st;rw[FA];omega
section
variable {ns:↑Str}
def EN:decide (("go":Str)="if")=false:=⋯
def C8:decide (("go":Str)="table")=false:=⋯
def Ft:decide (("go":Str)="stop")=false:=⋯
def Fs:decide (("if":Str)="go")=false:=⋯
def Fp:decide (("if":Str)="stop")=false:=⋯
def EM:decide (("if":Str)="table")=false:=⋯
def Fo:decide (("table":Str)="go")=false:=⋯
def EL:decide (("table":Str)="if")=false:=⋯
def Fm:decide (("table":Str)="stop")=false:=⋯
def ir {m:Nat}(σ:Sto)(g:e.G ns m)(n:e.stops=false):side σ e<⇑(O9 e):=by
 cases e with
 |stop=>cases n
 |go t=>exact Nat.zero_lt_one
 |iff c a b x y=>show (if LH σ c a b=true then 0 else 1)<2;split<;>decide
 |tab e ts=>
  let(_,l1,_,_):=g;have q1:0<=e.val σ%(⇑ts:Int):=GR _ ∅;have q2:e.val σ%(⇑ts:Int)<⇑ts:=G3 _ ∅;show (e.val σ%⇑ts).toNat<⇑ts;omega
def uG {m:Nat}(g:e.G ns m):∀t∈O9 e,t<m:=by
 cases e with
 |stop=>intro t ht;cases ht
 |go t=>intro u hu;rw[FR.mp hu];exact g
 |iff c a b x y=>
  intro u hu;let(_,_,_,gx,gy):=g;rcases FC.mp hu with rfl|hu
  exact gx;rw[FR.mp hu];exact gy
 |tab e ts=>exact g.2.2.2
def uw {m:Nat}(σ:Sto)(g:e.G ns m)(n:e.stops=false):to σ e<m:=by have h:=ir σ g n;unfold to;rw[GP,FS h,Hc];exact uG g _<|HA _
def xj {m:Nat}{e:En}(g:e.G ns m):∃c l,e.w=.tup (.str c::l)/\decide (c="stop")=e.stops:=by
 cases e with|stop=>exact(_,_,rfl,CF rfl)|go t=>exact(_,_,rfl,Ft)|iff c a b x y=>exact(_,_,rfl,Fp)|tab e ts=>exact(_,_,rfl,Fm)
end
end
section
def uC {ns:↑Str}{st:Sm}(g:st.G ns):∃c l,st.w=.tup (.str c::l)/\decide (c="ask")=st.asks:=by
 cases st with|put y e=>exact(_,_,rfl,Dw)|say e=>exact(_,_,rfl,Dv)|ask y=>exact(_,_,rfl,CF rfl)
noncomputable def bD:KU->M Fl:=(OY (sIf (mB<|Nn "Doing" "lacks_number" 2 ar (Ny 0)<|Ni (Ny 2) Nq) (OW<|mC<|.bl false) OV)<|sEx<|Nn "Doing" "do_statement" 2 az (Ny 0)<|Ni (Ny 2) Nq)
def fF:ci=(OY (OP (Nu (Ny 1) Pm) (tgN 2) bD)<|OW<|mC<|.bl true):=rfl
section
variable {ns:↑Str}{d kh kS:Nat}{nums:↑Int}
theorem rn {G:↑Ob->Prop}{h0:↑Ob}(hG:∀h ,(∀i ,i<⇑h0->h[i]?=h0[i]?)->G h)(hd:⇑h0<=d/\⇑h0<=kh/\⇑h0<=kS):∀ (l:↑Sm) (s:Sta) (h:↑Ob) (a:Option W),(∀st∈l ,st.G ns)->DoAt h d kh kS nums s->Has ns s.σ->⇑s.said+⇑l<=100000->(∀i ,i<⇑h0->h[i]?=h0[i]?)->Ok (L2.forM G (tgN 2) bD (l.map Sm.w) [some<|.loc d,some x,a]) h λr h'=>DoAt h' d kh kS nums (doL nums s l).1/\Has ns (doL nums s l).1.σ/\On3 d kh kS h h'/\(((doL nums s l).2=true/\∃a' ,r=.nx [some<|.loc d,some x,a'])\/((doL nums s l).2=false/\r=.rt (.bl false)))
 |[],s,h,a,_,D,H,_,f=>by refine(.nx [some<|.loc d,some x,a],h,?_,D,H,On3.refl,.inl (rfl,a,rfl));show L2.forM G (tgN 2) bD [] _ h=_;unfold L2.forM;rw[cU<|hG h f];rfl
 |st::l,s,h,a,g,D,H,z,f=>by
  have gst:=g st FQ;let(c,m,ew,ha):=uC gst;have step:Ok (bD [some<|.loc d,some x,some st.w]) h λr h'=>(MR nums s st=true/\r=.rt (.bl false)/\h'=h)\/(MR nums s st=false/\r=.nx [some<|.loc d,some x,some st.w]/\DoAt h' d kh kS nums (doS nums s st)/\Has ns (doS nums s st).σ/\On3 d kh kS h h'):=by
   rw[ew];simp! only[bD,Nn,aa];refine dR D.ob (by unfold nsD;decide+kernel) ?_;simp!;refine qT D ?_;cases hl:MR nums s st with
   |true=>
    have hl':(decide (c="ask")&&decide (s.taken=⇑nums))=true:=by rw[ha];exact hl
    simp! only[aa,hl'];exact ae<|.inl (by first|rfl|trivial,rfl,rfl)
   |false=>
    have hl':(decide (c="ask")&&decide (s.taken=⇑nums))=false:=by rw[ha];exact hl
    simp! only[aa,hl'];refine dR D.ob (by unfold nsD;decide+kernel) ?_;simp!;rw[<-ew];refine ap (Ap D H gst hl<|by rw[FA]at z;omega) λw h1 qq_=>?_;let(ew1,D1,H1,O1):=qq_;subst ew1;simp!;exact ae<|.inr (by first|rfl|trivial,rfl,D1,H1,O1)
  let(r,h1,e1,q):=step
  have fe:L2.forM G (tgN 2) bD ((st::l).map Sm.w) [some<|.loc d,some x,a] h=(match bD [some<|.loc d,some x,some st.w] h with
   |.ok (.nx r) h'=>L2.forM G (tgN 2) bD (l.map Sm.w) r h'
   |.ok (.ct r) h'=>L2.forM G (tgN 2) bD (l.map Sm.w) r h'
   |.ok (.bk r) h'=>.ok (.nx r) h'
   |.ok (.rt w) h'=>.ok (.rt w) h'
   |.ex c h'=>.ex c h'
   |.bad=>.bad):=by
   rw[Fz]
   conv=>lhs;unfold L2.forM
   rw[cU<|hG h f];show (bd (bD [some<|.loc d,some x,some st.w]) _) h=_;unfold bd;cases bD [some<|.loc d,some x,some st.w] h with|ok a h'=>cases a<;>rfl|ex c h'=>rfl|bad=>rfl
  rcases q with⟨hl,rfl,rfl⟩|⟨hl,rfl,D1,H1,O1⟩
  .have ed:doL nums s (st::l)=(s ,false):=by unfold doL;rw[np hl]
   rw[ed];refine(.rt<|.bl false,_,?_,D,H,On3.refl,.inr (rfl,rfl));rw[fe,e1]
  .have ed:doL nums s (st::l)=doL nums (doS nums s st) l:=by
    conv=>lhs;unfold doL
    rw[hl,gV FP]
   rw[ed];have f1:∀i,i<⇑h0->h1[i]?=h0[i]?:=λi hi=>(O1.eq i ∅ ∅ ∅).trans<|f i hi;let(r2,h2,e2,D2,H2,O2,q2):=rn hG hd l (doS nums s st) h1 (some st.w) (λy hy=>g y<|FX _ hy) D1 H1 (by have:=mf nums s st;rw[FA]at z;omega) f1;refine(r2,h2,?_,D2,H2,O1.trans O2,q2);rw[fe,e1];exact e2
def C0 {h h0:↑Ob}(L:Lw h0 y (l.map Sm.w))(f:∀i ,i<⇑h0->h[i]?=h0[i]?)(hd:⇑h0<=d/\⇑h0<=kh/\⇑h0<=kS)(g:∀st∈l ,st.G ns)(D:DoAt h d kh kS nums s)(H:Has ns s.σ)(z:⇑s.said+⇑l<=100000):Ok (bq [.loc d,y]) h λr h'=>r=.bl (doL nums s l).2/\DoAt h' d kh kS nums (doL nums s l).1/\Has ns (doL nums s l).1.σ/\On3 d kh kS h h':=by
 have e0:bq [.loc d,y]=bd (ci [some<|.loc d,some y,none]) Mb:=rfl;rw[e0,fF];simp! only[OP,aa];refine (L.keep f).src λG hG=>?_;refine ap (rn (h0:=h0) (λh' f'=>hG h'<|L.keep f') hd l s h none g D H z f) λr h' qq_=>?_;let(D1,H1,O1,q):=qq_;rcases q with⟨q,a,rfl⟩|⟨q,rfl⟩
 simp!;exact ae (by rw[q],D1,H1,O1);simp!;exact ae (by rw[q],D1,H1,O1)
def mM {m:Nat}(g:e.G ns m)(n:e.stops=false):bH [e.w]=pr (.tup<|(O9 e).map nI):=by
 have e0:bH [e.w]=bd (cC [some e.w]) Mb:=rfl;rw[e0];unfold cC;cases e with
 |stop=>cases n
 |go t=>
  unfold En.w O9;simp! only[aa,ix0,ix1,eq_self,decide_true,PF];rfl
 |iff s a b x y=>
  unfold En.w O9;simp! only[aa,ix0,ix1,ix4,ix5,eq_self,decide_true,Fs,PF];rfl
 |tab e ts=>
  unfold En.w O9;simp! only[aa,ix0,ix1,ix2,eq_self,decide_true,Fo,EL]
def CJ {β:Type}{m:Nat}{k:W->M β}{Q:β->↑Ob->Prop}(D:DoAt h d kh kS nums s)(H:Has ns s.σ)(g:e.G ns m)(n:e.stops=false)(q:Ok (k<|nI<|side s.σ e) h Q):Ok (bd (cx [.loc d,e.w]) k) h Q:=by
 refine ap (P:=λw h'=>w=nI (side s.σ e)/\h'=h) ?_ λw h' (e1,e2)=>by subst e1 e2;exact q
 have e0:cx [.loc d,e.w]=bd (cV [some<|.loc d,some e.w]) Mb:=rfl;rw[e0];unfold cV;cases e with
 |stop=>cases n
 |go t=>
  unfold En.w side;simp! only[aa,ix0,ix1,EN,C8];exact ae (rfl,rfl)
 |iff c a b x y=>
  let(_,ga,gb,_):=g;unfold En.w side;simp! only[Nn,aa,ix0,ix1,ix2,ix3,eq_self,decide_true];refine dR D.ob (by unfold nsD;decide+kernel) ?_;simp! only[aa,ix0,ix1,ix2,ix3];refine lS D H ga gb ?_;cases hq:LH s.σ c a b<;>(simp!)<;>exact ae (rfl,rfl)
 |tab e ts=>
  let(ge,l1,_,_):=g;have em:e.val s.σ%(⇑ts:Int)=(((e.val s.σ%(⇑ts:Int)).toNat:Nat):Int):=(Int.toNat_of_nonneg<|GR _ ∅).symm;unfold En.w side;simp! only[Nn,aa,ix0,ix1,ix2,eq_self,decide_true,EL];refine dR D.ob (by unfold nsD;decide+kernel) ?_;simp! only[aa,ix0,ix1,ix2,Fv];refine nP D H ge ∅ ?_;simp!;exact ae (by rw[em];rfl,rfl)
end
noncomputable def tB:KU->M Bool:=(mB<|m2 ltW (Ng MY<|Ni (Ny 4) Nq)<|Ny 2)
noncomputable def bB:KU->M Fl:=(OY (OZ 6<|m2 ixW (m2 ixW (Ny 0) ⇑1)<|Ny 5)<|OY (sIf (Nr<|mB<|Ng (arW 2 bq)<|Ni (Ny 3)<|Ni (m2 ixW (Ny 6) ⇑1) Nq) (OW<|Nx<|Ni (m1 (Md "Doing" "said")<|Ny 3)<|Ni (Nx<|Ni ⇑"out" Nq)<|Ni (Ny 4) Nq) OV)<|OY (OZ 7<|m2 ixW (Ny 6) ⇑2)<|OY (sIf (mB<|m2 eqW (m2 ixW (Ny 7) ⇑0) ⇑"stop") (OW<|Nx<|Ni (m1 (Md "Doing" "said")<|Ny 3)<|Ni (Nx<|Ni ⇑"stop" Nq)<|Ni (Ny 4) Nq) OV)<|OY (OZ 8<|Ng (arW 2 cx)<|Ni (Ny 3)<|Ni (Ny 7) Nq)<|OY (OZ 9<|m2 ixW (Ng (arW 1 bH)<|Ni (Ny 7) Nq)<|Ny 8)<|OY (sEx<|No isL cA (Ny 4)<|Ni (mKt<|Ni (Ny 5)<|Ni (Ny 8)<|Ni (Ny 9) Nq) Nq)<|OZ 5<|Ny 9)
def sG:q9=(OY (OZ 3<|Nm "Doing" 3 aD<|Ni (m2 ixW (Ny 0) ⇑0)<|Ni (Ny 1) Nq)<|OY (OZ 4<|Np<|MX Nq)<|OY (OZ 5 ⇑0)<|OY (bh tB bB 62)<|OW<|Nx<|Ni (m1 (Md "Doing" "said")<|Ny 3)<|Ni (Nx<|Ni ⇑"on" Nq)<|Ni (Ny 4) Nq):=rfl
noncomputable def L7 (x nm:W)(bound:Int)(d kw:Nat)(place:Nat)(a6 a7 a8 a9:Option W):KU:=[some x,`nm,some<|.int bound,some<|.loc d,some<|.loc kw,some<|nI place,a6,a7,a8,a9]
section
variable {d kh kS kw:Nat}{nums:↑Int}{ps:↑(Str×Int)}{bs:↑Bl}{x nm:W}{bound:Int}{h0:↑Ob}
theorem nM (PG:PgG ps bs)(PA:PgAt h0 x ps bs)(d0:⇑h0<=d)(d1:⇑h0<=kh)(d2:⇑h0<=kS)(d3:⇑h0<=kw)(w1:kw≠d)(w2:kw≠kh)(w3:kw≠kS):∀ (n m:Nat) (p:Nat) (s:Sta) (went:↑(Nat×Nat×Nat)) (h:↑Ob) (a6 a7 a8 a9:Option W),n<m->(⇑went:Int)+n=bound->DoAt h d kh kS nums s->Has (ps.map (·.1)) s.σ->p<⇑bs->⇑s.said+8*n<=100000->⇑went+n<=10000->h[kw]?=some (.lst<|went.map PU)->(∀i ,i<⇑h0->h[i]?=h0[i]?)->Ok (bh tB bB m<|L7 x nm bound d kw p a6 a7 a8 a9) h λr h'=>(∀i ,i<⇑h0->h'[i]?=h0[i]?)/\h'[kS]?=some (.lst<|(OA nums bs n p s).said.map W.int)/\h'[kw]?=some (.lst<|(went++(OA nums bs n p s).went).map PU)/\(r=.rt (.tup [.loc kS,.tup [.str (OA nums bs n p s).en],.loc kw])\/ ∃ (p':Nat) (s':Sta) (b6 b7 b8 b9:Option W) ,r=.nx (L7 x nm bound d kw p' b6 b7 b8 b9)/\(OA nums bs n p s).en="on"/\DoAt h' d kh kS nums s')
 |0,m+1,p,s,went,h,a6,a7,a8,a9,hm,hb,D,H,hp,hz,hw,ew,f=>by
  refine Dk ?_ (f,D.said,by show _=some (Ob.lst<|(went++[]).map PU);rw[F5];exact ew,.inr (p,s,a6,a7,a8,a9,rfl,rfl,D));obtain⟨N,hN⟩:∃N:Int,N=(⇑(went.map PU):Int):=(_,rfl)
  have hN':N=(⇑went:Int):=by rw[hN,Fv]
  have hc:¬N<bound:=∅;have LW:Lw h (.loc kw) (went.map PU):=.inr (kw,rfl,ew);simp! only[tB,L7,aa];refine LW.len_eq hN ?_;simp! only[aa,s0 hc];exact ae (rfl,rfl)
 |n+1,m+1,p,s,went,h,a6,a7,a8,a9,hm,hb,D,H,hp,hz,hw,ew,f=>by
  refine Dj ?_ ?_
  .obtain⟨N,hN⟩:∃N:Int,N=(⇑(went.map PU):Int):=(_,rfl)
   have hN':N=(⇑went:Int):=by rw[hN,Fv]
   have hc:N<bound:=∅;have LW:Lw h (.loc kw) (went.map PU):=.inr (kw,rfl,ew);simp! only[tB,L7,aa];refine LW.len_eq hN ?_;simp! only[aa,CF hc];exact ae (rfl,rfl)
  obtain⟨b,eb⟩:∃b,bs[p]?=`b:=(_,FS hp)
  let(g1,g2,g3):=PG.g b<|FK eb;let(bx,bl,ls,ex,LB,LL,ll,q):=PA;let(y,ey,LY):=q p b eb;let(c,l,ec,hc):=xj g3;have PA':PgAt h0 x ps bs:=(bx,bl,ls,ex,LB,LL,ll,q)
  have x1:ixW x (.int 1)=pr bl:=by rw[ex];exact ix1 _ _ _
  simp! only[bB,L7,aa,x1];refine (LL.keep f).ix (dB ey) ?_;simp! only[aa,ix1];refine ap (C0 LY f (d0,d1,d2) g2 D H ∅) λr h1 qq_=>?_;let(er,D1,H1,O1):=qq_;subst er;have f1:∀i,i<⇑h0->h1[i]?=h0[i]?:=λi hi=>(O1.eq i ∅ ∅ ∅).trans<|f i hi;have ew1:h1[kw]?=some (.lst<|went.map PU):=(O1.eq kw w1 w2 w3).trans ew;cases hd:(doL nums s b.sts).2 with
  |false=>
   have er:OA nums bs (n+1) p s=((doL nums s b.sts).1.said,"out",[]):=by
    conv=>lhs;unfold OA
    rw[eb];dsimp only;rw[np hd]
   rw[er];simp!;refine aZ D1.ob (dU ..) ?_;simp! only[aa,PF];exact ae<|.inr (_,rfl,f1,D1.said,by rw[F5];exact ew1,.inl rfl)
  |true=>
   simp! only[aa,ix2];cases hs:b.en.stops with
   |true=>
    have er:OA nums bs (n+1) p s=((doL nums s b.sts).1.said,"stop",[]):=by
     conv=>lhs;unfold OA
     rw[eb];dsimp only;rw[hd,gV ⇑_,hs,np rfl]
    rw[er];rw[hs]at hc;simp! only[aa,ec,ix0,hc];refine aZ D1.ob (dU ..) ?_;simp! only[aa,PF];exact ae<|.inr (_,rfl,f1,D1.said,by rw[F5];exact ew1,.inl rfl)
   |false=>
    have er:OA nums bs (n+1) p s=((OA nums bs n (to (doL nums s b.sts).1.σ b.en) (doL nums s b.sts).1).said,(OA nums bs n (to (doL nums s b.sts).1.σ b.en) (doL nums s b.sts).1).en,(p ,side (doL nums s b.sts).1.σ b.en,to (doL nums s b.sts).1.σ b.en)::(OA nums bs n (to (doL nums s b.sts).1.σ b.en) (doL nums s b.sts).1).went):=by
     conv=>lhs;unfold OA
     rw[eb];dsimp only;rw[hd,gV ⇑_,hs,gV ⇑_]
    rw[er];rw[hs]at hc;have sd:=ir (doL nums s b.sts).1.σ g3 hs;have tl:=uw (doL nums s b.sts).1.σ g3 hs;have dl:=rp nums b.sts s;have at0:atI ((O9 b.en).map nI) ((side (doL nums s b.sts).1.σ b.en:Nat):Int)=some (nI<|to (doL nums s b.sts).1.σ b.en):=by refine dB ?_;unfold to;rw[FB,GP,FS sd,Hc];rfl
    have e1:ixW (.tup<|(O9 b.en).map nI) (nI<|side (doL nums s b.sts).1.σ b.en)=pr (nI<|to (doL nums s b.sts).1.σ b.en):=cE at0;rw[ec];simp! only[aa,ix0,hc];rw[<-ec];refine CJ D1 H1 g3 hs ?_;simp! only[aa,mM g3 hs,e1];refine dQ ew1 ?_;simp! only[mKt,aa,ktN];refine ju ew1 (by rw[Fv];exact F9 (show ⇑went<=10000 by omega) ↥_) ?_;simp!;have D2:DoAt (h1.set kw<|.lst<|went.map PU++[PU (p ,side (doL nums s b.sts).1.σ b.en,to (doL nums s b.sts).1.σ b.en)]) d kh kS nums (doL nums s b.sts).1:=D1.keep λi hi=>by
     rw[FG];rcases hi with rfl|rfl|rfl
     exact w1;exact w2;exact w3
    have ih:=nM PG PA' d0 d1 d2 d3 w1 w2 w3 n m (to (doL nums s b.sts).1.σ b.en) (doL nums s b.sts).1 (went++[(p ,side (doL nums s b.sts).1.σ b.en,to (doL nums s b.sts).1.σ b.en)]) (h1.set kw<|.lst<|went.map PU++[PU (p ,side (doL nums s b.sts).1.σ b.en,to (doL nums s b.sts).1.σ b.en)]) (some<|.tup [.str b.nm,y,b.en.w]) (some b.en.w) (some<|nI<|side (doL nums s b.sts).1.σ b.en) (some<|nI<|to (doL nums s b.sts).1.σ b.en) ∅ (by rw[FH];show ((⇑went+1:Nat):Int)+n=bound;omega) D2 H1 tl ∅ (by rw[FH];show ⇑went+1+n<=10000;omega) (by rw[aU ew1,FF];rfl) λi hi=>by rw[FG ∅];exact f1 i hi
    refine ae<|.inl (_,rfl,Ok.imp ih λr h' (q1,q2,q3,q4)=>(q1,q2,by rw[FZ]at q3;exact q3,q4))
def uQ {bound:Nat}(PG:PgG ps bs)(PA:PgAt h x ps bs)(LN:Lw h nm (nums.map W.int))(hb:bound<62):Ok (kQ [x,nm,nI bound]) h λw h'=>(∀i ,i<⇑h->h'[i]?=h[i]?)/\∃k k',⇑h<=k/\⇑h<=k'/\k≠k'/\w=.tup [.loc k,.tup [.str (OA nums bs bound 0<|Pp ps).en],.loc k']/\h'[k]?=some (.lst<|(OA nums bs bound 0<|Pp ps).said.map W.int)/\h'[k']?=some (.lst<|(OA nums bs bound 0<|Pp ps).went.map PU):=by
 have e0:kQ [x,nm,nI bound]=bd (q9 [some x,`nm,some<|nI bound,none,none,none,none,none,none,none]) Mb:=rfl;rw[e0,sG];let(bx,bl,ls,ex,LB,LL,ll,q):=PA;have PA':PgAt h x ps bs:=(bx,bl,ls,ex,LB,LL,ll,q)
 simp!;refine wJ (bx:=bx) (by rw[ex];simp! only[aa,ix0]) LB LN λh1 D l1 f1=>?_;simp!;refine dC ?_;simp!;rw[l1];have D':DoAt (h1++[Ob.lst []]) ⇑h (⇑h+1) (⇑h+2) nums (Pp ps):=D.keep λi hi=>F2 ∅;have lp:=nM (nm:=nm) (bound:=(bound:Int)) (kw:=⇑h+3) PG PA' (Fw _) (Gj _) (F7 _ _) (F7 _ _) ∅ ∅ ∅ bound 62 0 (Pp ps) [] (h1++[Ob.lst []]) none none none none hb (by show (((⇑([]:↑(Nat×Nat×Nat)):Nat):Int))+bound=bound;simp) D' (Has.first PG.bx.len PG.bv) PG.l1 (by show 0+8*bound<=100000;omega) (by show 0+bound<=10000;omega) (by rw[<-l1];exact bL) λi hi=>by rw[F2 ∅];exact f1 i hi
 refine ap lp λr h2 qq_=>?_;let(q1,q2,q3,q4):=qq_;rcases q4 with rfl|⟨p',s',b6,b7,b8,b9,rfl,q5,q6⟩
 simp!;exact ae (q1,_,_,F7 _ _,F7 _ _,∅,rfl,q2,q3);simp! only[L7,aa];refine aZ q6.ob (dU ..) ?_;simp! only[aa,PF];exact ae (q1,_,_,F7 _ _,F7 _ _,∅,by rw[q5],q2,q3)
end
end
section
structure Nw (h h':↑Ob):Prop where
 le:⇑h<=⇑h'
 eq:∀i,i<⇑h->h'[i]?=h[i]?
theorem Nw.trans (x:Nw a b)(y:Nw b c):Nw a c:=(F1 x.le y.le,λi hi=>(y.eq i<|FT hi x.le).trans<|x.eq i hi)
def Nw.get {j:Nat}(x:Nw h h')(e:h[j]?=`b):h'[j]?=`b:=(x.eq j<|bm e).trans e
structure Nd (h h':↑Ob)(j:Nat)(b:Ob):Prop where
 nw:Nw h h'
 ge:⇑h<=j
 new:h'[j]?=`b
def Nd.put {j:Nat}(N:Nd h h' j b)(c:Ob):Nd h (h'.set j c) j c:=
 ((by rw[F3];exact N.nw.le,λi hi=>by rw[FG (by have:=N.ge;omega)];exact N.nw.eq i hi),N.ge,aU N.new)
def Nd.more {h h' h2:↑Ob}{j:Nat}(N:Nd h h' j b)(K:Nw h' h2):Nd h h2 j b:=(N.nw.trans K,N.ge,K.get N.new)
def Nd.mk0 :Nd h (h++[b]) ⇑h b:=((⇑_,λi hi=>by rw[F2 hi]),Fw _,bL)
noncomputable def cp (k:Nat)(ts:↑Nat):↑Way:=ts.zipIdx.map λp=>(k ,p.2,p.1)
noncomputable def PV (es:↑En):↑Way:=es.zipIdx.flatMap λp=>cp p.2<|O9 p.1
noncomputable def wyB (bs:↑Bl):↑Way:=PV<|bs.map Bl.en
def fK (k:Nat)(ts:↑Nat)(t:Nat):cp k (ts++[t])=cp k ts++[(k ,⇑ts,t)]:=by unfold cp;rw[IS,FF];simp
def gK (k:Nat)(ts:↑Nat):⇑(cp k ts)=⇑ts:=by unfold cp;simp
def eZ (es:↑En)(e:En):PV (es++[e])=PV es++cp ⇑es (O9 e):=by unfold PV;rw[IS,IA];simp
def Pa {k:Nat}{w:Way}:w∈cp k ts↔w.1=k/\ts[w.2.1]?=some w.2.2:=by
 unfold cp;rw[FY];constructor
 .rintro⟨⟨t,i⟩,h,rfl⟩
  rw[HR]at h;exact(rfl,h)
 .rintro⟨rfl,h⟩
  exact((w.2.2 ,w.2.1),by rw[HR];exact h,rfl)
def PX {w:Way}:w∈PV es↔ ∃e,es[w.1]?=`e/\(O9 e)[w.2.1]?=some w.2.2:=by
 unfold PV;rw[List.mem_flatMap];constructor
 .rintro⟨⟨e,i⟩,h,hw⟩
  rw[HR]at h;let(rfl,h2):=Pa.mp hw;exact(e,h,h2)
 .rintro⟨e,h,h2⟩
  exact((e ,w.1),by rw[HR];exact h,Pa.mpr (rfl,h2))
def ao {α:Type}{l:↑α}{i:Nat}{x:α}(h:l[i]?=`x):l.take (i+1)=l.take i++[x]:=by rw[List.take_succ,h];rfl
def dg {α:Type}{l:↑α}{i:Nat}{x:α}(h:l[i]?=`x):⇑(l.take i)=i:=by have:=(FD.mp h).1;rw[Gm];omega
def yU {α:Type}{l:↑α}{x:α}(h:l.Nodup)(n:x ∉l):(l++[x]).Nodup:=by rw[Hk];exact(h,⇑_,λa ha b hb e=>n<|by rw[FR.mp hb]at e;rw[<-e];exact ha)
theorem mL (k:Nat)(ts:↑Nat):∀n,n<=⇑ts->(cp k<|ts.take n).Nodup
 |0,_=>by rw[GO];exact Ha
 |n+1,h=>by
  obtain⟨t,ht⟩:∃t,ts[n]?=`t:=(_,FS ∅)
  rw[ao ht,fK,dg ht];refine yU (mL k ts n ∅) λm=>?_;have:=(FD.mp (Pa.mp m).2).1;rw[dg ht]at this;exact GF _ this
theorem p7 (es:↑En):∀n,n<=⇑es->(PV<|es.take n).Nodup
 |0,_=>by rw[GO];exact Ha
 |n+1,h=>by
  obtain⟨e,he⟩:∃e,es[n]?=`e:=(_,FS ∅)
  rw[ao he,eZ,dg he,Hk];refine(p7 es n ∅,by have:=mL n (O9 e) ⇑(O9 e)<|Fw _;rw[FW]at this;exact this,λa ha b hb eq=>?_);subst eq;let(e',h1,_):=PX.mp ha;have l1:=(FD.mp h1).1;rw[dg he,(Pa.mp hb).1]at l1;exact GF _ l1
def zY (bs:↑Bl):(wyB bs).Nodup:=by have:=p7 (bs.map Bl.en) ⇑(bs.map Bl.en)<|Fw _;rw[FW]at this;exact this
def lm {ns:↑Str}{m:Nat}(g:e.G ns m):⇑(O9 e)<=6:=by
 cases e with|stop=>exact FU _|go t=>show 1<=6;decide|iff c a b x y=>show 2<=6;decide|tab e ts=>exact g.2.2.1
theorem fS (es:↑En)(h:∀e∈es ,⇑(O9 e)<=6):∀n,n<=⇑es->⇑(PV<|es.take n)<=6*n|0,_=>by rw[GO];exact Fw _|n+1,hn=>by have ih:=fS es h n ∅;have e1:es[n]?=some es[n]:=FS ∅;have h6:=h _<|FK e1;rw[ao e1,eZ,FH,gK];omega
section
variable {ps:↑(Str×Int)}{bs:↑Bl}
def um (G:PgG ps bs):⇑(wyB bs)<=60:=by
 have:=fS (bs.map Bl.en) (λe he=>by
  let(b,hb,rfl):=FY.mp he
  exact lm (G.g b hb).2.2) ⇑(bs.map Bl.en)<|Fw _
 rw[FW,Fv]at this;have:=G.l2;show ⇑(PV<|bs.map Bl.en)<=60;omega
set_option tactic.hygienic true in
theorem iM (G:PgG ps bs):∀ (n p:Nat) (s:Sta),∀w∈(OA nums bs n p s).went,w∈wyB bs
 |0,p,s=>λw h=>absurd h FV
 |n+1,p,s=>by
  unfold OA;split;exact λw h=>absurd h FV
  .rename_i b hb;have g:=(G.g b<|FK hb).2.2;split;exact λw h=>absurd h FV
   .split;exact λw h=>absurd h FV
    .rename_i _ hs;intro w hw;rcases FC.mp hw with rfl|hw
     refine PX.mpr (b.en,by rw[FB,hb];rfl,?_);have sl:=ir (doL nums s b.sts).1.σ g (by simpa using hs);show (O9 b.en)[side _ b.en]?=some (to _ b.en);unfold to;rw[GP,FS sl,Hc];exact iM G n _ _ w hw
def sf {ns:↑Str}{m:Nat}(g:e.G ns m):bH [e.w]=pr (.tup<|(O9 e).map nI):=by
 cases hs:e.stops with
 |false=>exact mM g hs
 |true=>
  cases e with
  |stop=>
   have e0:bH [En.stop.w]=bd (cC [some En.stop.w]) Mb:=rfl;rw[e0];unfold cC;unfold En.w O9;simp! only[aa,ix0,show decide (("stop":Str)="go")=false by decide+kernel,show decide (("stop":Str)="if")=false by decide+kernel,show decide (("stop":Str)="table")=false by decide+kernel,PF];rfl
  |_=>cases hs
def Lw.enum {β:Type}{Q:β->↑Ob->Prop}{k:Sr->M β}(p:Lw h x l)(q:∀G ,(∀h' ,Lw h' x l->G h')->Ok (k (NG 0 l,G)) h Q):Ok (bd (L5 [x]) k) h Q:=by show Ok (bd (bd (Pm x) λs=>pr (NG 0 s.l,s.G)) k) h Q;rw[aa];refine Lw.src p λG g=>?_;rw[au];exact q G g
def wI {β:Type}{k:W->M β}{Q:β->↑Ob->Prop}(PG:PgG ps bs)(PA:PgAt h x ps bs)(q:∀h' ,Nw h h'->Ok (k<|.tl<|(wyB bs).map PU) h' Q):Ok (bd (jL [x]) k) h Q:=by
 have e0:jL [x]=bd (l5 [some x,none,none,none,none,none]) Mb:=rfl;rw[e0];unfold l5;let(bx,bl,ls,ex,LB,LL,ll,qb):=PA;have x1:ixW x (.int 1)=pr bl:=by rw[ex];exact ix1 _ _ _
 simp!;refine dC ?_;simp! only[aa,x1];refine Lw.enum (LL.keep (Nd.mk0 (h:=h) (b:=.lst [])).nw.eq) λG hG=>?_;simp!;have h6:∀e∈bs.map Bl.en,⇑(O9 e)<=6:=λe he=>by let(b,hb,rfl):=FY.mp he;exact lm (PG.g b hb).2.2
 have b10:=PG.l2;refine bF (I:=λi ρ h'=>∃a b c d ,ρ=[some x,some<|.loc ⇑h,a,b,c,d]/\Nd h h' ⇑h (.lst<|(PV<|(bs.map Bl.en).take i).map PU)) (_,_,_,_,rfl,Nd.mk0) (λJ J J I=>by let(_,_,_,_,_,N):=I;exact hG _<|LL.keep N.nw.eq) (λi w ρ h1 hw I=>?_) λρ h1 I=>?_
 .let(a,b,c,d,rfl,N):=I;let(x',hx',rfl):=c9 _ _ _ _ hw;have hi:i<⇑bs:=by rw[<-ll];exact (FD.mp hx').1
  obtain⟨b,hb⟩:∃b,bs[i]?=`b:=(_,FS hi)
  let(y,ey,_):=qb i b hb;rw[hx']at ey;cases ey;have g:=(PG.g b<|FK hb).2.2;have he:(bs.map Bl.en)[i]?=some b.en:=by rw[FB,hb];rfl
  have w6:=fS (bs.map Bl.en) h6 i (by rw[Fv];omega);have t6:=lm g;refine(_,rfl,?_);simp! only[aa,ix2,sf g,t7];refine iy (I:=λm ρ h'=>∃c d ,ρ=[some x,some<|.loc ⇑h,some<|.int<|0+(i:Int),some<|.tup [.str b.nm,y,b.en.w],c,d]/\Nd h h' ⇑h (.lst<|(PV ((bs.map Bl.en).take i)++cp i ((O9 b.en).take m)).map PU)) (_,_,rfl,by rw[GO];show Nd h h1 ⇑h (.lst<|(_++[]).map PU);rw[F5];exact N) (λJ J J J=>trivial) (λm w ρ h2 hw I=>?_) λρ h2 I=>?_
  .let(c,d,rfl,N):=I;let(x',hx',rfl):=c9 _ _ _ _ hw;rw[FB]at hx';let(t,ht,rfl):=FE.mp hx';have hm:=(FD.mp ht).1;have i0:(W.int<|0+(i:Int))=nI i:=by rw[G5];rfl
   have m0:(W.int<|0+(m:Int))=nI m:=by rw[G5];rfl
   refine(_,rfl,?_);simp!;refine dQ N.new ?_;rw[i0,m0];simp! only[mKt,aa,ktN]
   refine ju N.new (by
    rw[Fv,FH,gK,Gm]
    exact F9 (show _<=100 by omega) ↥_) ?_
   simp!;refine ae (_,rfl,_,_,rfl,?_);have:=N.put<|.lst<|(PV ((bs.map Bl.en).take i)++cp i ((O9 b.en).take m)).map PU++[PU (i ,m,t)];rw[ao ht,fK,dg ht,<-FZ,FF (l₂:=[(i ,m,t)])];exact this
  .let(c,d,rfl,N):=I;refine(_,rfl,_,_,_,_,rfl,?_);rw[ao he,eZ,dg he];have l2:⇑(NG 0<|(O9 b.en).map nI)=⇑(O9 b.en):=by rw[cK,Fv]
   rw[l2,FW]at N;exact N
 .let(a,b,c,d,rfl,N):=I;have l2:⇑(NG 0 ls)=⇑(bs.map Bl.en):=by rw[cK,ll,Fv]
  rw[l2,FW]at N;simp!;refine lH N.new ?_;simp!;exact q _ (N.put .gone).nw
end
end
section
noncomputable def PP (wy L:↑Way):↑W:=wy.map λw=>W.int (L.count w:Nat)
def iN (h:PR a=PR b):a=b:=by
 let(a1,a2,a3):=a;let(b1,b2,b3):=b;unfold PR at h;injection h with h1 h
 injection h with h2 h
 injection h with h3 h
 injection h1 with h1
 injection h2 with h2
 injection h3 with h3
 have g1:a1=b1:=FN.inj h1;have g2:a2=b2:=FN.inj h2;have g3:a3=b3:=FN.inj h3;rw[g1,g2,g3]
theorem xD (f:Way->W):∀ {wy:↑Way},w0∈wy->atK (wy.map PR) (wy.map f) (PR w0)=some (f w0)
 |w::wy,h=>by
  rw[Fz,Fz];unfold atK;by_cases e:w=w0;subst e;rw[np rfl]
  .rw[gV λz=>e<|iN z];rcases FC.mp h with z|h
   exact absurd z.symm e;exact xD f h
theorem kL (f:Way->W)(w0:Way)(v:W):∀wy:↑Way,NA (wy.map PR) (wy.map f) (PR w0) v=wy.map λw=>if w=w0 then v else f w
 |[]=>by unfold NA;rfl
 |w::wy=>by
  rw[Fz,Fz,Fz];unfold NA;rw[kL f w0 v wy];by_cases e:w=w0;subst e;rw[np rfl,np rfl];rw[gV λz=>e<|iN z,gV e]
def rO {w0:Way}{wy:↑Way}:((wy.map PR).any λk=>decide<|k=PR w0)=decide (w0∈wy):=by
 rw[Gv,G1,decide_eq_true_eq];constructor
 .rintro⟨k,hk,e⟩
  let(w,hw,rfl):=FY.mp hk;rw[<-iN (of_decide_eq_true e)];exact hw
 exact λh=>(_,FY.mpr (w0,h,rfl),CF rfl)
def u5 (h:w0∈wy):Oo (wy.map PR) (PP wy L) (PR w0) (.int<|(L.count w0:Nat)+1)=(wy.map PR ,PP wy<|L++[w0]):=by
 unfold Oo;rw[rO,np<|CF h];unfold PP;rw[kL];refine congrArg _ (Go λw hw=>?_);rw[List.count_append,List.count_singleton];by_cases e:w=w0;subst e;rw[np rfl,np ⇑_];rfl;rw[gV e,gV<|by simpa using λz=>e z.symm];rfl
def yj (h:w0 ∉wy):Oo (wy.map PR) (PP wy []) (PR w0) (.int 0)=((wy++[w0]).map PR ,PP (wy++[w0]) []):=by unfold Oo;rw[rO,gV<|by rw[s0 h];simp];unfold PP;rw[FF,FF];rfl
section
variable {β:Type}{h:↑Ob}{Q:β->↑Ob->Prop}{j:Nat}{ks ks':↑↑Key}{ws ws':↑W}{q:↑Key}{v:W}
def nv {k:W->M β}(q:Ok (k<|.loc ⇑h) (h++[.dit [] []]) Q):Ok (bd (lO ρ) k) h Q:=aq (a:=.loc ⇑h) (h':=h++[.dit [] []]) rfl q
def o8 {k:Unit->M β}(e:h[j]?=some (.dit ks ws))(hz:⇑ks<sizeLine)(e2:Oo ks ws q v=(ks' ,ws'))(r:Ok (k ()) (h.set j<|.dit ks' ws') Q):Ok (bd (ck (.loc j) (.kt q) v) k) h Q:=by refine aq (a:=()) (h':=h.set j<|.dit ks' ws') ?_ r;unfold ck;simp only[e,np hz,e2]
def BE {k:W->M β}(e:h[j]?=some (.dit ks ws))(e2:atK ks ws q=`v)(r:Ok (k v) h Q):Ok (bd (MH (.loc j)<|.kt q) k) h Q:=by
 refine aq (a:=v) (h':=h) ?_ r;have d:LV (.loc j) h=some (ks ,ws):=by unfold LV;simp only[e]
 have kk:MP (.kt q)=`q:=rfl;unfold MH;simp only[d,kk,e2]
def D4 {k:↑W->M β}(e:h[j]?=some (.dit ks ws))(r:Ok (k ws) h Q):Ok (bd (md<|.loc j) k) h Q:=by
 refine aq (a:=ws) (h':=h) ?_ r;have d:LV (.loc j) h=some (ks ,ws):=by unfold LV;simp only[e]
 unfold md;simp only[d]
end
noncomputable def Mw (l:↑Int):W:=.tl<|l.map W.int
section
variable {ps:↑(Str×Int)}{bs:↑Bl}
noncomputable def Mo (ps:↑(Str×Int))(bs:↑Bl)(n:Nat)(ins:↑↑Int):↑Way:=ins.flatMap λl=>(OA l bs n 0<|Pp ps).went
def tZ {n:Nat}(ins:↑↑Int)(l:↑Int):Mo ps bs n (ins++[l])=Mo ps bs n ins++(OA l bs n 0<|Pp ps).went:=by unfold Mo;rw[IA];simp
def wK {β:Type}{k:W->M β}{Q:β->↑Ob->Prop}{n:Nat}(PG:PgG ps bs)(PA:PgAt h x ps bs)(LI:Lw h y (ins.map Mw))(hn:n<62)(q:∀h' ,Nw h h'->Ok (k<|.tl<|PP (wyB bs)<|Mo ps bs n ins) h' Q):Ok (bd (eT [x,y,nI n]) k) h Q:=by
 have e0:eT [x,y,nI n]=bd (gq [some x,`y,some<|nI n,none,none,none]) Mb:=rfl;rw[e0];unfold gq;have wl:=um PG;have nd:=zY bs;simp!;refine nv ?_;have N0:Nd h (h++[Ob.dit [] []]) ⇑h (.dit [] []):=Nd.mk0;simp!;refine wI PG (PA.keep N0.nw.eq) λh1 K1=>?_;have N1:=N0.more K1;clear K1 N0;simp! only[aa,cD];refine bF (I:=λi ρ h'=>∃a ,ρ=[some x,`y,some<|nI n,some<|.loc ⇑h,a,none]/\Nd h h' ⇑h (.dit (((wyB bs).take i).map PR)<|PP ((wyB bs).take i) [])) (_,rfl,N1) (λJ J J J=>trivial) (λi w ρ h2 hw I=>?_) λρ h2 I=>?_
 .let(a,rfl,N):=I;rw[FB]at hw;let(t,ht,rfl):=FE.mp hw;refine(_,rfl,?_);simp! only[av,aa];have ni:t ∉(wyB bs).take i:=λm=>by let(j,hj):=Hg m;have jl:=(FD.mp hj).1;rw[Gm]at jl;rw[Ia ∅]at hj;have il:=(FD.mp ht).1;have:=(List.getElem?_inj ∅ nd).mp<|hj.trans ht.symm;omega
  unfold PU;refine o8 N.new (by rw[Fv,Gm];exact F9 (show _<=100 by omega) ↥_) (yj ni) ?_;simp!;refine ae (_,rfl,_,rfl,?_);rw[ao ht];exact N.put _
 .let(a,rfl,N):=I;rw[Fv,FW]at N;simp!;refine Lw.src (LI.keep N.nw.eq) λG hG=>?_;simp!;refine bF (I:=λi ρ h'=>∃a b ,ρ=[some x,`y,some<|nI n,some<|.loc ⇑h,a,b]/\Nd h h' ⇑h (.dit ((wyB bs).map PR)<|PP (wyB bs)<|Mo ps bs n<|ins.take i)) (_,_,rfl,N) (λJ J J I=>by let(_,_,_,N):=I;exact hG _<|LI.keep N.nw.eq) (λi w ρ h3 hw I=>?_) λρ h3 I=>?_
  .let(a,b,rfl,N):=I;rw[FB]at hw;let(l,hl,rfl):=FE.mp hw;refine(_,rfl,?_);simp!;refine ap (uQ (nums:=l) (nm:=Mw l) (bound:=n) PG (PA.keep N.nw.eq) (.inl rfl) hn) λw h4 qq_=>?_;let(f4,k1,k2,g1,g2,_,ew,e1,e2):=qq_;subst ew;have K4:Nw h3 h4:=(by have:=bm e1;omega,f4)
   have N4:=N.more K4;have gj:⇑h<⇑h3:=bm N.new;have wm:=iM (nums:=l) PG n 0<|Pp ps;have gs:=tZ (ps:=ps) (bs:=bs) (n:=n) (ins.take i) l;rw[<-ao hl]at gs;generalize (OA l bs n 0<|Pp ps).went=wt at*;simp! only[aa,ix2];refine Lw.src (.inr (_,rfl,e2)) λG2 hG2=>?_;simp!;refine iy (I:=λm ρ h'=>∃a ,ρ=[some x,`y,some<|nI n,some<|.loc ⇑h,a,some<|Mw l]/\h'[k2]?=some (.lst<|wt.map PU)/\Nd h h' ⇑h (.dit ((wyB bs).map PR)<|PP (wyB bs)<|Mo ps bs n (ins.take i)++wt.take m)) (_,rfl,e2,by rw[GO,F5];exact N4) (λJ J J I=>by let(_,_,e,_):=I;exact hG2 _<|.inr (_,rfl,e)) (λm w ρ h5 hw I=>?_) λρ h5 I=>?_
   .let(a,rfl,e5,N5):=I;rw[FB]at hw;let(t,ht,rfl):=FE.mp hw;have tm:=wm t<|FK ht;refine(_,rfl,?_);simp! only[OJ,aa];unfold PU;refine BE N5.new (xD _ tm) ?_;simp! only[aa,eX];refine o8 N5.new (by rw[Fv];exact F9 wl ↥_) (u5 tm) ?_;simp!;refine ae (_,rfl,_,rfl,?_,?_);rw[FG ∅];exact e5;rw[ao ht,<-FZ];exact N5.put _
   let(a,rfl,e5,N5):=I;rw[Fv,FW,<-gs]at N5;exact(_,rfl,_,_,rfl,N5)
  let(a,b,rfl,N):=I;rw[Fv,FW]at N;simp! only[lvL,aa];refine D4 N.new ?_;simp!;exact q _ N.nw
end
end
section
inductive Rw|st (s:Sm)|stop|jump (t:Nat)|cnd (neg:Bool)(c:Str)(a b:Xe)(t:Nat)|tab (e:Xe)(ts:↑Nat)
noncomputable def Rw.w:Rw->W|.st s=>s.w|.stop=>.tup [.str "stop"]|.jump t=>.tup [.str "jump",nI t]|.cnd false c a b t=>.tup [.str "when",.str c,a.w,b.w,nI t]|.cnd true c a b t=>.tup [.str "unless",.str c,a.w,b.w,nI t]|.tab e ts=>.tup [.str "table",e.w,.tup<|ts.map nI]
noncomputable def Rw.G (ns:↑Str)(m:Nat):Rw->Prop|.st s=>s.G ns|.stop=>True|.jump t=>t<m|.cnd _ c a b t=>(c="<"\/c="=")/\a.G ns 6/\b.G ns 6/\t<m|.tab e ts=>e.G ns 6/\1<=⇑ts/\⇑ts<=6/\∀t∈ts,t<m
noncomputable def Rw.falls:Rw->Bool|.st _=>true|.cnd ..=>true|_=>false
noncomputable def Rw.to (σ:Sto):Rw->Option Nat|.jump t=>`t|.cnd neg c a b t=>if LH σ c a b=neg then none else `t|.tab e ts=>some (ts.getD (e.val σ%⇑ts).toNat 0)|_=>none
structure Ld (ns:↑Str)(rows:↑Rw):Prop where
 ne:0<⇑rows
 g:∀ (p:Nat) (r:Rw),rows[p]?=`r->r.G ns ⇑rows/\(r.falls=true->p+1<⇑rows)
structure OutR where
 said:↑Int
 en:Str
 jumps:Nat
noncomputable def OC (nums:↑Int)(rows:↑Rw):Nat->Nat->Sta->OutR
 |0,_,s=>(s.said,"on",0)
 |n+1,p,s=>match rows[p]? with
  |none=>(s.said,"",0)
  |some .stop=>(s.said,"stop",0)
  |some (.st st)=>if MR nums s st=true then(s.said,"out",0) else OC nums rows n (p+1) (doS nums s st)
  |some r=>match r.to s.σ with
   |none=>OC nums rows n (p+1) s
   |some t=>((OC nums rows n t s).said,(OC nums rows n t s).en,(OC nums rows n t s).jumps+1)
def uA {c:Str}:inW (.str c) (.tup<|(["put","say","ask"]:↑Str).map W.str)=pr (.bl<|decide<|c∈(["put","say","ask"]:↑Str)):=by
 funext h;unfold inW;have e:inB (.str c) (.tup<|(["put","say","ask"]:↑Str).map W.str) h=some (decide<|c∈(["put","say","ask"]:↑Str)):=by
  show (match vOf (.str c) ,PQ ((["put","say","ask"]:↑Str).map W.str) with
   |some v,some vs=>some (inV v vs)
   |_,_=>none)=_
  rw[fT (k:=V.str)<|λa=>rfl];show some (inV (.str c)<|(["put","say","ask"]:↑Str).map V.str)=_;rw[nS]
 rw[e];rfl
def AB {ts:↑Nat}{v:Int}(h:1<=⇑ts):atI (ts.map nI) (v%(⇑ts:Int))=some (nI<|ts.getD (v%⇑ts).toNat 0):=nG nI ts 0 (GR _ ∅)<|G3 _ ∅
section
variable {ns:↑Str}{h:↑Ob}{d kh kS:Nat}{nums:↑Int}{s:Sta}
noncomputable def toW:Option Nat->W|none=>.non|some t=>nI t
def qZ {r:Rw}{m:Nat}(D:DoAt h d kh kS nums s)(H:Has ns s.σ)(g:r.G ns m)(n1:r≠.stop):Ok (bU [.loc d,r.w]) h λw h'=>w=toW (r.to s.σ)/\h'=h:=by
 have e0:bU [.loc d,r.w]=bd (a0 [some<|.loc d,some r.w]) Mb:=rfl;rw[e0];unfold a0;have no:∀ {c:Str}{l:↑W},c∈(["put","say","ask"]:↑Str)->Ok (bd (a0 [some<|.loc d,some<|.tup (.str c::l)]) Mb) h λw h'=>w=.non/\h'=h:=λ{c l} hc=>by have c1:∀x∈(["put","say","ask"]:↑Str),decide (x="jump")=false/\decide (x="when")=false/\decide (x="unless")=false/\decide (x="table")=false:=⋯;let(a1,a2,a3,a4):=c1 c hc;unfold a0;simp! only[aa,ix0,a1,a2,a3,a4];exact ae (rfl,rfl)
 cases r with
 |st st=>
  unfold a0 at no;cases st with|put y e=>exact no ⇑_|say e=>exact no ⇑_|ask y=>exact no ⇑_
 |stop=>exact absurd rfl n1
 |jump t=>
  unfold Rw.w Rw.to toW;simp! only[aa,ix0,ix1,eq_self,decide_true];exact ae (rfl,rfl)
 |cnd neg c a b t=>
  let(_,ga,gb,_):=g;have q1:decide (("when":Str)="jump")=false:=⋯;have q2:decide (("unless":Str)="jump")=false:=⋯;have q3:decide (("unless":Str)="when")=false:=⋯;cases neg with
  |false=>
   unfold Rw.w Rw.to;simp! only[Nn,aa,ix0,ix1,ix2,ix3,ix4,eq_self,decide_true,q1];refine dR D.ob (by unfold nsD;decide+kernel) ?_;simp! only[aa,ix0,ix1,ix2,ix3,ix4];refine lS D H ga gb ?_;cases hq:LH s.σ c a b<;>(simp! only[aa,ix4])<;>exact ae (by simp [toW],rfl)
  |true=>
   unfold Rw.w Rw.to;simp! only[Nn,aa,ix0,ix1,ix2,ix3,ix4,eq_self,decide_true,q2,q3];refine dR D.ob (by unfold nsD;decide+kernel) ?_;simp! only[aa,ix0,ix1,ix2,ix3,ix4];refine lS D H ga gb ?_;cases hq:LH s.σ c a b<;>(simp! only[aa,ix4])<;>exact ae (by simp [toW],rfl)
 |tab e ts=>
  let(ge,l1,_,_):=g;have q1:decide (("table":Str)="jump")=false:=⋯;have q2:decide (("table":Str)="when")=false:=⋯;have q3:decide (("table":Str)="unless")=false:=⋯;unfold Rw.w Rw.to toW;simp! only[Nn,aa,ix0,ix1,ix2,eq_self,decide_true,q1,q2,q3];refine dR D.ob (by unfold nsD;decide+kernel) ?_;simp! only[aa,ix0,ix1,ix2,Fv];refine nP D H ge ∅ ?_;simp! only[aa,cE<|AB (ts:=ts) (v:=e.val s.σ) l1];exact ae (rfl,rfl)
end
noncomputable def tR:KU->M Bool:=(mB<|m2 ltW (Ny 7)<|Ny 3)
noncomputable def bR:KU->M Fl:=(OY (OZ 8<|m2 ixW (Ny 1)<|Ny 6)<|OY (sIf (mB<|m2 eqW (m2 ixW (Ny 8) ⇑0) ⇑"stop") (OW<|Nx<|Ni (m1 (Md "Doing" "said")<|Ny 4)<|Ni (Nx<|Ni ⇑"stop" Nq)<|Ni (Ny 5) Nq) OV)<|OY (sIf (mB<|Nn "Doing" "lacks_number" 2 ar (Ny 4)<|Ni (Ny 8) Nq) (OW<|Nx<|Ni (m1 (Md "Doing" "said")<|Ny 4)<|Ni (Nx<|Ni ⇑"out" Nq)<|Ni (Ny 5) Nq) OV)<|OY (sIf (mB<|m2 inW (m2 ixW (Ny 8) ⇑0)<|mC<|.tup<|(["put","say","ask"]:↑Str).map W.str) (sEx<|Nn "Doing" "do_statement" 2 az (Ny 4)<|Ni (Ny 8) Nq) OV)<|OY (OZ 9<|Ng (arW 2 bU)<|Ni (Ny 4)<|Ni (Ny 8) Nq)<|OY (sIf (mB<|m2 MB (Ny 9)<|mC .non) (OI 6 ⇑1)<|OY (OZ 6<|Ny 9)<|OI 5 ⇑1)<|OI 7 ⇑1)
def jf:dY=(OY (OZ 4<|Nm "Doing" 3 aD<|Ni (Ny 0)<|Ni (Ny 2) Nq)<|OY (OZ 5 ⇑0)<|OY (OZ 6 ⇑0)<|OY (OZ 7 ⇑0)<|OY (bh tR bR 402)<|OW<|Nx<|Ni (m1 (Md "Doing" "said")<|Ny 4)<|Ni (Nx<|Ni ⇑"on" Nq)<|Ni (Ny 5) Nq):=rfl
noncomputable def L8 (bx rw nm:W)(bound:Int)(d:Nat)(jumps place done:Int)(a8 a9:Option W):KU:=[some bx,some rw,`nm,some<|.int bound,some<|.loc d,some<|.int jumps,some<|.int place,some<|.int done,a8,a9]
def mY {ns:↑Str}{m:Nat}{r:Rw}(g:r.G ns m):∃c l,r.w=.tup (.str c::l)/\(r=.stop↔c="stop")/\(c∈(["put","say","ask"]:↑Str)↔ ∃st ,r=.st st)/\∀st,r=.st st->decide (c="ask")=st.asks:=by
 cases r with
 |st st=>
  cases st with|put y e=>exact(_,_,rfl,(λz=>by (cases z),λz=>absurd z ⋯),(λJ=>(_,rfl),λJ=>⇑_),λst z=>by cases z;exact Dw)|say e=>exact(_,_,rfl,(λz=>by (cases z),λz=>absurd z ⋯),(λJ=>(_,rfl),λJ=>⇑_),λst z=>by cases z;exact Dv)|ask y=>exact(_,_,rfl,(λz=>by (cases z),λz=>absurd z ⋯),(λJ=>(_,rfl),λJ=>⇑_),λst z=>by cases z;exact CF rfl)
 |stop=>exact(_,_,rfl,(λJ=>rfl,λJ=>rfl),(λz=>absurd z ⋯,λ(st,z)=>by cases z),λst z=>by cases z)
 |jump t=>exact(_,_,rfl,(λz=>by (cases z),λz=>absurd z ⋯),(λz=>absurd z ⋯,λ(st,z)=>by cases z),λst z=>by cases z)
 |cnd neg c a b t=>cases neg<;>exact(_,_,rfl,(λz=>by (cases z),λz=>absurd z ⋯),(λz=>absurd z ⋯,λ(st,z)=>by cases z),λst z=>by cases z)
 |tab e ts=>exact(_,_,rfl,(λz=>by (cases z),λz=>absurd z ⋯),(λz=>absurd z ⋯,λ(st,z)=>by cases z),λst z=>by cases z)
def wU {ns:↑Str}{m:Nat}{r:Rw}(g:r.G ns m)(n:∀st ,r≠.st st){c:Str}{l:↑W}(e:r.w=.tup (.str c::l)):decide (c="ask")=false:=by refine s0 λz=>?_;subst z;let(c',l',e',_,q,_):=mY g;rw[e]at e';cases e';let(st,h):=q.mp ⇑_;exact n st h
section
variable {ns:↑Str}{d kh kS:Nat}{nums:↑Int}{rows:↑Rw}{bx rw nm:W}{bound:Int}{B:Nat}{h0:↑Ob}
theorem gc (RG:Ld ns rows)(LR:Lw h0 rw (rows.map Rw.w))(hB:⇑h0<=B)(d0:B<=d)(d1:B<=kh)(d2:B<=kS):∀ (n m:Nat) (p jumps:Nat) (done:Int) (s:Sta) (h:↑Ob) (a8 a9:Option W),n<m->done+n=bound->DoAt h d kh kS nums s->Has ns s.σ->p<⇑rows->⇑s.said+n<=100000->(∀i ,i<⇑h0->h[i]?=h0[i]?)->Ok (bh tR bR m<|L8 bx rw nm bound d jumps p done a8 a9) h λx h'=>(∀i ,i<B->h'[i]?=h[i]?)/\h'[kS]?=some (.lst<|(OC nums rows n p s).said.map W.int)/\(x=.rt (.tup [.loc kS,.tup [.str (OC nums rows n p s).en],nI<|jumps+(OC nums rows n p s).jumps])\/ ∃ (p':Nat) (dn:Int) (s':Sta) (b8 b9:Option W) ,x=.nx (L8 bx rw nm bound d ((jumps+(OC nums rows n p s).jumps:Nat):Int) p' dn b8 b9)/\(OC nums rows n p s).en="on"/\DoAt h' d kh kS nums s')
 |0,m+1,p,jumps,done,s,h,a8,a9,hm,hd,D,H,hp,hz,f=>by refine Dk ?_ (λJ J=>rfl,D.said,.inr (p,done,s,a8,a9,rfl,rfl,D));have hc:¬done<bound:=∅;simp! only[tR,L8,aa,s0 hc];exact ae (rfl,rfl)
 |n+1,m+1,p,jumps,done,s,h,a8,a9,hm,hd,D,H,hp,hz,f=>by
  refine Dj ?_ ?_;have hc:done<bound:=∅;simp! only[tR,L8,aa,CF hc];exact ae (rfl,rfl)
  obtain⟨r,er⟩:∃r,rows[p]?=`r:=(_,FS hp)
  let(g,fa):=RG.g p r er;have LR':Lw h rw (rows.map Rw.w):=LR.keep f;let(c,l,ew,hs,hst,hask):=mY g;have at0:atI (rows.map Rw.w) (p:Int)=some r.w:=dB (by rw[FB,er];rfl);rw[ew]at at0;simp! only[bR,L8,Nn,aa];refine LR'.ix at0 ?_;by_cases c0:c="stop"
  .have:=hs.mpr c0;subst this;simp! only[aa,ix0,CF c0];refine aZ D.ob (dU ..) ?_;simp! only[aa,PF];refine ae<|.inr (_,rfl,λJ J=>rfl,?_,?_);unfold OC;rw[er];exact D.said;unfold OC;rw[er];exact .inl rfl
  have ns0:r≠.stop:=λz=>c0<|hs.mp z;simp! only[aa,ix0,s0 c0];refine dR D.ob (by unfold nsD;decide+kernel) ?_;simp!;refine qT D ?_;by_cases is:∃st,r=.st st
  .let(st,rfl):=is;have ha:=hask st rfl;cases hl:MR nums s st with
   |true=>
    have hl':(decide (c="ask")&&decide (s.taken=⇑nums))=true:=by rw[ha];exact hl
    simp! only[aa,hl'];refine aZ D.ob (dU ..) ?_;simp! only[aa,PF];refine ae<|.inr (_,rfl,λJ J=>rfl,?_,?_);unfold OC;rw[er];dsimp only;rw[np hl];exact D.said;unfold OC;rw[er];dsimp only;rw[np hl];exact .inl rfl
   |false=>
    have hl':(decide (c="ask")&&decide (s.taken=⇑nums))=false:=by rw[ha];exact hl
    have er':OC nums rows (n+1) p s=OC nums rows n (p+1) (doS nums s st):=by
     conv=>lhs;unfold OC
     rw[er];dsimp only;rw[hl,gV FP]
    simp! only[aa,hl',ix0,uA,CF<|hst.mpr (st,rfl)];refine dR D.ob (by unfold nsD;decide+kernel) ?_;simp!;rw[<-ew];refine ap (Ap D H g hl ∅) λw h1 qq_=>?_;let(ew1,D1,H1,O1):=qq_;subst ew1;simp!;refine ap (qZ (r:=.st st) D1 H1 g ns0) λw h2 qq_=>?_;let(e1,e2):=qq_;subst e1 e2;have to0:Rw.to (doS nums s st).σ (.st st)=none:=rfl;rw[to0];simp! only[aa,toW,MB,MC,OI,eX];have ih:=gc RG LR hB d0 d1 d2 n m (p+1) jumps (done+1) (doS nums s st) h2 (some (Rw.st st).w) (some .non) ∅ ∅ D1 H1 (fa rfl) (by have:=mf nums s st;omega) λi hi=>(O1.eq i ∅ ∅ ∅).trans<|f i hi;rw[er'];refine ae<|.inl (_,rfl,Ok.imp ih λx h' (q1,q2,q3)=>(λi hi=>(q1 i hi).trans<|O1.eq i ∅ ∅ ∅,q2,q3))
  .have na:decide (c="ask")=false:=wU g (λst z=>is (st,z)) ew;simp! only[aa,na,Ho,ix0,uA,s0<|λz=>is<|hst.mp z];rw[<-ew];refine ap (qZ D H g ns0) λw h2 qq_=>?_;let(e1,e2):=qq_;subst e1 e2;cases ht:r.to s.σ with
   |none=>
    have er':OC nums rows (n+1) p s=OC nums rows n (p+1) s:=by
     conv=>lhs;unfold OC
     rw[er];cases r with|st st=>exact absurd (st,rfl) is|stop=>exact absurd rfl ns0|jump t=>cases ht|cnd neg c a b t=>dsimp only;rw[ht]|tab e ts=>cases ht
    have fl:r.falls=true:=by
     cases r with|st st=>rfl|stop=>exact absurd rfl ns0|jump t=>cases ht|cnd neg c a b t=>rfl|tab e ts=>cases ht
    simp! only[aa,toW,MB,MC,OI,eX];have ih:=gc RG LR hB d0 d1 d2 n m (p+1) jumps (done+1) s h2 (some r.w) (some .non) ∅ ∅ D H (fa fl) ∅ f;rw[er'];exact ae<|.inl (_,rfl,ih)
   |some t=>
    have er':OC nums rows (n+1) p s=((OC nums rows n t s).said,(OC nums rows n t s).en,(OC nums rows n t s).jumps+1):=by
     conv=>lhs;unfold OC
     rw[er];cases r with|st st=>exact absurd (st,rfl) is|stop=>exact absurd rfl ns0|jump t=>cases ht;rfl|cnd neg c a b t=>dsimp only;rw[ht]|tab e ts=>dsimp only;rw[ht]
    have hb:t<⇑rows:=by
     cases r with
     |st st=>exact absurd (st,rfl) is
     |stop=>exact absurd rfl ns0
     |jump t=>cases ht;exact g
     |cnd neg c a b t'=>
      have ht:(if LH s.σ c a b=neg then none else `t')=`t:=ht;split at ht;cases ht;cases ht;exact g.2.2.2
     |tab e ts=>
      cases ht;let(_,g1,_,g2):=g;have q1:0<=e.val s.σ%(⇑ts:Int):=GR _ ∅;have q2:e.val s.σ%(⇑ts:Int)<⇑ts:=G3 _ ∅;rw[GP,FS ∅,Hc];exact g2 _<|HA _
    simp! only[aa,toW,nI,MB,MC,OI,eX];have ih:=gc RG LR hB d0 d1 d2 n m t (jumps+1) (done+1) s h2 (some r.w) (some<|nI t) ∅ ∅ D H hb ∅ f;rw[er'];have ej:jumps+1+(OC nums rows n t s).jumps=jumps+((OC nums rows n t s).jumps+1):=∅;rw[ej]at ih;exact ae<|.inl (_,rfl,ih)
def mW {bound:Nat}(RG:Ld (ps.map (·.1)) rows)(bl:⇑ps<=4)(bv:∀p∈ps ,0<=p.2/\p.2<1000)(LB:Lw h bx (ps.map bxW))(LR:Lw h rw (rows.map Rw.w))(LN:Lw h nm (nums.map W.int))(hb:bound<402):Ok (eA [bx,rw,nm,nI bound]) h λw h'=>(∀i ,i<⇑h->h'[i]?=h[i]?)/\∃k,⇑h<=k/\w=.tup [.loc k,.tup [.str (OC nums rows bound 0<|Pp ps).en],nI (OC nums rows bound 0<|Pp ps).jumps]/\h'[k]?=some (.lst<|(OC nums rows bound 0<|Pp ps).said.map W.int):=by
 have e0:eA [bx,rw,nm,nI bound]=bd (dY [some bx,some rw,`nm,some<|nI bound,none,none,none,none,none,none]) Mb:=rfl;rw[e0,jf];simp!;refine wJ (l:=Ni (Ny 0)<|Ni (Ny 2) Nq) rfl LB LN λh1 D l1 f1=>?_;simp!;have lp:=gc (bx:=bx) (nm:=nm) (bound:=(bound:Int)) (B:=⇑h) RG LR (Fw _) (Fw _) (Gj _) (F7 _ _) bound 402 0 0 0 (Pp ps) h1 none none hb ∅ D (Has.first bl bv) RG.ne (by show 0+bound<=100000;omega) f1;refine ap lp λx h2 qq_=>?_;let(q1,q2,q3):=qq_;rcases q3 with rfl|⟨p',dn,s',b8,b9,rfl,q4,q5⟩
 simp!;exact ae (λi hi=>(q1 i hi).trans<|f1 i hi,_,F7 _ _,by rw[HS],q2);simp! only[L8,aa];refine aZ q5.ob (dU ..) ?_;simp! only[aa,PF];exact ae (λi hi=>(q1 i hi).trans<|f1 i hi,_,F7 _ _,by rw[HS,q4];rfl,q2)
end
end
section
structure Ord (m:Nat)(os:↑Nat):Prop where
 pm:FO os (List.range m)
 hd:os[0]?=some 0
noncomputable def goR (t:Nat)(nx:Option Nat):↑Rw:=if nx=`t then [] else [.jump t]
noncomputable def En.tail (e:En)(nx:Option Nat):↑Rw:=match e with
 |.go t=>goR t nx
 |.iff s a b x y=>if x=y then goR x nx else if nx=`x then [.cnd true s a b y] else .cnd false s a b x::goR y nx
 |.tab e ts=>[.tab e ts]
 |.stop=>[.stop]
noncomputable def Rw.fin (f:Nat->Nat):Rw->Rw|.st s=>.st s|.stop=>.stop|.jump t=>.jump (f t)|.cnd n c a b t=>.cnd n c a b (f t)|.tab e ts=>.tab e<|ts.map f
noncomputable def O4 (bs:↑Bl)(os:↑Nat)(i:Nat):↑Rw:=match os[i]? with
 |some o=>(match bs[o]? with
  |some b=>b.sts.map Rw.st++b.en.tail os[i+1]?
  |none=>[])
 |none=>[]
noncomputable def Oz (bs:↑Bl)(os:↑Nat):Nat->↑Rw
 |0=>[]
 |n+1=>Oz bs os n++O4 bs os n
noncomputable def Od (bs:↑Bl)(os:↑Nat)(t:Nat):Nat:=match os.findIdx? (λx=>decide<|x=t) with|some i=>⇑(Oz bs os i)|none=>0
noncomputable def MS (bs:↑Bl)(os:↑Nat):↑Rw:=(Oz bs os ⇑bs).map<|Rw.fin<|Od bs os
def lZ (t:Nat)(nx:Option Nat):⇑(goR t nx)<=1:=by unfold goR;split<;>simp
def mI (e:En)(nx:Option Nat):⇑(e.tail nx)<=2:=by
 cases e with
 |go t=>have:=lZ t nx;show ⇑(goR t nx)<=2;omega
 |iff s a b x y=>
  show ⇑(if x=y then goR x nx else if nx=`x then [Rw.cnd true s a b y] else Rw.cnd false s a b x::goR y nx)<=2;have h1:=lZ x nx;have h2:=lZ y nx;split;omega
  .split;simp;rw[FA];omega
 |tab e ts=>show ⇑([Rw.tab e ts]:↑Rw)<=2;simp
 |stop=>show ⇑([Rw.stop]:↑Rw)<=2;simp
section
variable {ns:↑Str}{m:Nat}
def l4 {t:Nat}(h:t<m):∀r∈goR t nx,r.G ns m:=λr hr=>by
 unfold goR at hr;split at hr;exact absurd hr FV;rw[FR.mp hr];exact h
def rZ {e:En}{nx:Option Nat}(g:e.G ns m):∀r∈e.tail nx,r.G ns m:=λr hr=>by
 cases e with
 |go t=>exact l4 g r hr
 |iff s a b x y=>
  let(hs,ga,gb,gx,gy):=g;have hr:r∈(if x=y then goR x nx else if nx=`x then [Rw.cnd true s a b y] else Rw.cnd false s a b x::goR y nx):=hr;split at hr;exact l4 gx r hr
  .split at hr;rw[FR.mp hr];exact(hs,ga,gb,gy)
   .rcases FC.mp hr with rfl|hr
    exact(hs,ga,gb,gx);exact l4 gy r hr
 |tab e ts=>rw[FR.mp<|show r∈[Rw.tab e ts] from hr];exact g
 |stop=>rw[FR.mp<|show r∈[Rw.stop] from hr];trivial
def rY (e:En):∃l r,e.tail none=l++[r]/\r.falls=false:=by
 cases e with
 |go t=>exact([],.jump t,rfl,rfl)
 |iff s a b x y=>
  by_cases h:x=y;exact([],.jump x,by show (if x=y then goR x none else _)=_;rw[np h];rfl,rfl);exact([.cnd false s a b x],.jump y,by show (if x=y then goR x none else if none=`x then _ else Rw.cnd false s a b x::goR y none)=_;rw[gV h];rfl,rfl)
 |tab e ts=>exact([],.tab e ts,rfl,rfl)
 |stop=>exact([],.stop,rfl,rfl)
end
theorem db:∀ {os:↑Nat}{i:Nat}{o:Nat},os.Nodup->os[i]?=`o->os.findIdx? (λx=>decide<|x=o)=`i|[],_,_,_,h=>by cases h|a::os,0,o,_,h=>by cases h;rw[IT,np ⇑_]|a::os,i+1,o,nd,h=>by rw[Gn]at h;have nd':=Gk.mp nd;have ne:¬a=o:=λz=>nd'.1 (by rw[z];exact FK h);rw[IT,gV (by simpa using ne),db nd'.2 h];rfl
section
variable {m:Nat}{os:↑Nat}
def Ord.nodup (P:Ord m os):os.Nodup:=P.pm.nodup_iff.mpr List.nodup_range
def Ord.mem (P:Ord m os){x:Nat}:x∈os↔x<m:=by rw[P.pm.mem_iff,G8]
def Ord.len (P:Ord m os):⇑os=m:=by rw[P.pm.length_eq,IB]
def Ord.ix (P:Ord m os){t:Nat}(h:t<m):∃i:Nat,os[i]?=`t:=List.mem_iff_getElem?.mp<|P.mem.mpr h
end
section
variable {ps:↑(Str×Int)}{bs:↑Bl}{os:↑Nat}
def mE (O:Ord ⇑bs os){i o:Nat}(h:os[i]?=`o):∃b∈bs,bs[o]?=`b:=by have ho:=O.mem.mp<|FK h;exact(bs[o],HA ho,FS ho)
def iW {i o:Nat}(h:os[i]?=`o)(hb:bs[o]?=`b):O4 bs os i=b.sts.map Rw.st++b.en.tail os[i+1]?:=by unfold O4;simp only[h,hb]
def yb (P:PgG ps bs)(O:Ord ⇑bs os)(n:Nat):⇑(O4 bs os n)<=10:=by
 cases ho:os[n]? with
 |none=>unfold O4;simp only[ho];exact FU _
 |some o=>
  let(b,mb,hb):=mE O ho;rw[iW ho hb,FH,Fv];have:=mI b.en os[n+1]?;have:=(P.g b mb).1;omega
theorem i5 (P:PgG ps bs)(O:Ord ⇑bs os):∀n:Nat,⇑(Oz bs os n)<=10*n|0=>FU _|n+1=>by rw[Oz,FH];have a:=i5 P O n;have b:=yb P O n;omega
def uH (P:PgG ps bs)(O:Ord ⇑bs os)(n:Nat):∀r∈O4 bs os n,r.G (ps.map (·.1)) ⇑bs:=λr hr=>by
 cases ho:os[n]? with
 |none=>unfold O4 at hr;simp only[ho]at hr;exact absurd hr FV
 |some o=>
  let(b,mb,hb):=mE O ho;rw[iW ho hb]at hr;rcases Gg.mp hr with hr|hr
  let(x,hx,rfl):=FY.mp hr;exact (P.g b mb).2.1 x hx;exact rZ (P.g b mb).2.2 r hr
theorem gM (P:PgG ps bs)(O:Ord ⇑bs os):∀n:Nat,∀r∈Oz bs os n,r.G (ps.map (·.1)) ⇑bs
 |0,r,hr=>absurd hr FV
 |n+1,r,hr=>by
  rw[Oz]at hr;rcases Gg.mp hr with hr|hr
  exact gM P O n r hr;exact uH P O n r hr
def gO (O:Ord ⇑bs os){i t:Nat}(h:os[i]?=`t):Od bs os t=⇑(Oz bs os i):=by unfold Od;rw[db O.nodup h]
def sr {i j:Nat}(h:i<=j):⇑(Oz bs os i)<=⇑(Oz bs os j):=by
 induction j with
 |zero=>have:i=0:=∅
        subst this;exact Fw _
 |succ j ih=>
  by_cases e:i=j+1;subst e;exact Fw _;rw[Oz,FH];have:=ih ∅;omega
def kD (P:PgG ps bs)(O:Ord ⇑bs os):∃l r,Oz bs os ⇑bs=l++[r]/\r.falls=false/\⇑(Oz bs os<|⇑bs-1)<=⇑l:=by
 have l1:=P.l1;have ol:=O.len;obtain⟨n,hn⟩:∃n,⇑bs=n+1:=(⇑bs-1,∅)
 obtain⟨o,ho⟩:∃o,os[n]?=`o:=(_,FS ∅)
 let(b,mb,hb):=mE O ho;let(l,r,e,f):=rY b.en;have nn:os[n+1]?=none:=IC ∅;refine(Oz bs os n++(b.sts.map Rw.st++l),r,?_,f,?_);rw[hn,Oz,iW ho hb,nn,e,FZ,FZ];rw[hn,Hi,FH];omega
def oX (P:PgG ps bs)(O:Ord ⇑bs os){t:Nat}(h:t<⇑bs):Od bs os t<⇑(Oz bs os ⇑bs):=by let(i,hi):=O.ix h;let(l,r,e,_,q):=kD P O;have il:=(FD.mp hi).1;have ol:=O.len;rw[gO O hi,e,FH];have:=sr (bs:=bs) (os:=os) (show i<=⇑bs-1 by omega);show _<⇑l+1;omega
def t0 (f:Nat->Nat)(r:Rw):(r.fin f).falls=r.falls:=by cases r<;>rfl
def nO:⇑(MS bs os)=⇑(Oz bs os ⇑bs):=by unfold MS;rw[Fv]
def CA (P:PgG ps bs)(O:Ord ⇑bs os):Ld (ps.map (·.1)) (MS bs os):=by
 let(l,r0,e,f0,_):=kD P O;refine(by rw[nO,e,FH];exact HK _,λp r hr=>?_);have hr':=hr;unfold MS at hr;rw[FB]at hr;let(r1,h1,rfl):=FE.mp hr;have g:=gM P O ⇑bs r1<|FK h1;rw[nO];refine(?_,λfl=>?_)
 .cases r1 with
  |st s=>exact g
  |stop=>trivial
  |jump t=>exact oX P O g
  |cnd n c a b t=>exact(g.1,g.2.1,g.2.2.1,oX P O g.2.2.2)
  |tab e ts=>exact(g.1,by rw[Fv];exact g.2.1,by rw[Fv];exact g.2.2.1,λt ht=>by
   let(u,hu,rfl):=FY.mp ht
   exact oX P O<|g.2.2.2 u hu)
 .rw[t0]at fl;have hl:=(FD.mp h1).1;rw[e,FH]at hl ⊢;have hl:p<⇑l+1:=hl;show p+1<⇑l+1;by_cases q:p=⇑l;rw[e,Gz ∅,q,Nat.sub_self]at h1;cases h1;rw[f0]at fl;cases fl;omega
end
noncomputable def nxW (nx:Option Nat):W:=match nx with|none=>.non|some t=>nI t
noncomputable def nxI (nx:Option Nat):Int:=match nx with|none=> -1|some t=>t
def Fb {t:Nat}:((t:Int)=nxI nx)↔nx=`t:=by
 cases nx with
 |none=>
  show (t:Int)= -1↔_;constructor;intro e;omega;intro e;cases e
 |some x=>
  show (t:Int)=(x:Int)↔`x=`t;constructor;intro e;rw[show x=t by omega];intro e;rw[Option.some.inj e]
def rh (t:Nat)(nx:Option Nat):eqW (nI t) (nxW nx)=pr (.bl<|decide<|nx=some t):=by
 cases nx with
 |none=>
  funext h;rfl
 |some x=>
  show eqW (.int (t:Int)) (.int (x:Int))=_;rw[eqW_int];congr 2;rw[decide_eq_decide];exact(λz=>by rw[show x=t by omega],λz=>by rw[Option.some.inj z])
def Dx:decide (("if":Str)="go")=false:=⋯
def Ds:decide (("table":Str)="go")=false:=⋯
def Dr:decide (("table":Str)="if")=false:=⋯
def Du:decide (("stop":Str)="go")=false:=⋯
def Dt:decide (("stop":Str)="if")=false:=⋯
def AQ:decide (("stop":Str)="table")=false:=⋯
def Pb (a b c d e f:W):slW (.tup [a,b,c,d,e,f]) (some 1) (some 4)=pr (.tup [b,c,d]):=by show gd (¬(HT.sIx 6 0 (some 1)=0/\HT.sIx 6 6 (some 4)=6)) (pr<|W.tup<|LM [a,b,c,d,e,f] (some 1)<|some 4)=_;rw[ag ↥_];rfl
def addT (a:W)(l m:↑W)(h:⇑l+⇑m<=100):Lo (.tup (a::l)) (.tup m)=pr (.tup (a::(l++m))):=by show gd ((a::l).isEmpty=false/\⇑(a::l)+⇑m<=sizeLine) (pr<|W.tup<|(a::l)++m)=_;rw[ag (rfl,sz<|by rw[FA];omega)];rfl
def Ll (a b c d:W):Lo (.tup [a]) (.tup [b,c,d])=pr (.tup [a,b,c,d]):=addT a [] [b,c,d] (by show 0+3<=100;decide)
def Lm (a b c d e:W):Lo (.tup [a,b,c,d]) (.tup [e])=pr (.tup [a,b,c,d,e]):=addT a [b,c,d] [e] (by show 3+1<=100;decide)
def add11 (a b:W):Lo (.tup [a]) (.tup [b])=pr (.tup [a,b]):=addT a [] [b] (by show 0+1<=100;decide)
abbrev JL:↑Str:=["jump","when","unless"]
def tW (z:Str):inW (.str z) (.tup<|(["jump","when","unless"]:↑Str).map W.str)=pr (.bl<|decide<|z∈JL):=by
 funext h;unfold inW;have e:inB (.str z) (.tup<|(["jump","when","unless"]:↑Str).map W.str) h=some (decide<|z∈JL):=by
  show (match vOf (.str z) ,PQ ((["jump","when","unless"]:↑Str).map W.str) with
   |some v,some vs=>some (inV v vs)
   |_,_=>none)=_
  rw[fT (g:=W.str) (k:=V.str)<|λa=>rfl];show some (inV (.str z)<|(["jump","when","unless"]:↑Str).map V.str)=_;rw[nS]
 rw[e];rfl
def CM:decide (("jump":Str)∈JL)=true:=⋯
def CK:decide (("when":Str)∈JL)=true:=⋯
def wL:decide (("unless":Str)∈JL)=true:=⋯
def CL:decide (("stop":Str)∈JL)=false:=⋯
def zx:decide (("table":Str)∈JL)=false:=⋯
def xW {ns:↑Str}{st:Sm}(g:st.G ns):∃z l,st.w=.tup (.str z::l)/\decide (z∈JL)=false/\decide (z="table")=false:=by
 cases st with|put y e=>exact(_,_,rfl,⋯,⋯)|say e=>exact(_,_,rfl,⋯,⋯)|ask y=>exact(_,_,rfl,⋯,⋯)
def mK (l:↑W):Pn (.tup l)=pr (l,λJ=>True):=rfl
end
section
def wW (t:Nat)(nx:Option Nat):cZ [nI t,nxW nx]=pr (.tl<|(goR t nx).map Rw.w):=by
 have e0:cZ [nI t,nxW nx]=bd (fw [some<|nI t,some<|nxW nx]) Mb:=rfl;rw[e0];unfold fw goR;by_cases h:nx=`t;rw[np h];simp! only[aa,PF,rh,CF h];rfl;rw[gV h];simp! only[aa,PF,rh,s0 h];rfl
def Eu (s:Str)(a b:Xe)(x y:Nat)(nx:Option Nat):fD [.tup [.str "if",.str s,a.w,b.w,nI x,nI y],nxW nx]=pr (.tl<|((En.iff s a b x y).tail nx).map Rw.w):=by
 have e0:fD [.tup [.str "if",.str s,a.w,b.w,nI x,nI y],nxW nx]=bd (fu [some<|.tup [.str "if",.str s,a.w,b.w,nI x,nI y],some<|nxW nx,none,none,none]) Mb:=rfl;rw[e0];unfold fu;have et:(En.iff s a b x y).tail nx=if x=y then goR x nx else if nx=`x then [.cnd true s a b y] else .cnd false s a b x::goR y nx:=rfl
 rw[et];by_cases h:x=y
 .have h':(x:Int)=(y:Int):=by rw[h]
  rw[np h];have hx:eqW (nI x) (nI y)=pr (.bl true):=by show eqW (.int (x:Int)) (.int (y:Int))=_;rw[eqW_int,CF h']
  simp! only[aa,Pb,ix4,ix5,hx,wW]
 .have h':¬(x:Int)=(y:Int):=∅;have hx:eqW (nI x) (nI y)=pr (.bl false):=by show eqW (.int (x:Int)) (.int (y:Int))=_;rw[eqW_int,s0 h']
  rw[gV h];by_cases h2:nx=`x;rw[np h2];simp! only[aa,Pb,ix4,ix5,hx,rh,CF h2,PF,Ll,Lm];rfl;rw[gV h2];have gl:=lZ y nx;have g2:∀ {α:Type} (q:M α),gd (0+1+⇑((goR y nx).map Rw.w)<=sizeLine) q=q:=λq=>ag (sz<|by rw[Fv];omega);simp! only[aa,Pb,ix4,ix5,hx,rh,s0 h2,PF,Ll,Lm,wW,LC,qK,g2];rfl
def CZ (e:En)(nx:Option Nat):eC [e.w,nxW nx]=pr (.tl<|(e.tail nx).map Rw.w):=by
 have e0:eC [e.w,nxW nx]=bd (d8 [some e.w,some<|nxW nx]) Mb:=rfl;rw[e0];unfold d8;cases e with
 |go t=>
  show bd _ Mb=_;unfold En.w;simp! only[aa,ix0,ix1,eq_self,decide_true,wW];rfl
 |iff s a b x y=>
  unfold En.w;simp! only[aa,ix0,Dx,eq_self,decide_true,Eu]
 |tab e ts=>
  unfold En.w;simp! only[aa,ix0,Ds,Dr];rfl
 |stop=>
  unfold En.w;simp! only[aa,ix0,Du,Dt];rfl
def cut2m (a b:W):slW (.tup [a,b]) none (some<|-1)=pr (.tup [a]):=by show gd (¬(HT.sIx 2 0 none=0/\HT.sIx 2 2 (some<|-1)=2)) (pr<|W.tup<|LM [a,b] none<|some<|-1)=_;rw[ag ↥_];rfl
def LJ (a b c d e:W):slW (.tup [a,b,c,d,e]) none (some<|-1)=pr (.tup [a,b,c,d]):=by show gd (¬(HT.sIx 5 0 none=0/\HT.sIx 5 5 (some<|-1)=5)) (pr<|W.tup<|LM [a,b,c,d,e] none<|some<|-1)=_;rw[ag ↥_];rfl
def last2 (a b:W):ixW (.tup [a,b]) (.int<|-1)=pr b:=cE<|oy [a] b
def MT (a b c d e:W):ixW (.tup [a,b,c,d,e]) (.int<|-1)=pr e:=cE<|oy [a,b,c,d] e
section
variable {β:Type}{h:↑Ob}{Q:β->↑Ob->Prop}{j:Nat}
def BC {o:Nat}{k:Unit->M β}(e:h[j]?=some (.dic ks ws))(nw:ks.any (λk=>decide<|k=(.inl (o:Int):Key))=false)(hz:⇑ks<sizeLine)(q:Ok (k ()) (h.set j<|.dic (ks++[.inl (o:Int)])<|ws++[v]) Q):Ok (bd (ck (.loc j) (nI o) v) k) h Q:=by
 refine aq (a:=()) (h':=h.set j<|.dic (ks++[.inl (o:Int)])<|ws++[v]) ?_ q;unfold ck;have pw:Oo ks ws (.inl (o:Int)) v=(ks++[.inl (o:Int)] ,ws++[v]):=by unfold Oo;rw[nw];rfl
 have ko:MO (nI o)=some (.inl (o:Int)):=rfl;simp only[e,ko,pw,np hz]
def o9 {o:Nat}{k:W->M β}(e:h[j]?=some (.dic ks ws))(e2:atK ks ws (.inl (o:Int))=`v)(q:Ok (k v) h Q):Ok (bd (ixW (.loc j)<|nI o) k) h Q:=by
 refine aq (a:=v) (h':=h) ?_ q;have d:LS (.loc j) h=some (ks ,ws):=by unfold LS;simp only[e]
 have:ixO (.loc j) (nI o) h=`v:=by unfold ixO;simp only[d,MO,nI,e2]
 unfold ixW;rw[this]
def pd {k:W->M β}(e:h[j]?=some (.lst l))(L:Lw h x mm)(hz:⇑l+⇑mm<=sizeLine)(q:Ok (k .non) (h.set j<|.lst<|l++mm) Q):Ok (bd (dy (.loc j) [x]) k) h Q:=by
 refine aq (a:=.non) (h':=h.set j<|.lst<|l++mm) ?_ q;unfold dy;dsimp only;have lo:M9 x h=.ok mm h:=by
  rcases L with rfl|⟨i,rfl,ei⟩
  rfl;unfold M9;simp only[ei]
 rw[bW lo];simp only[e,np hz]
end
theorem ui:∀ (os:↑Nat) (a:Nat),P0 ((a::os).map nI) (os.map nI++[.non])=(List.range<|⇑os+1).map λi=>W.tup [nI<|(a::os).getD i 0,nxW (a::os)[i+1]?]|[],a=>rfl|b::os,a=>by have ih:=ui os b;unfold P0 at ih ⊢;rw[Fz,Fz,F8,IU,<-Fz,ih,FA,IV (n:=⇑os+1),Fz,F4];rfl
def slos {os:↑Nat}(h:1<=⇑os):slW (.tup<|os.map nI) (some 1) none=pr (.tup<|os.tail.map nI):=by
 show gd (¬(HT.sIx ⇑(os.map nI) 0 (some 1)=0/\HT.sIx ⇑(os.map nI) ⇑(os.map nI) none=⇑(os.map nI))) (pr<|W.tup<|LM (os.map nI) (some 1) none)=_;have s1:HT.sIx ⇑(os.map nI) 0 (some 1)=1:=by show (if (1:Int)<0 then ((1:Int)+(⇑(os.map nI):Int)).toNat else min (1:Int).toNat ⇑(os.map nI))=1;rw[gV ↥_,Fv];show min 1 ⇑os=1;omega
 rw[ag<|by rw[s1];omega];congr 2;unfold LM;rw[s1,show HT.sIx ⇑(os.map nI) ⇑(os.map nI) none=⇑(os.map nI) from rfl];cases os with
 |nil=>rfl
 |cons a os=>
  rw[Fz,List.drop_one,GT,GT,FA,Hi,FW]
def C6 (l:↑W)(h:⇑l<=100):LD (.tup l) (.tup [.non])=pr (.tup<|l++[.non]):=by
 cases l with
 |nil=>rfl
 |cons a l=>
  show gd (⇑(a::l)+⇑([W.non]:↑W)<=sizeLine) (pr<|W.tup<|(a::l)++[.non])=_;exact ag (sz<|by show ⇑(a::l)+1<=_;omega)
def xY (a b:↑W):Po true true [.tup a,.tup b]=pr (P0 a b,λJ=>True/\True):=rfl
noncomputable def ksW (os:↑Nat)(n:Nat):↑Key:=(os.take n).map λ(x:Nat)=>(.inl (x:Int):Key)
noncomputable def wsR (bs:↑Bl)(os:↑Nat)(n:Nat):↑W:=(List.range n).map λ(i:Nat)=>nI ⇑(Oz bs os i)
theorem xF:∀ {os:↑Nat}{ws:↑W}{i:Nat}{t:Nat},os.Nodup->⇑os=⇑ws->os[i]?=`t->atK (os.map λ(x:Nat)=>(.inl (x:Int):Key)) ws (.inl (t:Int))=ws[i]?|[],_,_,_,_,_,h=>by cases h|o::os,[],_,_,_,h,_=>by cases h|o::os,w::ws,0,t,_,_,h=>by cases h;rw[Fz,atK,np rfl];rfl|o::os,w::ws,i+1,t,nd,hl,h=>by rw[Gn]at h;have nd':=Gk.mp nd;have ne:¬o=t:=λz=>nd'.1 (by rw[z];exact FK h);rw[Fz,atK,gV (λz=>ne (by have:=Sum.inl.inj z;omega)),Gn];exact xF nd'.2 (GQ.inj hl) h
section
variable {ps:↑(Str×Int)}{bs:↑Bl}{os:↑Nat}
def Av (n:Nat):⇑(wsR bs os n)=n:=by unfold wsR;simp
def xQ (n:Nat):wsR bs os (n+1)=wsR bs os n++[nI ⇑(Oz bs os n)]:=by unfold wsR;rw[ID,FF];rfl
def zu {n:Nat}{o:Nat}(h:os[n]?=`o):ksW os (n+1)=ksW os n++[.inl (o:Int)]:=by unfold ksW;rw[Hh,h,FF];rfl
def CB (O:Ord ⇑bs os){n:Nat}{o:Nat}(h:os[n]?=`o):(ksW os n).any (λk=>decide<|k=(.inl (o:Int):Key))=false:=by
 rw[HZ];intro k hk;unfold ksW at hk;let(x,hx,rfl):=FY.mp hk;intro z;have z:=Sum.inl.inj<|of_decide_eq_true z;have z:x=o:=∅;subst z;let(i,hi,e):=List.mem_take_iff_getElem.mp hx;have hn:=(FD.mp h)
 let(hn1,hn2):=hn;have il:i<⇑os:=∅;have q1:=db O.nodup<|FD.mpr (il,e);have q2:=db O.nodup h;rw[q1]at q2;have:=Option.some.inj q2;omega
def mF (O:Ord ⇑bs os){t:Nat}(ht:t<⇑bs):atK (ksW os ⇑bs) (wsR bs os ⇑bs) (.inl (t:Int))=some (nI<|Od bs os t):=by
 have e:ksW os ⇑bs=os.map λ(x:Nat)=>(.inl (x:Int):Key):=by unfold ksW;rw[<-O.len,FW]
 let(i,hi):=O.ix ht;have il:=(FD.mp hi).1;rw[e,xF O.nodup (by rw[Av,O.len]) hi,gO O hi];unfold wsR;rw[FB,IF<|by rw[<-O.len];exact il];rfl
def CO {j:Nat}{o:Nat}(e:h[j]?=some (.dic ks ws))(e2:atK ks ws (.inl (o:Int))=`v):Ok (ixW (.loc j)<|nI o) h λw h'=>w=v/\h'=h:=by
 have d:LS (.loc j) h=some (ks ,ws):=by unfold LS;simp only[e]
 have:ixO (.loc j) (nI o) h=`v:=by unfold ixO;simp only[d,MO,nI,e2]
 refine(v,h,?_,rfl,rfl);unfold ixW;rw[this]
def Cz {h:↑Ob}{kg:Nat}{r:Rw}(P:PgG ps bs)(O:Ord ⇑bs os)(ed:h[kg]?=some (.dic (ksW os ⇑bs)<|wsR bs os ⇑bs))(g:r.G (ps.map (·.1)) ⇑bs):Ok (cI [r.w,.loc kg]) h λw h'=>w=(r.fin<|Od bs os).w/\h'=h:=by
 have e0:cI [r.w,.loc kg]=bd (cF [some r.w,some<|.loc kg]) Mb:=rfl;rw[e0];unfold cF;cases r with
 |st st=>
  let(z,l',ew,jz,tz):=xW (show st.G (ps.map (·.1)) from g);rw[show (Rw.st st).w=.tup (.str z::l') from ew,show ((Rw.st st).fin<|Od bs os).w=.tup (.str z::l') from ew];simp! only[aa,ix0,tW,jz,tz];exact ae (rfl,rfl)
 |jump t=>
  unfold Rw.w Rw.fin;simp! only[aa,ix0,tW,CM,cut2m,last2];refine o9 ed (mF O g) ?_;simp! only[aa,PF,add11];exact ae (rfl,rfl)
 |cnd neg s a b t=>
  let(_,_,_,ht):=g;cases neg with
  |false=>
   unfold Rw.w Rw.fin;simp! only[aa,ix0,tW,CK,LJ,MT];refine o9 ed (mF O ht) ?_;simp! only[aa,PF,Lm];exact ae (rfl,rfl)
  |true=>
   unfold Rw.w Rw.fin;simp! only[aa,ix0,tW,wL,LJ,MT];refine o9 ed (mF O ht) ?_;simp! only[aa,PF,Lm];exact ae (rfl,rfl)
 |tab e ts=>
  let(_,_,tl,gt):=g;have gl:∀ {α:Type} (q:M α),gd (⇑(ts.map nI)<=sizeLine) q=q:=λq=>ag (by rw[Fv];exact sz ∅);unfold Rw.w Rw.fin;simp! only[aa,ix0,ix1,ix2,tW,zx,eq_self,decide_true,ah,mK,gl];refine bY (I:=λn l h'=>h'=h/\l=((ts.take n).map<|Od bs os).map nI) (rfl,rfl) cQ (λZ Z Z Z=>trivial) (λn w l h4 hw J=>?_) λl' h4 J=>?_;let(rfl,rfl):=J;rw[FB]at hw;let(t,ht,rfl):=FE.mp hw;refine(_,rfl,?_);simp! only[List.replicate,F8,Ge,aa];refine Ok.imp (CO ed<|mF O<|gt t<|FK ht) λw h5 qz=>?_;let(e1,e2):=qz;refine(e2,?_);rw[e1,Hh,ht,FF,FF];rfl;let(rfl,rfl):=J;rw[Fv,FW];simp! only[aa,gF,PF];exact ae (rfl,rfl)
 |stop=>
  unfold Rw.w Rw.fin;simp! only[aa,ix0,tW,CL,AQ];exact ae (rfl,rfl)
def zt (P:PgG ps bs)(O:Ord ⇑bs os)(PA:PgAt h x ps bs):Ok (l9 [x,.tup<|os.map nI]) h λw h'=>(∀i ,i<⇑h->h'[i]?=h[i]?)/\∃kf,⇑h<=kf/\w=.loc kf/\h'[kf]?=some (.lst<|(MS bs os).map Rw.w):=by
 have e0:l9 [x,.tup<|os.map nI]=bd (l6 [some x,some<|.tup<|os.map nI,none,none,none,none,none]) Mb:=rfl;have pl:=O.len;have m1:=P.l1;have m2:=P.l2;let(bx,bl,ls,ex,LB,LL,ll,pq):=PA;have x1:ixW x (.int 1)=pr bl:=by rw[ex];exact ix1 _ _ _
 rw[e0];unfold l6;simp!;refine dC ?_;simp!;refine lI ?_;have el:⇑(h++[Ob.lst []])=⇑h+1:=⇑_;simp! only[OP,aa,PF,slos (os:=os) ∅,C6 (os.tail.map nI) (by rw[Fv,List.length_tail];omega),xY];have zz:P0 (os.map nI) (os.tail.map nI++[.non])=(List.range ⇑bs).map λi=>W.tup [nI<|os.getD i 0,nxW os[i+1]?]:=by
  cases os with|nil=>have:0=⇑bs:=pl;omega|cons a r=>rw[GT,ui,<-pl];rfl
 rw[zz];refine bF (I:=λn ρ h'=>(∃a4 a5 a6 ,ρ=[some x,some<|.tup<|os.map nI,some<|.loc ⇑h,some<|.loc ⇑(h++[Ob.lst []]),a4,a5,a6])/\(∀i ,i<⇑h->h'[i]?=h[i]?)/\⇑h'=⇑h+2/\h'[⇑h]?=some (.lst<|(Oz bs os n).map Rw.w)/\h'[⇑h+1]?=some (.dic (ksW os n)<|wsR bs os n)) ((_,_,_,rfl),λi hi=>by rw[F2 (by rw[el];omega),F2 hi],⇑_,dX bL,by rw[<-el];exact bL) (λJ J J J=>(trivial,trivial)) (λn w ρ h1 hw I=>?_) λρ h1 I=>?_
 .let((a4,a5,a6,rfl),fr,hl,er,ed):=I;rw[FB]at hw;let(n',hn',rfl):=FE.mp hw;have hn:n<⇑bs:=by
   have:=(FD.mp hn').1
   rwa[IB]at this
  have nn:n'=n:=by rw[IF hn]at hn';exact (Option.some.inj hn').symm
  subst nn;obtain⟨o,ho⟩:∃o,os[n']?=`o:=(_,FS ∅)
  have go:os.getD n' 0=o:=by rw[GP,ho];rfl
  rw[go];let(b,mb,hb):=mE O ho;let(y,ey,LY):=pq o b hb;have rl:=i5 P O n';have tl:=mI b.en os[n'+1]?;have s8:=(P.g b mb).1;have kl:⇑(ksW os n')<=10:=by unfold ksW;rw[Fv,Gm];omega
  refine(_,rfl,?_);simp! only[aa,x1];refine (LL.keep fr).ix (dB ey) ?_;simp!;refine Lw.len_eq (N:=(⇑(Oz bs os n'):Int)) (.inr (⇑h,rfl,er)) (by rw[Fv]) ?_;simp!;rw[el];refine BC ed (CB O ho) (F9 kl ↥_) ?_;obtain⟨h2,hh2⟩:∃h2,h2=h1.set (⇑h+1) (.dic (ksW os n'++[.inl (o:Int)])<|wsR bs os n'++[.int (⇑(Oz bs os n'):Int)]):=(_,rfl)
  have er2:h2[⇑h]?=some (.lst<|(Oz bs os n').map Rw.w):=by rw[hh2,FG ∅];exact er
  have ed2:h2[⇑h+1]?=some (.dic (ksW os<|n'+1)<|wsR bs os<|n'+1):=by rw[hh2,aU ed,zu ho,xQ];rfl
  have fr2:∀i,i<⇑h->h2[i]?=h[i]?:=λi hi=>by rw[hh2,FG ∅];exact fr i hi
  have hl2:⇑h2=⇑h+2:=by rw[hh2,F3];exact hl
  rw[<-hh2];clear hh2;simp!;refine dQ er2 ?_;simp! only[aa,ix1];refine pd er2 (LY.keep fr2) (sz<|by rw[Fv,Fv];omega) ?_;obtain⟨h3,hh3⟩:∃h3,h3=h2.set ⇑h (.lst<|(Oz bs os n').map Rw.w++b.sts.map Sm.w):=(_,rfl)
  have er3:h3[⇑h]?=some (.lst<|(Oz bs os n').map Rw.w++b.sts.map Sm.w):=by rw[hh3];exact aU er2
  have ed3:h3[⇑h+1]?=some (.dic (ksW os<|n'+1)<|wsR bs os<|n'+1):=by rw[hh3,FG ∅];exact ed2
  have fr3:∀i,i<⇑h->h3[i]?=h[i]?:=λi hi=>by rw[hh3,FG ∅];exact fr2 i hi
  have hl3:⇑h3=⇑h+2:=by rw[hh3,F3];exact hl2
  rw[<-hh3];clear hh3;simp!;refine dQ er3 ?_;simp! only[aa,ix2,CZ];refine pd er3 (.inl rfl) (sz<|by rw[FH,Fv,Fv,Fv];omega) ?_;simp!;refine ae (_,rfl,(_,_,_,rfl),λi hi=>by rw[FG ∅];exact fr3 i hi,by rw[F3];exact hl3,?_,by rw[FG ∅];exact ed3);have es:b.sts.map Sm.w++(b.en.tail os[n'+1]?).map Rw.w=(O4 bs os n').map Rw.w:=by rw[iW ho hb,FF,F4];rfl
  rw[aU er3,Oz,FF,<-es,<-FZ]
 .let((a4,a5,a6,rfl),fr,hl,er,ed):=I;rw[Fv,IB]at er ed;have rl:=i5 P O ⇑bs;simp! only[aa,ah];refine vS er ?_;have gl:∀ {α:Type} (q:M α),gd (⇑((Oz bs os ⇑bs).map Rw.w)<=sizeLine) q=q:=λq=>ag (sz<|by rw[Fv];omega);simp! only[aa,gl];refine bY (I:=λn a h'=>h'=h1/\a=((Oz bs os ⇑bs).take n).map λr=>(r.fin<|Od bs os).w) (rfl,rfl) cQ (λJ J h' I=>by rw[I.1];exact er) (λn w a h' hw I=>?_) λa h' I=>?_;let(rfl,rfl):=I;rw[FB]at hw;let(r,hr,rfl):=FE.mp hw;refine(_,rfl,?_);rw[el];simp! only[List.replicate,F8,Ge,aa];refine Ok.imp (Cz P O ed<|gM P O ⇑bs r<|FK hr) λx h2 qz=>?_;let(e1,e2):=qz;refine(e2,?_);rw[e1,Hh,hr,FF];rfl;let(rfl,rfl):=I;rw[Fv,FW];simp!;refine dC ?_;simp!;refine ae (λi hi=>by rw[F2 ∅];exact fr i hi,⇑h',∅,rfl,?_);rw[bL];unfold MS;rw[F4];rfl
end
end
section
noncomputable def nxt (os:↑Nat)(p:Nat):Option Nat:=match os.findIdx? (λx=>decide<|x=p) with|some i=>os[i+1]?|none=>none
noncomputable def jmp (nx:Option Nat)(t:Nat):Nat:=if nx=`t then 0 else 1
noncomputable def cB (e:En)(nx:Option Nat)(sd t:Nat):Nat×Nat:=match e with
 |.tab ..=>(1 ,1)
 |.go _=>(jmp nx t ,jmp nx t)
 |.iff _ _ _ x y=>if x=y then (jmp nx t ,jmp nx t) else (1+(if sd=1/\nx≠`x/\nx≠`y then 1 else 0) ,jmp nx t)
 |.stop=>(0 ,0)
noncomputable def cj (bs:↑Bl)(p:Nat):Nat:=match bs[p]? with|some b=>⇑b.sts|none=>0
noncomputable def aV (bs:↑Bl)(os:↑Nat)(w:Nat×Nat×Nat):Nat×Nat:=match bs[w.1]? with
 |some b=>cB b.en (nxt os w.1) w.2.1 w.2.2
 |none=>(0 ,0)
noncomputable def LZ (bs:↑Bl)(os:↑Nat):↑(Nat×Nat×Nat)->Nat×Nat
 |[]=>(0 ,0)
 |w::r=>(cj bs w.1+(aV bs os w).1+(LZ bs os r).1 ,(aV bs os w).2+(LZ bs os r).2)
noncomputable def MU:Nat->↑(Nat×Nat×Nat)->Nat|p,[]=>p|_,w::r=>MU w.2.2 r
section
variable {bs:↑Bl}{os:↑Nat}
def uU {i n:Nat}(h:i<=n):∃r,Oz bs os n=Oz bs os i++r:=by
 induction n with
 |zero=>
  have:i=0:=∅;subst this;exact([],by rw[F5])
 |succ n ih=>
  by_cases e:i=n+1;subst e;exact([],by rw[F5]);let(r,hr):=ih ∅;exact(r++O4 bs os n,by rw[Oz,hr,FZ])
def qN (O:Ord ⇑bs os){i p j:Nat}(hi:os[i]?=`p)(hr:(O4 bs os i)[j]?=`r):(MS bs os)[Od bs os p+j]?=some (r.fin<|Od bs os):=by have il:=(FD.mp hi).1;have ol:=O.len;let(l,e):=uU (bs:=bs) (os:=os) (show i+1<=⇑bs by omega);unfold MS;rw[FB,e,Oz,FZ,gO O hi,Gz ∅,IG,F2 (FD.mp hr).1,hr];rfl
def vh (O:Ord ⇑bs os){i p t:Nat}(hi:os[i]?=`p)(hn:os[i+1]?=`t):Od bs os t=Od bs os p+⇑(O4 bs os i):=by rw[gO O hi,gO O hn,Oz,FH]
def vX (O:Ord ⇑bs os){i p:Nat}(hi:os[i]?=`p):nxt os p=os[i+1]?:=by unfold nxt;rw[db O.nodup hi]
end
section
variable {nums:↑Int}{rows:↑Rw}
def lx {n p:Nat}{st:Sm}(h:rows[p]?=some (.st st)):OC nums rows (n+1) p s=if MR nums s st=true then(s.said,"out",0) else OC nums rows n (p+1) (doS nums s st):=by
 conv=>lhs;unfold OC
 rw[h]
def so {n p t:Nat}(h:rows[p]?=some (.jump t)):OC nums rows (n+1) p s=((OC nums rows n t s).said,(OC nums rows n t s).en,(OC nums rows n t s).jumps+1):=by
 conv=>lhs;unfold OC
 rw[h];rfl
def uT {n p:Nat}(h:rows[p]?=some (.tab e ts)):OC nums rows (n+1) p s=((OC nums rows n (ts.getD (e.val s.σ%⇑ts).toNat 0) s).said,(OC nums rows n (ts.getD (e.val s.σ%⇑ts).toNat 0) s).en,(OC nums rows n (ts.getD (e.val s.σ%⇑ts).toNat 0) s).jumps+1):=by
 conv=>lhs;unfold OC
 rw[h];rfl
def mX {n p t:Nat}{neg:Bool}{c:Str}(h:rows[p]?=some (.cnd neg c a b t))(hc:¬LH s.σ c a b=neg):OC nums rows (n+1) p s=((OC nums rows n t s).said,(OC nums rows n t s).en,(OC nums rows n t s).jumps+1):=by
 conv=>lhs;unfold OC
 rw[h];dsimp only;rw[show (Rw.cnd neg c a b t).to s.σ=`t from gV hc]
def qq {n p t:Nat}{neg:Bool}{c:Str}(h:rows[p]?=some (.cnd neg c a b t))(hc:LH s.σ c a b=neg):OC nums rows (n+1) p s=OC nums rows n (p+1) s:=by
 conv=>lhs;unfold OC
 rw[h];dsimp only;rw[show (Rw.cnd neg c a b t).to s.σ=none from np hc]
theorem mV:∀ (l:↑Sm) (q:Nat) (s:Sta),(∀j st ,l[j]?=`st->rows[q+j]?=some (.st st))->((doL nums s l).2=true->∀n ,OC nums rows (⇑l+n) q s=OC nums rows n (q+⇑l) (doL nums s l).1)/\((doL nums s l).2=false->∀n ,⇑l<=n->OC nums rows n q s=((doL nums s l).1.said,"out",0))
 |[],q,s,_=>(λJ n=>by show OC nums rows (0+n) q s=_;rw[HS];rfl,λh=>by cases h)
 |st::l,q,s,hr=>by
  have h0:rows[q]?=some (.st st):=hr 0 st rfl;have hr':∀j st',l[j]?=`st'->rows[q+1+j]?=some (.st st'):=λj st' hj=>by
   have:=hr (j+1) st' (by simpa using hj)
   rwa[show q+(j+1)=q+1+j by omega]at this
  by_cases hl:MR nums s st=true
  .have e:doL nums s (st::l)=(s ,false):=by unfold doL;rw[np hl]
   rw[e];refine(λz=>by (cases z),λJ n hn=>?_);obtain⟨m,rfl⟩:∃m,n=m+1:=(n-1,by rw[FA]at hn;omega)
   rw[lx h0,np hl]
  .have e:doL nums s (st::l)=doL nums (doS nums s st) l:=by
    conv=>lhs;unfold doL
    rw[gV hl]
   rw[e];let(a,b):=mV l (q+1) (doS nums s st) hr';refine(λz n=>?_,λz n hn=>?_);rw[FA,show ⇑l+1+n=(⇑l+n)+1 by omega,lx h0,gV hl,a z n,show q+1+⇑l=q+(⇑l+1) by omega]
   .obtain⟨m,rfl⟩:∃m,n=m+1:=(n-1,by rw[FA]at hn;omega)
    rw[lx h0,gV hl,b z m<|by rw[FA]at hn;omega]
noncomputable def OutR.more (o:OutR)(k:Nat):OutR:=(o.said,o.en,o.jumps+k)
def oS {q t n:Nat}{f:Nat->Nat}(hr:∀j r ,(goR t nx)[j]?=`r->rows[q+j]?=some (r.fin f))(hn:nx=`t->f t=q):OC nums rows (jmp nx t+n) q s=(OC nums rows n (f t) s).more (jmp nx t):=by
 unfold goR at hr;unfold jmp;by_cases h:nx=`t;rw[np h,HS,hn h];rfl;rw[gV h]at hr ⊢;have h0:rows[q]?=some (.jump<|f t):=hr 0 _ rfl;rw[Gy 1 n];exact so h0
def uO {ns:↑Str}{m q:Nat}{f:Nat->Nat}(g:e.G ns m)(st:e.stops=false)(hr:∀j r ,(e.tail nx)[j]?=`r->rows[q+j]?=some (r.fin f))(hn:∀t ,nx=`t->f t=q+⇑(e.tail nx))(n:Nat):OC nums rows ((cB e nx (side s.σ e)<|to s.σ e).1+n) q s=(OC nums rows n (f<|to s.σ e) s).more (cB e nx (side s.σ e)<|to s.σ e).2:=by
 cases e with
 |stop=>cases st
 |go t=>
  show OC nums rows (jmp nx t+n) q s=(OC nums rows n (f t) s).more (jmp nx t);refine oS hr λh=>?_;have:=hn t h;rw[show (En.go t).tail nx=goR t nx from rfl]at this;unfold goR at this;rw[np h]at this;exact this
 |tab e ts=>
  have h0:rows[q]?=some (.tab e<|ts.map f):=hr 0 _ rfl;show OC nums rows (1+n) q s=(OC nums rows n (f<|to s.σ<|.tab e ts) s).more 1;have et:(ts.map f).getD (e.val s.σ%⇑(ts.map f)).toNat 0=f (to s.σ<|.tab e ts):=by have sd:=ir s.σ g rfl;have sd:(e.val s.σ%⇑ts).toNat<⇑ts:=sd;show _=f (ts.getD (e.val s.σ%⇑ts).toNat 0);rw[Fv,GP,GP,FB,FS sd];rfl
  rw[Gy 1 n,uT h0,et];rfl
 |iff c a b x y=>
  have tl:(En.iff c a b x y).tail nx=if x=y then goR x nx else if nx=`x then [Rw.cnd true c a b y] else Rw.cnd false c a b x::goR y nx:=rfl
  have sp:∀sd t,cB (.iff c a b x y) nx sd t=if x=y then (jmp nx t ,jmp nx t) else (1+(if sd=1/\nx≠`x/\nx≠`y then 1 else 0) ,jmp nx t):=λJ J=>rfl
  rw[tl]at hr hn;rw[sp];by_cases h:x=y
  .rw[np h]at hr hn ⊢;have et:to s.σ (.iff c a b x y)=x:=by show [x,y].getD (if LH s.σ c a b=true then 0 else 1) 0=x;rw[<-h];split<;>rfl
   rw[et];refine oS hr λz=>?_;have:=hn x z;unfold goR at this;rw[np z]at this;exact this
  .rw[gV h]at hr hn ⊢;cases hc:LH s.σ c a b with
   |true=>
    have es:side s.σ (.iff c a b x y)=0:=by show (if LH s.σ c a b=true then 0 else 1)=0;rw[hc];rfl
    have et:to s.σ (.iff c a b x y)=x:=by unfold to;rw[es];rfl
    rw[es,et,gV<|λz=>by cases z.1];by_cases h2:nx=`x;rw[np h2]at hr hn;have h0:rows[q]?=some (.cnd true c a b<|f y):=hr 0 _ rfl;show OC nums rows (1+n) q s=(OC nums rows n (f x) s).more (jmp nx x);rw[Gy 1 n,qq h0 hc,hn x h2];unfold jmp;rw[np h2];rfl;rw[gV h2]at hr hn;have h0:rows[q]?=some (.cnd false c a b<|f x):=hr 0 _ rfl;show OC nums rows (1+n) q s=(OC nums rows n (f x) s).more (jmp nx x);rw[Gy 1 n,mX h0<|by rw[hc];simp];unfold jmp;rw[gV h2];rfl
   |false=>
    have es:side s.σ (.iff c a b x y)=1:=by show (if LH s.σ c a b=true then 0 else 1)=1;rw[hc];rfl
    have et:to s.σ (.iff c a b x y)=y:=by unfold to;rw[es];rfl
    rw[es,et];by_cases h2:nx=`x;rw[np h2]at hr hn;have h0:rows[q]?=some (.cnd true c a b<|f y):=hr 0 _ rfl;have ny:¬nx=`y:=λz=>h (by rw[h2]at z;exact Option.some.inj z);rw[gV<|λz=>z.2.1 h2];show OC nums rows (1+n) q s=(OC nums rows n (f y) s).more (jmp nx y);rw[Gy 1 n,mX h0<|by rw[hc];simp];unfold jmp;rw[gV ny];rfl
    .rw[gV h2]at hr hn;have h0:rows[q]?=some (.cnd false c a b<|f x):=hr 0 _ rfl;have hr':∀j r,(goR y nx)[j]?=`r->rows[q+1+j]?=some (r.fin f):=λj r hj=>by
      have:=hr (j+1) r (by simpa using hj)
      rwa[show q+(j+1)=q+1+j by omega]at this
     have go:=oS (nums:=nums) (n:=n) (s:=s) hr' λz=>by have:=hn y z;unfold goR at this;rw[np z]at this;exact this
     have e1:(1+(if (1:Nat)=1/\nx≠`x/\nx≠`y then 1 else 0))=jmp nx y+1:=by
      unfold jmp;by_cases h3:nx=`y;rw[np h3,gV<|λz=>z.2.2 h3];rw[gV h3,np (rfl,h2,h3)]
     rw[e1];show OC nums rows (jmp nx y+1+n) q s=_;rw[show jmp nx y+1+n=(jmp nx y+n)+1 by omega,qq h0 hc];exact go
end
section
variable {ps:↑(Str×Int)}{bs:↑Bl}{os:↑Nat}{nums:↑Int}
def xA (P:PgG ps bs)(O:Ord ⇑bs os){p:Nat}(hb:bs[p]?=`b):(∀j st ,b.sts[j]?=`st->(MS bs os)[Od bs os p+j]?=some (.st st))/\(∀j r ,(b.en.tail<|nxt os p)[j]?=`r->(MS bs os)[Od bs os p+⇑b.sts+j]?=some (r.fin<|Od bs os))/\∀t,nxt os p=`t->Od bs os t=Od bs os p+⇑b.sts+⇑(b.en.tail<|nxt os p):=by
 let(i,hi):=O.ix (FD.mp hb).1;have se:=iW hi hb;rw[vX O hi];refine(λj st hj=>?_,λj r hj=>?_,λt ht=>?_);refine qN O (r:=.st st) hi ?_;rw[se,F2 (by rw[Fv];exact (FD.mp hj).1),FB,hj];rfl;rw[G7];refine qN O (r:=r) hi ?_;rw[se,Gz (by rw[Fv];omega),Fv,IG];exact hj;rw[vh O hi ht,se,FH,Fv];omega
theorem sim (P:PgG ps bs)(O:Ord ⇑bs os):∀ (n p:Nat) (s:Sta),p<⇑bs->
  ((OA nums bs n p s).en="on"->OC nums (MS bs os) (LZ bs os (OA nums bs n p s).went).1 (Od bs os p) s=((OA nums bs n p s).said,"on",(LZ bs os (OA nums bs n p s).went).2))/\
  ((OA nums bs n p s).en="stop"->∀m ,(LZ bs os (OA nums bs n p s).went).1+cj bs (MU p (OA nums bs n p s).went)+1<=m->OC nums (MS bs os) m (Od bs os p) s=((OA nums bs n p s).said,"stop",(LZ bs os (OA nums bs n p s).went).2))/\
  ((OA nums bs n p s).en="out"->∀m ,(LZ bs os (OA nums bs n p s).went).1+cj bs (MU p (OA nums bs n p s).went)<=m->OC nums (MS bs os) m (Od bs os p) s=((OA nums bs n p s).said,"out",(LZ bs os (OA nums bs n p s).went).2))
 |0,p,s,hp=>(λJ=>rfl,λz=>absurd z (show¬(("on":Str)="stop") by decide+kernel),λz=>absurd z<|show¬(("on":Str)="out") by decide+kernel)
 |n+1,p,s,hp=>by
  obtain⟨b,hb⟩:∃b,bs[p]?=`b:=(_,FS hp)
  let(_,_,g):=P.g b<|FK hb;let(r1,r2,r3):=xA P O hb;let(q1,q2):=mV (nums:=nums) (rows:=MS bs os) b.sts (Od bs os p) s r1;have sl:cj bs p=⇑b.sts:=by unfold cj;rw[hb]
  cases hd:(doL nums s b.sts).2 with
  |false=>
   have er:OA nums bs (n+1) p s=((doL nums s b.sts).1.said,"out",[]):=by
    conv=>lhs;unfold OA
    rw[hb];dsimp only;rw[np hd]
   rw[er];refine(λz=>absurd z (show¬(("out":Str)="on") by decide+kernel),λz=>absurd z (show¬(("out":Str)="stop") by decide+kernel),λJ m hm=>?_);exact q2 hd m (by have hm:0+cj bs p<=m:=hm;omega)
  |true=>
   cases hs:b.en.stops with
   |true=>
    have er:OA nums bs (n+1) p s=((doL nums s b.sts).1.said,"stop",[]):=by
     conv=>lhs;unfold OA
     rw[hb];dsimp only;rw[hd,gV ⇑_,hs,np rfl]
    rw[er];refine(λz=>absurd z (show¬(("stop":Str)="on") by decide+kernel),λJ m hm=>?_,λz=>absurd z<|show¬(("stop":Str)="out") by decide+kernel);have hm:0+cj bs p+1<=m:=hm;obtain⟨k,rfl⟩:∃k,m=⇑b.sts+(k+1):=(m-⇑b.sts-1,∅)
    rw[q1 hd];have h0:(MS bs os)[Od bs os p+⇑b.sts]?=some .stop:=by
     have eb:b.en=.stop:=by
      cases h:b.en with|stop=>rfl|go t=>rw[h]at hs;cases hs|iff c a b x y=>rw[h]at hs;cases hs|tab e ts=>rw[h]at hs;cases hs
     rw[eb]at r2;exact r2 0 .stop rfl
    conv=>lhs;unfold OC
    rw[h0];rfl
   |false=>
    have er:OA nums bs (n+1) p s=((OA nums bs n (to (doL nums s b.sts).1.σ b.en) (doL nums s b.sts).1).said,(OA nums bs n (to (doL nums s b.sts).1.σ b.en) (doL nums s b.sts).1).en,(p ,side (doL nums s b.sts).1.σ b.en,to (doL nums s b.sts).1.σ b.en)::(OA nums bs n (to (doL nums s b.sts).1.σ b.en) (doL nums s b.sts).1).went):=by
     conv=>lhs;unfold OA
     rw[hb];dsimp only;rw[hd,gV ⇑_,hs,gV ⇑_]
    have sp:aV bs os (p ,side (doL nums s b.sts).1.σ b.en,to (doL nums s b.sts).1.σ b.en)=cB b.en (nxt os p) (side (doL nums s b.sts).1.σ b.en) (to (doL nums s b.sts).1.σ b.en):=by unfold aV;dsimp only;rw[hb]
    have rt:=λk=>uO (nums:=nums) (rows:=MS bs os) (q:=Od bs os p+⇑b.sts) (f:=Od bs os) (s:=(doL nums s b.sts).1) g hs r2 r3 k;let(i1,i2,i3):=sim P O n (to (doL nums s b.sts).1.σ b.en) (doL nums s b.sts).1<|uw _ g hs;rw[er];have dn:∀r,LZ bs os ((p ,side (doL nums s b.sts).1.σ b.en,to (doL nums s b.sts).1.σ b.en)::r)=(⇑b.sts+(cB b.en (nxt os p) (side (doL nums s b.sts).1.σ b.en)<|to (doL nums s b.sts).1.σ b.en).1+(LZ bs os r).1 ,(cB b.en (nxt os p) (side (doL nums s b.sts).1.σ b.en)<|to (doL nums s b.sts).1.σ b.en).2+(LZ bs os r).2):=λr=>by show (cj bs p+(aV bs os _).1+_ ,(aV bs os _).2+_)=_;rw[sl,sp]
    dsimp only;rw[dn];generalize OA nums bs n (to (doL nums s b.sts).1.σ b.en) (doL nums s b.sts).1=o at*;generalize cB b.en (nxt os p) (side (doL nums s b.sts).1.σ b.en) (to (doL nums s b.sts).1.σ b.en)=sq at*;have lb:MU p ((p ,side (doL nums s b.sts).1.σ b.en,to (doL nums s b.sts).1.σ b.en)::o.went)=MU (to (doL nums s b.sts).1.σ b.en) o.went:=rfl;rw[lb];have mv:∀ {o2:OutR}{w:Str},o2=(o.said,w,(LZ bs os o.went).2)->o2.more sq.2=(o.said,w,sq.2+(LZ bs os o.went).2):=λ{o2 w} h=>by rw[h];unfold OutR.more;rw[Gy]
    refine(λz=>?_,λz m hm=>?_,λz m hm=>?_);show OC nums (MS bs os) (⇑b.sts+sq.1+(LZ bs os o.went).1) (Od bs os p) s=_;rw[G7,q1 hd,rt];exact mv<|i1 z
    .have hm:⇑b.sts+sq.1+(LZ bs os o.went).1+cj bs (MU (to (doL nums s b.sts).1.σ b.en) o.went)+1<=m:=hm;obtain⟨k,rfl⟩:∃k,m=⇑b.sts+(sq.1+k):=(m-⇑b.sts-sq.1,∅)
     rw[q1 hd,rt];exact mv<|i2 z k ∅
    .have hm:⇑b.sts+sq.1+(LZ bs os o.went).1+cj bs (MU (to (doL nums s b.sts).1.σ b.en) o.went)<=m:=hm;obtain⟨k,rfl⟩:∃k,m=⇑b.sts+(sq.1+k):=(m-⇑b.sts-sq.1,∅)
     rw[q1 hd,rt];exact mv<|i3 z k ∅
def pos0 (O:Ord ⇑bs os):Od bs os 0=0:=by rw[gO O O.hd];rfl
end
end
section
noncomputable def PJ (n:Nat):↑Int:=(List.range n).map λ(r:Nat)=>1+(r:Int)
def kr (n:Nat):PJ (n+1)=PJ n++[1+(n:Int)]:=by unfold PJ;rw[ID,FF];rfl
def bQ (n:Nat):⇑(PJ n)=n:=by unfold PJ;simp
def PK {n:Nat}{x:Int}:x∈PJ n↔1<=x/\x<=n:=by
 unfold PJ;constructor;intro h;let(r,hr,rfl):=FY.mp h;have:=G8.mp hr;omega;intro h;exact FY.mpr ((x-1).toNat,G8.mpr ∅,∅)
def jH (n:Nat):My 1 n=(PJ n).map W.int:=by
 apply List.ext_getElem?;intro i;by_cases hi:i<n
 .obtain⟨w,hw⟩:∃w,(My 1 n)[i]?=`w:=(_,FS<|by rw[cu];exact hi)
  let(rfl,_):=dG _ _ _ _ hw;rw[hw];unfold PJ;rw[F4,FB,IF hi];rfl
 rw[IC (by rw[cu];omega),IC<|by rw[Fv,bQ];omega]
structure Nf (h h':↑Ob)(b:Ob):Prop where
 len:⇑h'=⇑h+1
 eq:∀i,i<⇑h->h'[i]?=h[i]?
 new:h'[⇑h]?=`b
def Nf.mk0 :Nf h (h++[b]) b:=(⇑_,λi hi=>by rw[F2 hi],bL)
def Nf.put (N:Nf h h' b)(c:Ob):Nf h (h'.set ⇑h c) c:=
 (by rw[F3];exact N.len,λi hi=>by rw[FG ∅];exact N.eq i hi,aU N.new)
def Nf.nw (N:Nf h h' b):Nw h h':=(by rw[N.len];omega,N.eq)
def Nf.get {j:Nat}(N:Nf h h' b)(e:h[j]?=`c):h'[j]?=`c:=(N.eq j<|bm e).trans e
theorem rM {κ:Type} [DecidableEq κ] (x x':κ)(y:W):∀ (ks:↑κ) (ws:↑W),⇑ks=⇑ws->atK ks (NA ks ws x y) x'=if x=x' then (if (ks.any λk=>decide<|k=x)=true then `y else none) else atK ks ws x'
 |[],ws,_=>by unfold atK;split<;>rfl
 |k::ks,[],h=>by cases h
 |k::ks,w::ws,h=>by
  have ih:=rM x x' y ks ws<|GQ.inj h;rw[NA,atK,atK,ih,GH];by_cases e:x=x'
  .subst e;by_cases e2:k=x;simp [e2];simp [e2]
  .by_cases e2:k=x';have:k≠x:=λz=>e<|z.symm.trans e2;simp [e,e2,this];intro z;exact absurd z.symm e;simp [e,e2]
theorem rN {κ:Type} [DecidableEq κ] (x x':κ)(y:W):∀ (ks:↑κ) (ws:↑W),⇑ks=⇑ws->(ks.any λk=>decide<|k=x)=false->atK (ks++[x]) (ws++[y]) x'=if x=x' then `y else atK ks ws x'
 |[],[],_,_=>by simp [atK]
 |[],_::_,h,_=>by cases h
 |k::ks,[],h,_=>by cases h
 |k::ks,w::ws,h,a=>by
  rw[GH,IM]at a;have ih:=rN x x' y ks ws (GQ.inj h) a.2;rw[F8,F8,atK,atK,ih];have e2:k≠x:=of_decide_eq_false a.1;by_cases e:k=x';have:x≠x':=λz=>e2<|e.trans z.symm;simp [e,this];simp [e]
theorem kK {κ:Type} [DecidableEq κ] (x:κ)(y:W):∀ (ks:↑κ) (ws:↑W),⇑ks=⇑ws->⇑(NA ks ws x y)=⇑ws|[],ws,h=>h|k::ks,[],h=>by cases h|k::ks,w::ws,h=>by rw[NA,FA,FA,kK x y ks ws<|GQ.inj h]
def gB {κ:Type} [DecidableEq κ] {x:κ}{ks ks':↑κ}(h:⇑ks=⇑ws)(e:Oo ks ws x y=(ks' ,ws')):⇑ks'=⇑ws'/\⇑ks'<=⇑ks+1/\∀x',atK ks' ws' x'=if x=x' then `y else atK ks ws x':=by
 unfold Oo at e;by_cases a:(ks.any λk=>decide<|k=x)=true;rw[np a]at e;cases e;refine(by rw[kK x y ks ws h];exact h,Gj _,λx'=>?_);rw[rM x x' y ks ws h,np a];rw[gV a]at e;cases e;refine(by rw[FH,FH,h];rfl,by rw[FH];exact Fw _,λx'=>?_);exact rN x x' y ks ws h (by rw[<-HU];exact a)
section
variable {β:Type}{h:↑Ob}{Q:β->↑Ob->Prop}{j:Nat}
def iw {k:W->M β}(e:h[j]?=some (.dit ks ws))(q:Ok (k<|.loc j) h Q):Ok (bd (Mz<|.loc j) k) h Q:=by
 refine aq (a:=.loc j) (h':=h) ?_ q;have:LV (.loc j) h=some (ks ,ws):=by unfold LV;simp only[e]
 unfold Mz;rw[this]
def iC (e:h[j]?=some (.dit ks ws))(ek:MP y=`q):Mn (.loc j) y d h=.ok ((atK ks ws q).getD d) h:=by
 have:LV (.loc j) h=some (ks ,ws):=by unfold LV;simp only[e]
 unfold Mn;simp only[this,ek]
end
abbrev Zw:=Bool×Int×Int×Int
noncomputable def Mp (zs:↑Zw)(a b:Int):Int:=(zs.map λz=>if z.1=false/\z.2.1=a/\z.2.2.1=b then z.2.2.2 else 0).sum
def kN (zs:↑Zw)(z:Zw)(a b:Int):Mp (zs++[z]) a b=Mp zs a b+if z.1=false/\z.2.1=a/\z.2.2.1=b then z.2.2.2 else 0:=by unfold Mp;rw[FF,List.sum_append];simp
def qj (a b:↑W):Po false false [.tl a,.tl b]=pr (P0 a b,λJ=>True/\True):=rfl
def kt2 (a b:Int):ktW [.int a,.int b]=pr (.kt [.inl a,.inl b]):=by show gd (⇑([.int a,.int b]:↑W)<=sizeLine) (pr<|W.kt [.inl a,.inl b])=_;exact ag (show 2<=sizeLine by decide)
structure GK (ks:↑↑Key)(ws:↑W)(G:Int->Int->Int):Prop where
 len:⇑ks=⇑ws
 get:∀a b,(atK ks ws [.inl a,.inl b]).getD (.int 0)=.int (G a b)
def p6 {α β:Type}(f:α->W)(g:β->W)(l:↑α)(m:↑β)(h:⇑l=⇑m):⇑(P0 (l.map f)<|m.map g)=⇑m:=by unfold P0;rw[Gq,Fv,Fv,h,Iz]
noncomputable def En.isT:En->Bool|.tab _ _=>true|_=>false
noncomputable def Py (bs:↑Bl)(p:Nat):Bool:=match bs[p]? with|some b=>b.en.isT|none=>false
noncomputable def zsB (bs:↑Bl)(cs:↑Int):↑Zw:=Hw (λ(w:Way) c=>(Py bs w.1 ,(w.1:Int),(w.2.2:Int),c)) (wyB bs) cs
def ug {bs:↑Bl}{cs:↑Int}{i:Nat}{w:Way}{c:Int}(h1:(wyB bs)[i]?=`w)(h2:cs[i]?=`c):(zsB bs cs)[i]?=some (Py bs w.1 ,(w.1:Int),(w.2.2:Int),c):=by unfold zsB;rw[Hy,h1,h2]
def uf {bs:↑Bl}{cs:↑Int}(h:⇑(wyB bs)=⇑cs):⇑(zsB bs cs)=⇑cs:=by unfold zsB;rw[Gq,h,Iz]
def uh {bs:↑Bl}{cs:↑Int}{i:Nat}(e:(P0 ((wyB bs).map PU)<|cs.map W.int)[i]?=`x):∃w c,(wyB bs)[i]?=`w/\cs[i]?=`c/\x=.tup [PU w,.int c]:=by let(x,y,hx,hy,rfl):=eK e;rw[FB]at hx hy;let(w,hw,rfl):=FE.mp hx;let(c,hc,rfl):=FE.mp hy;exact(w,c,hw,hc,rfl)
def lh (v:Way):PH (PU v)=pr (.tup [nI v.1,nI v.2.1,nI v.2.2]):=rfl
def nZ {ns:↑Str}{m:Nat}{e:En}(g:e.G ns m):∃c l,e.w=.tup (.str c::l)/\decide (c="table")=e.isT:=by
 cases e with|go t=>exact(_,_,rfl,C8)|iff c a b x y=>exact(_,_,rfl,EM)|tab e ts=>exact(_,_,rfl,CF rfl)|stop=>exact(_,_,rfl,AQ)
section
variable {ps:↑(Str×Int)}{bs:↑Bl}
def gh {cs:↑Int}(PG:PgG ps bs)(PA:PgAt h x ps bs)(hc:⇑(wyB bs)=⇑cs):
  Ok (du [x,.tl<|cs.map W.int]) h λw h'=>∃j ks ws,w=.loc j/\Nd h h' j (.dit ks ws)/\GK ks ws (Mp<|zsB bs cs):=by
 have e0:du [x,.tl<|cs.map W.int]=bd (iE [some x,some<|.tl<|cs.map W.int,none,none,none,none,none]) Mb:=rfl;rw[e0];unfold iE;have lc:⇑cs<=60:=by rw[<-hc];exact um PG
 simp!;refine nv ?_;simp!;have D0:Nd h (h++[.dit [] []]) ⇑h (.dit [] []):=Nd.mk0;refine wI PG (PA.keep D0.nw.eq) λh1 N1=>?_;have D1:=D0.more N1;let(bx,bl,ex,_,BA):=PA.bl;have hp:ixW x (.int 1)=pr bl:=by rw[ex];exact ix1 _ _ _
 clear ex;simp! only[aa,qj];refine bF (I:=λi ρ h'=>∃a b c d ks ws ,ρ=[some x,some<|.tl<|cs.map W.int,some<|.loc ⇑h,a,b,c,d]/\Nd h h' ⇑h (.dit ks ws)/\GK ks ws (Mp<|(zsB bs cs).take i)/\⇑ks<=i) (_,_,_,_,[],[],rfl,D1,(rfl,λa b=>rfl),Fw _) (λJ J J J=>(trivial,trivial)) (λi y ρ h2 hy I=>?_) λρ h2 I=>?_
 .let(a,b,c,d,ks,ws,rfl,D,G,lk):=I;let(w,n,hw,hn,rfl):=uh hy;have hi:i<⇑cs:=(FD.mp hn).1;let(en,he,_):=PX.mp (show w∈PV (bs.map Bl.en) from FK hw);have hz:=ug hw hn;rw[FB]at he;let(b0,hb,rfl):=FE.mp he;have ht:Py bs w.1=b0.en.isT:=by unfold Py;rw[hb]
  rw[ht]at hz;let(ls,LL,ll,pq):=BA.keep D.nw.eq;let(y,ey,_):=pq w.1 b0 hb;let(kc,kl,ek,ekt):=nZ (PG.g b0<|FK hb).2.2;refine([some x,some<|.tl<|cs.map W.int,some<|.loc ⇑h,some<|PU w,some<|.int n,c,d],rfl,?_);simp! only[aa,hp,lh,ix0,ix2];refine LL.ix (dB ey) ?_;rw[ek];simp! only[aa,ix2,ix0,ekt,lh];rw[ao hz];cases et:b0.en.isT with
  |true=>
   simp!;refine ae (_,rfl,_,_,_,_,ks,ws,rfl,D,(G.len,λa b=>?_),Ir lk);rw[G.get,kN,gV ⇑_,G6]
  |false=>
   simp! only[aa,mKt,nI,kt2,Nl,lh,ix0,ix2];refine iw D.new ?_;simp!;refine aq (iC D.new rfl) ?_;rw[G.get w.1 w.2.2];simp!;rcases ep:Oo ks ws [.inl (w.1:Int),.inl (w.2.2:Int)] (.int<|Mp ((zsB bs cs).take i) w.1 w.2.2+n) with⟨ks',ws'⟩;let(l1,l2,g):=gB G.len ep;refine o8 D.new (F9 (show _<=60 by omega) ↥_) ep ?_;simp!;refine ae (_,rfl,_,_,_,_,ks',ws',rfl,D.put _,(l1,λa b=>?_),∅);rw[g,kN];by_cases q:(w.1:Int)=a/\(w.2.2:Int)=b
   rw[np (by rw[q.1,q.2]),np (rfl,q),q.1,q.2];rfl;rw[gV (λz=>q (by injection z with z1 z2;exact Sum.inl.inj z1,by injection z with z1 z2;injection z2 with z3 z4;exact Sum.inl.inj z3)),gV (λz=>q z.2),G6];exact G.get a b
 let(a,b,c,d,ks,ws,rfl,D,G,lk):=I;rw[p6 _ _ _ _ hc,<-uf hc,FW]at G;simp!;exact ae (_,ks,ws,rfl,D,G)
end
end
section
noncomputable def Lu:Nat->↑↑Int
 |0=>[[0]]
 |n+1=>Lu n++(Lu n).map (· ++[((n+1:Nat):Int)])
theorem c5:∀n,⇑(Lu n)=2^n|0=>rfl|n+1=>by rw[Lu,FH,Fv,c5 n,Nat.pow_succ];omega
theorem aQ:∀ {n:Nat}{s:↑Int},s∈Lu n->∃r,s=0::r/\r.Nodup/\⇑r<=n/\∀x∈r,1<=x/\x<=n
 |0,s,h=>by rw[Lu,FR]at h;exact([],h,Ha,Fw _,λx hx=>absurd hx FV)
 |n+1,s,h=>by
  rw[Lu]at h;rcases Gg.mp h with h|h
  let(r,e,nd,l,q):=aQ h;exact(r,e,nd,∅,λx hx=>by have:=q x hx;omega)
  .let(t,ht,rfl):=FY.mp h;let(r,rfl,nd,l,q):=aQ ht;refine(r++[((n+1:Nat):Int)],rfl,?_,by rw[FH];show ⇑r+1<=n+1;omega,λx hx=>?_);rw[Hk];refine(nd,⇑_,λa ha b hb=>?_);rw[FR.mp hb];have:=q a ha;omega
   .rcases Gg.mp hx with hx|hx
    have:=q x hx;omega;rw[FR.mp hx];omega
noncomputable def wo (r:↑Int)(p:Int):↑Int:=r.filter λx=>!decide (x=p)
def oA {p:Int}(h:p ∉r):wo r p=r:=by unfold wo;rw[List.filter_eq_self];intro a ha;have:a≠p:=λz=>h<|z▸ha;simp [this]
def PY {p x:Int}:x∈wo r p↔x∈r/\x≠p:=by unfold wo;rw[Hm];simp
def zZ {p:Int}(h:r.Nodup):(wo r p).Nodup:=h.filter _
theorem eY:∀ {r:↑Int}{p:Int},r.Nodup->p∈r->FO (p::wo r p) r
 |[],_,_,h=>absurd h FV
 |a::r,p,nd,h=>by
  let(n1,n2):=Gk.mp nd;by_cases e:a=p
  .subst e;have:wo (a::r) a=r:=by have:=oA n1;unfold wo at this ⊢;rw[List.filter_cons];simpa using this
   rw[this]
  .have h2:p∈r:=by
    rcases FC.mp h with h|h
    exact absurd h.symm e;exact h
   have:wo (a::r) p=a::wo r p:=by unfold wo;rw[List.filter_cons];simp [e]
   rw[this];exact (FO.swap a p _).trans<|FO.cons a<|eY n2 h2
def gD {p:Int}(nd:r.Nodup)(h:p∈r):⇑(wo r p)+1=⇑r:=by have:=(eY nd h).length_eq;rw[FA]at this;exact this
def oB (a b:↑Int)(p:Int):wo (a++b) p=wo a p++wo b p:=by unfold wo;rw[IW]
theorem eG:∀ {n i:Nat}{r:↑Int}{p:Int},(Lu n)[i]?=some (0::r)->p∈r->∃j,j<i/\(Lu n)[j]?=some (0::wo r p)
 |0,i,r,p,h,hp=>by
  rw[Lu]at h;have:=FK h;rw[FR]at this;injection this with _ e
  rw[e]at hp;exact absurd hp FV
 |n+1,i,r,p,h,hp=>by
  rw[Lu]at h ⊢;by_cases z:i<⇑(Lu n);rw[F2 z]at h;let(j,hj,e):=eG h hp;exact(j,hj,by rw[F2 ∅];exact e)
  .rw[Gz ∅,FB]at h;let(s,hs,e):=FE.mp h;let(r',rfl,nd,_,q):=aQ<|FK hs;have e:(0:Int)::(r'++[((n+1:Nat):Int)])=0::r:=e;injection e with _ e
   subst e;rcases Gg.mp hp with hp|hp
   .let(j,hj,e):=eG hs hp;refine(⇑(Lu n)+j,∅,?_)
    rw[Gz ∅,IG,FB,e,oB,oA (r:=[((n+1:Nat):Int)]) (p:=p) (by
     intro z;rw[FR]at z;have:=q p hp
     omega)]
    rfl
   .rw[FR]at hp;subst hp;have hn:((n+1:Nat):Int)∉r':=λz=>by have:=q _ z;omega
    refine(i-⇑(Lu n),by
     have:0<⇑(Lu n):=by rw[c5];exact Nat.two_pow_pos n
     omega,?_)
    have hi:=(FD.mp hs).1;rw[F2 hi,hs,oB,oA hn];have:wo [((n+1:Nat):Int)] ((n+1:Nat):Int)=[]:=by unfold wo;simp
    rw[this,F5]
theorem eI:∀n,0::PJ n∈Lu n|0=>FR.mpr rfl|n+1=>by rw[Lu];refine Gh _<|FY.mpr (0::PJ n,eI n,?_);rw[kr,show (1:Int)+(n:Int)=((n+1:Nat):Int) by omega];rfl
noncomputable def bst (f:Option (Int×↑Int))(c:Int×↑Int):Option (Int×↑Int):=match f with|none=>`c|some b=>if b.1<c.1 then `c else `b
noncomputable def tl (G:Int->Int->Int):Nat->Int->↑Int->Int×↑Int
 |0,_,_=>(0 ,[])
 |n+1,last,rest=>((rest.map λp=>(G last p+(tl G n p<|wo rest p).1 ,p::(tl G n p<|wo rest p).2)).foldl bst none).getD (0 ,[])
noncomputable def tT (G:Int->Int->Int)(last:Int)(rest:↑Int):Int×↑Int:=tl G ⇑rest last rest
noncomputable def LA (G:Int->Int->Int)(last:Int)(rest:↑Int)(p:Int):Int×↑Int:=(G last p+(tT G p<|wo rest p).1 ,p::(tT G p<|wo rest p).2)
def Aa (G:Int->Int->Int){last:Int}{rest:↑Int}(nd:rest.Nodup):tT G last rest=((rest.map<|LA G last rest).foldl bst none).getD (0 ,[]):=by
 unfold tT;cases e:⇑rest with
 |zero=>
  have:=Hu e;subst this;rfl
 |succ n=>
  rw[tl];congr 2;refine Go λp hp=>?_;have l:⇑(wo rest p)=n:=by have:=gD nd hp;omega
  unfold LA tT;rw[l]
noncomputable def tw (x:Int×↑Int):W:=.tup [.int x.1,.tup<|x.2.map W.int]
noncomputable def fW (x:Option (Int×↑Int)):W:=match x with|none=>.non|some x=>tw x
def Ms (l:↑Int):NU iOf (l.map W.int)=`l:=by have:=br (f:=iOf) (g:=W.int) (k:=λi=>i) (λa=>rfl) l;rw[this];simp
section
variable {β:Type}{h:↑Ob}{Q:β->↑Ob->Prop}{j:Nat}
def vW {p:Int}{k:W->M β}(e:h[j]?=some (.din false ks ws))(a:atK ks ws (p ,l)=`v)(q:Ok (k v) h Q):Ok (bd (MG (.loc j)<|.tup [.int p,.tup<|l.map W.int]) k) h Q:=by
 refine aq (a:=v) (h':=h) ?_ q;have e1:LU (.loc j) h=some (false ,ks,ws):=by unfold LU;simp only[e]
 have e2:MN false (.tup [.int p,.tup<|l.map W.int])=some (p ,l):=by show (NU iOf<|l.map W.int).map (λns=>(p ,ns))=_;rw[Ms];rfl
 unfold MG;simp only[e1,e2,a]
def Bz {p:Int}{k:Unit->M β}(e:h[j]?=some (.din false ks ws))(hz:⇑ks<sizeLine)(e2:Oo ks ws (p ,l) v=(ks' ,ws'))(r:Ok (k ()) (h.set j<|.din false ks' ws') Q):Ok (bd (gI (.loc j) (.tup [.int p,.tup<|l.map W.int]) v) k) h Q:=by
 refine aq (a:=()) (h':=h.set j<|.din false ks' ws') ?_ r;have e3:MN false (.tup [.int p,.tup<|l.map W.int])=some (p ,l):=by show (NU iOf<|l.map W.int).map (λns=>(p ,ns))=_;rw[Ms];rfl
 unfold gI;simp only[e,e3,np hz,e2]
def jr {b:Bool}{k:W->M β}(q:Ok (k<|.loc ⇑h) (h++[.din b [] []]) Q):Ok (bd (gU b ρ) k) h Q:=aq (a:=.loc ⇑h) (h':=h++[.din b [] []]) rfl q
end
def iL (r:↑Int)(p:Int)(hr:⇑r<=1000)(h:↑Ob):Ok (cY [.tup<|r.map W.int,.int p]) h λw h'=>w=.tup ((wo r p).map W.int)/\h'=h:=by
 have e0:cY [.tup<|r.map W.int,.int p]=bd (fq [some<|.tup<|r.map W.int,some<|.int p]) Mb:=rfl;rw[e0];unfold fq;have gl:∀ {α:Type} (q:M α),gd (⇑(r.map W.int)<=sizeLine) q=q:=λq=>ag (by rw[Fv];exact sz ∅);simp! only[aa,gl];refine nz (I:=λi a h'=>h'=h/\a=(wo (r.take i) p).map W.int) (rfl,rfl) (λJ J J J=>trivial) (λi w a h' hw I=>?_) λa h' I=>?_
 .let(rfl,rfl):=I;rw[FB]at hw;let(x,hx,rfl):=FE.mp hw;refine(_,rfl,?_);simp! only[List.replicate,F8,Ge,aa];rw[ao hx,oB];by_cases e:x=p
  .refine ae<|.inl (by simp [e],rfl,?_);have:wo [x] p=[]:=by unfold wo;simp [e]
   rw[this,F5]
  .refine ae<|.inr (by simp [e],ae (rfl,?_));have:wo [x] p=[x]:=by unfold wo;simp [e]
   rw[this,FF];rfl
 let(rfl,rfl):=I;rw[Fv,FW];simp! only[aa,gF];exact ae (rfl,rfl)
def pL (x:Int×↑Int):MB (tw x) .non=pr (.bl false):=rfl
def qW:MB .non .non=pr (.bl true):=rfl
def pJ (x:Int×↑Int):ixW (tw x) (.int 0)=pr (.int x.1):=ix0 ..
def lT (x:Int×↑Int):ixW (tw x) (.int 1)=pr (.tup<|x.2.map W.int):=ix1 ..
theorem oH (G:Int->Int->Int):∀ (n:Nat) (last:Int) (rest:↑Int),(tl G n last rest).2.length<=n
 |0,_,_=>Fw _
 |n+1,last,rest=>by
  rw[tl];have:∀ (l:↑(Int×↑Int)) (f:Option (Int×↑Int)),(∀c∈l ,⇑c.2<=n+1)->(∀c ,f=`c->⇑c.2<=n+1)->((l.foldl bst f).getD (0 ,[])).2.length<=n+1:=by
   intro l
   induction l with
   |nil=>
    intro f _ hf;cases f with|none=>exact FU _|some c=>exact hf c rfl
   |cons c l ih=>
    intro f hl hf;rw[GA];refine ih _ (λd hd=>hl d<|FX _ hd) λd hd=>?_;unfold bst at hd;cases f with
    |none=>cases hd;exact hl _ FQ
    |some b=>
     dsimp only at hd;split at hd;cases hd;exact hl _ FQ;cases hd;exact hf _ rfl
  refine this _ _ (λc hc=>?_) λc hc=>by cases hc
  let(p,_,rfl):=FY.mp hc;have:=oH G n p<|wo rest p;show (tl G n p<|wo rest p).2.length+1<=n+1;omega
def xT {jg jt:Nat}{G:Int->Int->Int}{last:Int}{rest:↑Int}(eg:h[jg]?=some (.dit gk gw))(GG:GK gk gw G)(et:h[jt]?=some (.din false ks ws))(nd:rest.Nodup)(hr:⇑rest<=50)
  (ha:∀p∈rest ,atK ks ws (p ,wo rest p)=some (tw<|tT G p<|wo rest p)):Ok (dw [.int last,.tup<|rest.map W.int,.loc jg,.loc jt]) h λw h'=>w=tw (tT G last rest)/\h'=h:=by
 have e0:dw [.int last,.tup<|rest.map W.int,.loc jg,.loc jt]=bd (dm [some<|.int last,some<|.tup<|rest.map W.int,some<|.loc jg,some<|.loc jt,none,none,none,none]) Mb:=rfl;rw[e0];unfold dm;simp!;refine bF (I:=λi ρ h'=>∃a b c ,ρ=[some<|.int last,some<|.tup<|rest.map W.int,some<|.loc jg,some<|.loc jt,some<|fW<|((rest.take i).map<|LA G last rest).foldl bst none,a,b,c]/\h'=h) (_,_,_,rfl,rfl) (λJ J J J=>trivial) (λi w ρ h1 hw I=>?_) λρ h1 I=>?_
 .let(a,b,c,rfl,rfl):=I;rw[FB]at hw;let(p,hp,rfl):=FE.mp hw;have pm:=FK hp;refine([some<|.int last,some<|.tup<|rest.map W.int,some<|.loc jg,some<|.loc jt,some<|fW<|((rest.take i).map<|LA G last rest).foldl bst none,some<|.int p,b,c],rfl,?_);have ec:(((rest.take<|i+1).map<|LA G last rest).foldl bst none)=bst (((rest.take i).map<|LA G last rest).foldl bst none) (LA G last rest p):=by rw[ao hp,FF,IX];rfl
  rw[ec];generalize (((rest.take i).map<|LA G last rest).foldl bst none)=F;simp!;refine ap (iL rest p ∅ h1) λw h2 qq_=>?_;let(ew,e2):=qq_;subst ew e2;simp! only[aa,PF];refine vW et (ha p pm) ?_;have lt:(tT G p<|wo rest p).2.length<=50:=by have:=oH G ⇑(wo rest p) p<|wo rest p;have l:=gD nd pm;unfold tT;omega
  have hc:LA G last rest p=(G last p+(tT G p<|wo rest p).1 ,p::(tT G p<|wo rest p).2):=rfl;generalize tT G p (wo rest p)=T at*;simp! only[aa,Nl,PF];refine iw eg ?_;simp! only[aa,PF];refine aq (iC eg rfl) ?_;rw[GG.get last p];have ea:Lo (.tup [.int p]) (.tup<|T.2.map W.int)=pr (.tup<|(p::T.2).map W.int):=addT _ [] _ (by rw[Fv];show 0+T.2.length<=100;omega);cases F with
  |none=>
   simp! only[aa,pJ,lT,qW,fW,PF,ea];exact ae (_,rfl,_,_,_,by rw[hc];rfl,rfl)
  |some f=>
   by_cases q:f.1<G last p+T.1;simp! only[aa,pJ,lT,pL,fW,CF q,PF,ea];exact ae (_,rfl,_,_,_,by rw[hc];unfold bst;simp only[np q];rfl,rfl);simp! only[aa,pJ,lT,pL,fW,s0 q,PF,ea];exact ae (_,rfl,_,_,_,by rw[hc];unfold bst;simp only[gV q];rfl,rfl)
 .let(a,b,c,rfl,rfl):=I;rw[Fv,FW];rw[Aa G nd];cases ((rest.map<|LA G last rest).foldl bst none) with
  |none=>
   simp! only[aa,qW,fW,PF];exact ae (rfl,rfl)
  |some f=>
   simp! only[aa,pL,fW,PF];exact ae (rfl,rfl)
noncomputable def O7 (s:↑Int):W:=.tup<|s.map W.int
def ql {N:Int}{m:Nat}(hN:N=(m:Int))(m1:1<=m)(m2:m<=10)(h:↑Ob):Ok (cz [.int N]) h λw h'=>w=.tl ((Lu<|m-1).map O7)/\h'=h:=by
 have e0:cz [.int N]=bd (cX [some<|.int N,none,none]) Mb:=rfl;rw[e0];unfold cX;simp! only[aa,PF,uW (show (-(2^62):Int)<=1 by decide) (show (1:Int)<2^62 by decide) (show (-(2^62):Int)<=N by omega)<|show N<2^62 by omega];have eN:(N-1).toNat=m-1:=∅;refine bF (I:=λi ρ h'=>∃a ,ρ=[some<|.int N,some<|.tl<|(Lu i).map O7,a]/\h'=h) (_,rfl,rfl) (λJ J J J=>trivial) (λi w ρ h1 hw I=>?_) λρ h1 I=>?_
 .let(a,rfl,rfl):=I;let(rfl,hi):=dG _ _ _ _ hw;rw[eN]at hi;have bl:⇑(Lu i)<=512:=by rw[c5];exact G4 ↥_ (show i<=9 by omega)
  refine(_,rfl,?_);have gl:∀ {α:Type} (q:M α),gd (⇑((Lu i).map O7)<=sizeLine) q=q:=λq=>ag (by rw[Fv];exact sz ∅);simp! only[aa,gl];refine bY (I:=λk a h'=>h'=h1/\a=(((Lu i).take k).map (· ++[((i+1:Nat):Int)])).map O7) (rfl,rfl) cQ (λJ J J J=>trivial) (λk w a h' hw I=>?_) λa h' I=>?_
  .let(rfl,rfl):=I;rw[FB]at hw;let(s,hs,rfl):=FE.mp hw;let(r,rfl,_,lr,_):=aQ<|FK hs;refine(_,rfl,?_);have ea:Lo (O7 (0::r)) (.tup [.int<|1+(i:Int)])=pr (O7 (0::r++[((i+1:Nat):Int)])):=by show Lo (.tup (.int 0::r.map W.int)) (.tup [.int<|1+(i:Int)])=_;rw[addT _ _ _<|by rw[Fv];show ⇑r+1<=100;omega];unfold O7;rw[FF,Fz];have:(1:Int)+(i:Int)=((i+1:Nat):Int):=∅;rw[this];rfl
   simp! only[List.replicate,F8,Ge,aa,PF];rw[ea];refine ae (rfl,?_);rw[ao hs,FF,FF];rfl
  let(rfl,rfl):=I;rw[Fv,FW];simp! only[aa,zW _ _ (show ⇑((Lu i).map O7)+⇑(((Lu i).map (· ++[((i+1:Nat):Int)])).map O7)<=sizeLine by rw[Fv,Fv,Fv];exact sz ∅)];refine ae (_,rfl,some<|.int<|1+(i:Int),?_,rfl);rw[Lu,FF]
 let(a,rfl,rfl):=I;rw[cu,eN];simp!;exact ae (rfl,rfl)
def pf (x:Int)(r:↑Int):gS (.int x) (.tup<|r.map W.int)=pr (.bl<|!decide (x∈r)):=by
 funext h;unfold gS;have e:inB (.int x) (.tup<|r.map W.int) h=some (decide<|x∈r):=by
  show (match vOf (.int x) ,PQ (r.map W.int) with
   |some v,some vs=>some (inV v vs)
   |_,_=>none)=_
  rw[fT (k:=V.int)<|λa=>rfl];show some (inV (.int x)<|r.map V.int)=_;congr 1;unfold inV;rw[Gv,G1,decide_eq_true_eq];constructor
  .rintro⟨v,hv,q⟩
   let(y,hy,rfl):=FY.mp hv;have:y=x:=by simpa [eqV] using q
   subst this;exact hy
  intro q;exact(.int x,FY.mpr (x,q,rfl),by simp [eqV])
 rw[e];rfl
def Pf {os:↑Int}(h:1<=⇑os):slW (.tup<|os.map W.int) (some 1) none=pr (.tup<|os.tail.map W.int):=by
 show gd (¬(HT.sIx ⇑(os.map W.int) 0 (some 1)=0/\HT.sIx ⇑(os.map W.int) ⇑(os.map W.int) none=⇑(os.map W.int))) (pr<|W.tup<|LM (os.map W.int) (some 1) none)=_;have s1:HT.sIx ⇑(os.map W.int) 0 (some 1)=1:=by show (if (1:Int)<0 then ((1:Int)+(⇑(os.map W.int):Int)).toNat else min (1:Int).toNat ⇑(os.map W.int))=1;rw[gV ↥_,Fv];show min 1 ⇑os=1;omega
 rw[ag<|by rw[s1];omega];congr 2;unfold LM;rw[s1,show HT.sIx ⇑(os.map W.int) ⇑(os.map W.int) none=⇑(os.map W.int) from rfl];cases os with
 |nil=>rfl
 |cons a os=>
  rw[Fz,List.drop_one,GT,GT,FA,Hi,FW]
structure TK (G:Int->Int->Int)(m i l:Nat)(ks:↑PKy)(ws:↑W):Prop where
 len:⇑ks=⇑ws
 sz:⇑ks<=i*10+l
 get:∀j r (x:Int),(Lu<|m-1)[j]?=some (0::r)->0<=x->x ∉r->(j<i/\x<m\/j=i/\x<l)->atK ks ws (x ,r)=some (tw<|tT G x r)
def zR {bs:↑Bl}{cs:↑Int}{m:Nat}(PG:PgG ps bs)(PA:PgAt h x ps bs)(hm:⇑bs=m)(m1:1<=m)(m2:m<=10)(hc:⇑(wyB bs)=⇑cs):
  Ok (jM [x,.tl<|cs.map W.int]) h λw h'=>w=.tup ((0::(tT (Mp<|zsB bs cs) 0<|PJ<|m-1).2).map W.int)/\Nw h h':=by
 have e0:jM [x,.tl<|cs.map W.int]=bd (l8 [some x,some<|.tl<|cs.map W.int,none,none,none,none,none,none]) Mb:=rfl;rw[e0];unfold l8;obtain⟨N,hN⟩:∃N:Int,N=(m:Int):=(_,rfl)
 let(bx,bl,ex,_,ls,LL,ll,_):=PA.bl;have hp:ixW x (.int 1)=pr bl:=by rw[ex];exact ix1 _ _ _
 clear ex;simp! only[aa,hp];refine Lw.len_eq LL (N:=N) (by rw[ll,hm];exact hN) ?_;simp!;refine ap (gh PG PA hc) λw h1 qq_=>?_;let(jg,gk,gw,ew,D,GG):=qq_;subst ew;generalize Mp (zsB bs cs)=G at*;simp!;refine jr ?_;simp!;refine ap (ql hN m1 m2 _) λw h2 qq_=>?_;let(ew,e2):=qq_;subst ew e2;have jgl:jg<⇑h1:=bm D.new;have eNn:N.toNat=m:=∅;have sl1:∀r:↑Int,slW (O7 (0::r)) (some 1) none=pr (.tup<|r.map W.int):=λr=>Pf (os:=0::r) ⇑_;simp! only[aa,cD];refine bF (I:=λi ρ h'=>∃a b c ks ws ,ρ=[some x,some<|.tl<|cs.map W.int,some<|.int N,some<|.loc jg,some<|.loc ⇑h1,a,b,c]/\Nf h1 h' (.din false ks ws)/\TK G m i 0 ks ws) (_,_,_,[],[],rfl,Nf.mk0,(rfl,FU _,λj r x J J J q=>∅)) (λJ J J J=>trivial) (λi w ρ h2 hw I=>?_) λρ h2 I=>?_
 .let(a,b,c,ks,ws,rfl,N2,T):=I;rw[FB]at hw;let(s,hs,rfl):=FE.mp hw;let(r,rfl,nd,lr,qr):=aQ<|FK hs;have hi:i<512:=by have:=(FD.mp hs).1;rw[c5]at this;exact FT this (G4 ↥_ (show m-1<=9 by omega))
  refine(_,rfl,?_);simp! only[aa,sl1,i6 (show (-(2^62):Int)<=N by omega)<|show N<2^62 by omega];refine iy (I:=λl ρ h'=>∃c ks ws ,ρ=[some x,some<|.tl<|cs.map W.int,some<|.int N,some<|.loc jg,some<|.loc ⇑h1,some<|O7 (0::r),some<|.tup<|r.map W.int,c]/\Nf h1 h' (.din false ks ws)/\TK G m i l ks ws) (_,ks,ws,rfl,N2,T) (λJ J J J=>trivial) (λl w ρ h3 hw I=>?_) λρ h3 I=>?_
  .let(c,ks,ws,rfl,N3,T3):=I;let(rfl,hl):=dG _ _ _ _ hw;rw[eNn]at hl;refine(_,rfl,?_);rw[G5];simp! only[aa,pf];by_cases q:(l:Int)∈r
   .simp! only[aa,CF q];refine ae (_,rfl,_,ks,ws,rfl,N3,T3.len,Ir T3.sz,λj r' x e x0 xn z=>?_);rcases z with z|⟨rfl,z⟩
    exact T3.get j r' x e x0 xn<|.inl z
    .refine T3.get j r' x e x0 xn<|.inr (rfl,?_);rw[hs]at e;have:r'=r:=by injection e with e;injection e with _ e;exact e.symm
     subst this;have:x≠l:=λy=>xn<|y▸q;omega
   .simp! only[aa,s0 q];have ha:∀p∈r,atK ks ws (p ,wo r p)=some (tw<|tT G p<|wo r p):=λp hp=>by let(j,hj,ej):=eG hs hp;have:=qr p hp;exact T3.get j (wo r p) p ej ∅ (λz=>(PY.mp z).2 rfl) (.inl (hj,∅))
    refine ap (xT (jg:=jg) (jt:=⇑h1) (last:=(l:Int)) (N3.get D.new) GG N3.new nd ∅ ha) λw h4 qq_=>?_;let(ew,e4):=qq_;subst ew e4;simp! only[aa,PF];rcases ep:Oo ks ws ((l:Int) ,r) (tw<|tT G l r) with⟨ks',ws'⟩;let(l1,l2,g):=gB T3.len ep;have kz:=T3.sz;refine Bz N3.new (F9 (show _<=6000 by omega) ↥_) ep ?_;simp!;refine ae (_,rfl,_,ks',ws',rfl,N3.put _,l1,∅,λj r' x e x0 xn z=>?_);rw[g];by_cases y:((l:Int) ,r)=(x ,r')
    .rw[np y];injection y with y1 y2
     rw[y1,y2]
    .rw[gV y];rcases z with z|⟨rfl,z⟩
     exact T3.get j r' x e x0 xn<|.inl z
     .refine T3.get j r' x e x0 xn<|.inr (rfl,?_);rw[hs]at e;have:r'=r:=by injection e with e;injection e with _ e;exact e.symm
      subst this;have:x≠l:=λz=>y (by rw[z]);omega
  .let(c,ks,ws,rfl,N3,T3):=I;rw[cu,eNn]at T3;refine(_,rfl,_,_,_,ks,ws,rfl,N3,T3.len,by have:=T3.sz;omega,λj r' x e x0 xn z=>?_);have:j<i+1/\x<m:=by
    rcases z with z|⟨_,z⟩
    exact z;omega
   refine T3.get j r' x e x0 xn ?_;omega
 .let(a,b,c,ks,ws,rfl,N2,T):=I;have etr:trW [.int 1,.int N]=pr (.tup<|(PJ<|m-1).map W.int):=by show gd ((-(2^62)<=(1:Int)/\(1:Int)<2^62/\ -(2^62)<=N/\N<2^62)/\(N-1).toNat<=sizeLine) (pr<|W.tup<|My 1 (N-1).toNat)=_;rw[ag ((↥_,↥_,∅,∅),sz ∅),show (N-1).toNat=m-1 by omega,jH]
  simp! only[aa,PF,etr];let(i,hi):=Hg<|eI<|m-1;have il:=(FD.mp hi).1;refine vW N2.new (T.get i (PJ<|m-1) 0 hi (GD _) (λz=>by have:=PK.mp z;omega)<|.inl (by rw[Fv];exact il,∅)) ?_;have lt:(tT G 0<|PJ<|m-1).2.length<=50:=by have:=oH G ⇑(PJ<|m-1) 0<|PJ<|m-1;rw[bQ]at this;unfold tT;rw[bQ];omega
  have ea:Lo (.tup [.int 0]) (.tup<|(tT G 0<|PJ<|m-1).2.map W.int)=pr (.tup<|(0::(tT G 0<|PJ<|m-1).2).map W.int):=addT _ [] _ (by rw[Fv];show 0+_<=100;omega);simp! only[aa,lT,ea];exact ae (rfl,D.nw.trans N2.nw)
end
section
noncomputable def Of (ss:↑↑Int):↑PKy:=ss.flatMap λs=>s.tail.map λl=>(l ,s)
abbrev kf:PKy:=(0 ,[0])
noncomputable def prs (n:Nat):↑PKy:=kf::Of (Lu n)
noncomputable def M5 (s:↑Int):↑Int:=if s=[0] then s else s.tail
def Og {ss:↑↑Int}:k∈Of ss↔k.2∈ss/\k.1∈k.2.tail:=by
 unfold Of;rw[List.mem_flatMap];constructor
 .rintro⟨s,hs,h⟩
  let(l,hl,rfl):=FY.mp h;exact(hs,hl)
 .rintro⟨h1,h2⟩
  exact(k.2,h1,FY.mpr (k.1,h2,rfl))
structure SK (k:PKy):Prop where
 z:k.2=0::k.2.tail
 le:⇑k.2<=10
 l1:1<=k.1
 len:⇑(wo k.2 k.1)+1=⇑k.2
 wz:wo k.2 k.1=0::(wo k.2 k.1).tail
 w1:∀p∈(wo k.2 k.1).tail,1<=p
def qe {n:Nat}{l:Int}(h:s∈Lu n)(hl:l∈s.tail):∃r,s=0::r/\r.Nodup/\⇑r<=n/\l∈r/\1<=l/\wo s l=0::wo r l/\∀x∈r,1<=x/\x<=n:=by let(r,rfl,nd,le,q):=aQ h;have hl:l∈r:=hl;have l1:=(q l hl).1;refine(r,rfl,nd,le,hl,l1,?_,q);unfold wo;rw[IH<|by simp;omega]
def uF {n:Nat}(hn:n<=9)(h:k∈prs n)(hk:k≠kf):SK k:=by
 rcases FC.mp h with h|h
 exact absurd h hk
 let(h1,h2):=Og.mp h;let(r,e,nd,le,hl,l1,ew,q):=qe h1 h2;have wl:=gD nd hl;refine(by rw[e];rfl,by rw[e,FA];omega,l1,by rw[ew,e,FA,FA];omega,by rw[ew];rfl,λp hp=>?_);rw[ew]at hp;exact (q p (PY.mp hp).1).1
def lK {α β:Type}{f:α->β}(inj:∀a b ,f a=f b->a=b){l:↑α}(h:l.Nodup):(l.map f).Nodup:=IY.mpr (h.imp λne e=>ne<|inj _ _ e)
theorem jV:∀n,(Lu n).Nodup
 |0=>by rw[Lu];simp
 |n+1=>by
  rw[Lu,Hk];refine(jV n,lK (λa b h=>by simpa using h)<|jV n,λa ha b hb e=>?_);let(c,hc,rfl):=FY.mp hb;let(r,e1,_,_,q):=aQ ha;have:((n+1:Nat):Int)∈r:=by
   have h:((n+1:Nat):Int)∈a:=by rw[e];simp
   rw[e1]at h;rcases FC.mp h with h|h
   omega;exact h
  have:=q _ this;omega
theorem qC:∀ {ss:↑↑Int},ss.Nodup->(∀s∈ss ,s.tail.Nodup)->(Of ss).Nodup|[],_,_=>Ha|s::ss,nd,h=>by let(n1,n2):=Gk.mp nd;have ih:=qC n2 λt ht=>h t<|FX _ ht;unfold Of at ih ⊢;rw[HC,Hk];refine(lK (λa b e=>by injection e)<|h s FQ,ih,λa ha b hb e=>?_);let(l,_,rfl):=FY.mp ha;rw[<-e]at hb;exact n1 (Og.mp hb).1
def A7 (n:Nat):(prs n).Nodup:=by
 unfold prs;refine Gk.mpr (λz=>?_,qC (jV n) λs hs=>?_);let(h1,h2):=Og.mp z;exact absurd h2 FV;let(r,rfl,nd,_):=aQ hs;exact nd
theorem m9 {c:Nat}:∀ {ss:↑↑Int},(∀s∈ss ,⇑s.tail<=c)->⇑(Of ss)<=⇑ss*c|[],_=>FU _|s::ss,h=>by have ih:=m9 (ss:=ss) λt ht=>h t<|FX _ ht;have:=h s FQ;unfold Of at ih ⊢;rw[HC,FH,Fv,FA,Nat.succ_mul];omega
def iu {n:Nat}(hn:n<=9):⇑(prs n)<=4609:=by
 unfold prs;have h1:=m9 (c:=9) (ss:=Lu n) λs hs=>by let(r,rfl,_,le,_):=aQ hs;exact F1 le hn
 rw[c5]at h1;have h2:2^n<=2^9:=G4 ↥_ hn;rw[FA];omega
theorem qD:∀ {ss:↑↑Int}{i:Nat}{k:PKy},(Of ss)[i]?=`k->∃j,ss[j]?=some k.2/\∀q∈Of (ss.take j),q∈(Of ss).take i
 |[],i,k,h=>by simp [Of]at h
 |s::ss,i,k,h=>by
  have e:Of (s::ss)=(s.tail.map λl=>(l ,s))++Of ss:=by unfold Of;rw[HC]
  rw[e]at h ⊢;by_cases z:i<⇑(s.tail.map λl=>((l ,s):PKy));rw[F2 z]at h;have:=FK h;let(l,_,rfl):=FY.mp this;exact(0,rfl,λq hq=>absurd hq<|by simp [Of])
  .rw[Gz ∅]at h;let(j,h1,h2):=qD h;refine(j+1,h1,λq hq=>?_);rw[IZ]at hq;have e2:Of (s::ss.take j)=(s.tail.map λl=>(l ,s))++Of (ss.take j):=by unfold Of;rw[HC]
   rw[e2]at hq;rw[List.take_append,Hs ∅];rcases Gg.mp hq with hq|hq
   exact Hn _ hq;exact Gh _<|h2 q hq
def m8 {n i:Nat}(h:(prs n)[i]?=`k)(hk:k≠kf):∀p∈M5 (wo k.2 k.1),(p ,wo k.2 k.1)∈(prs n).take i:=λp hp=>by
 unfold prs at h ⊢;cases i with
 |zero=>cases h;exact absurd rfl hk
 |succ i=>
  rw[Gn]at h;rw[IZ];let(h1,h2):=Og.mp<|FK h;let(r,e,nd,le,hl,l1,ew,q):=qe h1 h2;unfold M5 at hp;by_cases z:wo k.2 k.1=[0];rw[np z,z]at hp;rw[FR.mp hp,z];exact FQ
  .rw[gV z,ew]at hp;have hp:p∈wo r k.1:=hp;let(j,hj,hin):=qD h;rw[e]at hj;let(j',lt,hj'):=eG hj hl;refine FX _ (hin _<|Og.mpr (?_,?_))
   .show wo k.2 k.1∈_;rw[ew];have:((Lu n).take j)[j']?=some (0::wo r k.1):=by rw[Ia lt];exact hj'
    exact FK this
   show p∈(wo k.2 k.1).tail;rw[ew];exact hp
def vg {n:Nat}(h:k∈prs n)(hk:k≠kf):∀p∈M5 (wo k.2 k.1),(p ,wo k.2 k.1)∈prs n:=λp hp=>by let(i,hi):=Hg h;exact IQ<|m8 hi hk p hp
noncomputable def M8 (G:Int->Int->Int)(F:PKy->Int)(k:PKy):Int:=NB ((M5<|wo k.2 k.1).map λp=>F (p ,wo k.2 k.1)+G p k.1)
noncomputable def nu (G:Int->Int->Int)(S:PKy->Int):Nat->PKy->Int|0,k=>S k|n+1,k=>M8 G (nu G S n) k+S k
noncomputable def Fn (G:Int->Int->Int)(S:PKy->Int)(k:PKy):Int:=nu G S (⇑k.2-1) k
def At (G:Int->Int->Int)(S:PKy->Int)(c:SK k):Fn G S k=M8 G (Fn G S) k+S k:=by
 have h1:=c.len;have h2:⇑(wo k.2 k.1)≠0:=by rw[c.wz];simp
 obtain⟨n,hn⟩:∃n,⇑(wo k.2 k.1)=n+1:=(_,(Nat.succ_pred_eq_of_ne_zero h2).symm)
 unfold Fn;rw[show ⇑k.2-1=n+1 by omega,nu];congr 1;unfold M8;congr 1;refine Go λp J=>?_;show nu G S n (p ,wo k.2 k.1)+_=nu G S (⇑(wo k.2 k.1)-1) (p ,wo k.2 k.1)+_;rw[hn];rfl
set_option tactic.hygienic true in
def qL (c:SK k):M5 (wo k.2 k.1)≠ []:=by
 unfold M5;split;rw[c.wz];simp;rename_i h;intro z;exact h (by rw[c.wz,z])
def pG {G:Int->Int->Int}{F F':PKy->Int}(h:∀p∈M5 (wo k.2 k.1) ,F (p ,wo k.2 k.1)=F' (p ,wo k.2 k.1)):M8 G F k=M8 G F' k:=by unfold M8;congr 1;exact Go λp hp=>by rw[h p hp]
end
section
def pI (p:Int)(l:↑Int):MN true (.tup [.tup<|l.map W.int,.int p])=some (p ,l):=by show (NU iOf<|l.map W.int).map (λns=>(p ,ns))=_;rw[Ms];rfl
section
variable {β:Type}{h:↑Ob}{Q:β->↑Ob->Prop}{j:Nat}
def vV {p:Int}{k:W->M β}(e:LU x h=some (true ,ks,ws))(a:atK ks ws (p ,l)=`v)(q:Ok (k v) h Q):Ok (bd (MG x<|.tup [.tup<|l.map W.int,.int p]) k) h Q:=by refine aq (a:=v) (h':=h) ?_ q;unfold MG;simp only[e,pI,a]
def vR {p:Int}{k:Unit->M β}(e:h[j]?=some (.din true ks ws))(hz:⇑ks<sizeLine)(e2:Oo ks ws (p ,l) v=(ks' ,ws'))(r:Ok (k ()) (h.set j<|.din true ks' ws') Q):Ok (bd (gI (.loc j) (.tup [.tup<|l.map W.int,.int p]) v) k) h Q:=by refine aq (a:=()) (h':=h.set j<|.din true ks' ws') ?_ r;unfold gI;simp only[e,pI,np hz,e2]
def mh (e:h[j]?=some (.din true ks ws)):LU (.loc j) h=some (true ,ks,ws):=by unfold LU;simp only[e]
end
def nY (a b:↑Int):KC.eqvAll (a.map KC.int) (b.map KC.int)=decide (a=b):=by
 induction a generalizing b with
 |nil=>
  cases b with|nil=>rw[GB,KC.eqvAll];rfl|cons y b=>rw[GB,Fz,KC.eqvAll]<;>simp
 |cons x a ih=>
  cases b with
  |nil=>rw[GB,Fz,KC.eqvAll]<;>simp
  |cons y b=>
   rw[Fz,Fz,KC.eqvAll,ih,KC.eqv];rw[Gv];simp
def jS (a:↑Int):(KC.tuple<|a.map KC.int).canLay0=true:=by rw[KC.canLay0];exact mj a λz hz=>by rw[KC.canLay0]
def EA (a b:↑Int)(h:↑Ob):eqB (.tup<|a.map W.int) (.tup<|b.map W.int) h=some (decide<|a=b):=by
 have o1:∀a:↑Int,LQ h 50 (.tup<|a.map W.int)=some (.tuple<|a.map KC.int):=λa=>by show (NU (LQ h 49)<|a.map W.int).map KC.tuple=_;rw[br (f:=LQ h 49) (g:=W.int) (k:=KC.int) (λa=>rfl) a];rfl
 show (match LQ h 50 (.tup<|a.map W.int) ,LQ h 50 (.tup<|b.map W.int) with
  |some d,some e=>if d.canLay0=true/\e.canLay0=true then some (KC.eqv d e) else none
  |_,_=>none)=_
 rw[o1,o1];dsimp only;rw[np (jS a,jS b),KC.eqv,nY]
def eqT (a b:↑Int):eqW (.tup<|a.map W.int) (.tup<|b.map W.int)=pr (.bl<|decide<|a=b):=ma<|EA a b
def eqK (k q:PKy):eqW (.tup [.tup<|k.2.map W.int,.int k.1]) (.tup [.tup<|q.2.map W.int,.int q.1])=pr (.bl<|decide<|k=q):=ma λh=>by
 have o1:∀k:PKy,LQ h 50 (.tup [.tup<|k.2.map W.int,.int k.1])=some (.tuple [.tuple<|k.2.map KC.int,.int k.1]):=λk=>by
  show (NU (LQ h 49) [.tup<|k.2.map W.int,.int k.1]).map KC.tuple=_;have o2:LQ h 49 (.tup<|k.2.map W.int)=some (.tuple<|k.2.map KC.int):=by show (NU (LQ h 48)<|k.2.map W.int).map KC.tuple=_;rw[br (f:=LQ h 48) (g:=W.int) (k:=KC.int) (λa=>rfl) k.2];rfl
  unfold NU;rw[o2];rfl
 have c1:∀k:PKy,(KC.tuple [.tuple<|k.2.map KC.int,.int k.1]).canLay0=true:=λk=>by rw[KC.canLay0,KC.canLayAll0,jS,KC.canLayAll0,KC.canLay0,KC.canLayAll0];rfl
 show (match LQ h 50 (.tup [.tup<|k.2.map W.int,.int k.1]) ,LQ h 50 (.tup [.tup<|q.2.map W.int,.int q.1]) with
  |some d,some e=>if d.canLay0=true/\e.canLay0=true then some (KC.eqv d e) else none
  |_,_=>none)=_
 rw[o1,o1];dsimp only;rw[np (c1 k,c1 q),KC.eqv,KC.eqvAll,KC.eqv,nY,KC.eqvAll,KC.eqv,KC.eqvAll];congr 1;rw[Gv];simp only[Gd,decide_eq_true_eq,Prod.ext_iff,beq_iff_eq,and_true];exact(λz=>(z.2,z.1),λz=>(z.2,z.1))
def rf (h:l≠ []):L9 NB [.tl<|l.map W.int]=pr (.int<|NB l):=by
 show bd (Na<|.tl<|l.map W.int) (λl=>match NU iOf l with
  |some ns=>gd (ns≠ []) (pr<|W.int<|NB ns)
  |none=>no)=_
 rw[bp,au,Ms];exact ag h
noncomputable def bLn:KU->M Fl:=(OW<|Ng (L9 NB)<|Ni (mTl<|Nh [] (Nu (Ny 5) Pn) (tgN 0) Nz (m2 Lo (m2 MG (Ny 4)<|Nx<|Ni (Ny 6)<|Ni (Ny 0) Nq)<|Nl (Ny 5) (Nx<|Ni (Ny 0)<|Ni (Ny 3) Nq) ⇑0) 2) Nq)
def fN:be=(OY (sIf (mB<|m2 eqW (Nx<|Ni (Ny 0)<|Ni (Ny 1) Nq)<|mC<|MQ true (0 ,[0])) (OW ⇑0) OV)<|OY (OZ 4<|Ng (arW 2 cY)<|Ni (Ny 0)<|Ni (Ny 1) Nq)<|OY (OZ 5<|mIf (mB<|m2 eqW (Ny 4)<|Nx<|Ni ⇑0 Nq) (Ny 4)<|m3 slW (Ny 4) (Nt ⇑1) aj) bLn):=rfl
section
variable {h:↑Ob}{jg:Nat}{gk:↑↑Key}{gw:↑W}{G:Int->Int->Int}{X:W}{ks:↑PKy}{ws:↑W}{F:PKy->Int}{k:PKy}
def wx (c:SK k):⇑(M5<|wo k.2 k.1)<=10:=by
 have h1:=c.len;have h2:=c.le;unfold M5;split;omega;rw[List.length_tail];omega
def xC (eL:L=M5 (wo k.2 k.1))(eg:h[jg]?=some (.dit gk gw))(GG:GK gk gw G)(ed:LU X h=some (true ,ks,ws))(c:SK k)
  (ha:∀p∈M5 (wo k.2 k.1) ,atK ks ws (p ,wo k.2 k.1)=some (.int<|F (p ,wo k.2 k.1))):Ok (bLn [x,some<|.int k.1,some X,some<|.loc jg,some<|.tup<|(wo k.2 k.1).map W.int,some<|.tup<|L.map W.int]) h λx h'=>x=.rt (.int<|M8 G F k)/\h'=h:=by
 unfold bLn
 have gl:∀ {α:Type} (q:M α),gd (⇑(L.map W.int)<=sizeLine) q=q:=λq=>ag (by
  rw[Fv,eL];have:=wx c
  exact sz ∅)
 simp! only[aa,gl];refine bY (I:=λi a h'=>h'=h/\a=((L.take i).map λp=>F (p ,wo k.2 k.1)+G p k.1).map W.int) (rfl,rfl) cQ (λJ J J J=>trivial) (λi w a h' hw I=>?_) λa h' I=>?_;let(rfl,rfl):=I;rw[FB]at hw;let(p,hp,rfl):=FE.mp hw;have pm:=FK hp;rw[eL]at pm;refine(_,rfl,?_);simp! only[List.replicate,F8,Ge,aa,PF];refine vV ed (ha p pm) ?_;simp! only[aa,Nl,PF];refine iw eg ?_;simp! only[aa,PF];refine aq (iC eg rfl) ?_;rw[GG.get p k.1];simp!;refine ae (rfl,?_);rw[ao hp,FF,FF];rfl;let(rfl,rfl):=I;rw[Fv,FW];simp! only[aa,rf<|show L.map (λp=>F (p ,wo k.2 k.1)+G p k.1)≠ [] by rw[eL];exact λz=>qL c<|HV.mp z];refine ae (?_,rfl);rw[eL];rfl
def wC (eg:h[jg]?=some (.dit gk gw))(GG:GK gk gw G)(ed:LU X h=some (true ,ks,ws))(c:SK k)
  (ha:∀p∈M5 (wo k.2 k.1) ,atK ks ws (p ,wo k.2 k.1)=some (.int<|F (p ,wo k.2 k.1))):Ok (aE [.tup<|k.2.map W.int,.int k.1,X,.loc jg]) h λw h'=>w=.int (M8 G F k)/\h'=h:=by
 have e0:aE [.tup<|k.2.map W.int,.int k.1,X,.loc jg]=bd (be [some<|.tup<|k.2.map W.int,some<|.int k.1,some X,some<|.loc jg,none,none]) Mb:=rfl;rw[e0,fN];have hk:k≠kf:=λz=>by have:=c.l1;rw[z]at this;exact absurd this ↥_
 have ef:eqW (.tup [.tup<|k.2.map W.int,.int k.1]) (MQ true (0 ,[0]))=pr (.bl false):=by show eqW (.tup [.tup<|k.2.map W.int,.int k.1]) (.tup [.tup<|kf.2.map W.int,.int kf.1])=_;rw[eqK,s0 hk]
 simp! only[aa,PF,ef];refine ap (iL k.2 k.1 (by have:=c.le;omega) h) λw h1 qq_=>?_;let(ew,e1):=qq_;subst ew e1;have e2:eqW (.tup<|(wo k.2 k.1).map W.int) (.tup [.int 0])=pr (.bl<|decide<|wo k.2 k.1=[0]):=eqT _ [0];have sl1:slW (.tup<|(wo k.2 k.1).map W.int) (some 1) none=pr (.tup<|(wo k.2 k.1).tail.map W.int):=Pf (os:=wo k.2 k.1) (by rw[c.wz];simp);by_cases z:wo k.2 k.1=[0];simp! only[aa,PF,e2,CF z];refine ap (xC (by unfold M5;rw[np z]) eg GG ed c ha) λx h2 qq_=>?_;let(ex,e2):=qq_;subst ex e2;simp!;exact ae (rfl,rfl);simp! only[aa,PF,e2,s0 z,sl1];refine ap (xC (by unfold M5;rw[gV z]) eg GG ed c ha) λx h2 qq_=>?_;let(ex,e2):=qq_;subst ex e2;simp!;exact ae (rfl,rfl)
end
end
section
def sx (a:↑↑Int)(s:↑Int):Of (a++[s])=Of a++s.tail.map λl=>(l ,s):=by unfold Of;rw[IA,HC,List.flatMap_nil,F5]
def nj {N:Int}{m:Nat}(hN:N=(m:Int))(m1:1<=m)(m2:m<=10)(h:↑Ob):Ok (fB [.int N]) h λw h'=>w=.tl ((prs<|m-1).map<|MQ true)/\Nw h h':=by
 have e0:fB [.int N]=bd (iD [some<|.int N,none,none,none]) Mb:=rfl;rw[e0];unfold iD;simp!;refine dC ?_;simp!;refine ap (ql hN m1 ∅ _) λw h2 qq_=>?_;let(ew,e2):=qq_;subst ew e2;simp!;refine bF (I:=λi ρ h'=>∃a b L ,ρ=[some<|.int N,some<|.loc ⇑h,a,b]/\Nf h h' (.lst<|L.map<|MQ true)/\L=kf::Of ((Lu<|m-1).take i)/\L.length<=1+10*i) (_,_,[kf],rfl,Nf.mk0,rfl,⇑_) (λJ J J J=>trivial) (λi w ρ h2 hw I=>?_) λρ h2 I=>?_
 .let(a,b,L,rfl,N2,eL,lL):=I;rw[FB]at hw;let(s,hs,rfl):=FE.mp hw;let(r,rfl,_,lr,_):=aQ<|FK hs;have hi:i<512:=by have:=(FD.mp hs).1;rw[c5]at this;exact FT this (G4 ↥_ (show m-1<=9 by omega))
  refine(_,rfl,?_);have sl1:slW (O7 (0::r)) (some 1) none=pr (.tup<|r.map W.int):=Pf (os:=0::r) ⇑_;simp! only[aa,sl1];refine iy (I:=λl ρ h'=>∃b M ,ρ=[some<|.int N,some<|.loc ⇑h,some<|O7 (0::r),b]/\Nf h h' (.lst<|M.map<|MQ true)/\M=L++(r.take l).map (λx=>(x ,0::r))/\M.length<=L.length+l) (_,L,rfl,N2,⇑_,Fw _) (λJ J J J=>trivial) (λl w ρ h3 hw I=>?_) λρ h3 I=>?_
  .let(b,M,rfl,N3,eM,lM):=I;rw[FB]at hw;let(p,hp,rfl):=FE.mp hw;have hl:=(FD.mp hp).1;refine(_,rfl,?_);simp! only[aa,PF];refine dQ N3.new ?_;simp! only[aa,PF];refine ju N3.new (by rw[Fv];exact F9 (show _<=6000 by omega) ↥_) ?_;simp!;refine ae (_,rfl,_,M++[(p ,0::r)],rfl,?_,?_,by rw[FH];show M.length+1<=_;omega);have:=N3.put<|.lst<|M.map (MQ true)++[.tup [O7 (0::r),.int p]];rw[FF];exact this;rw[ao hp,eM,FF,FZ];rfl
  let(b,M,rfl,N3,eM,lM):=I;rw[Fv]at eM lM;rw[FW]at eM;refine(_,rfl,_,_,M,rfl,N3,?_,∅);rw[ao hs,sx,eM,eL];rfl
 let(a,b,L,rfl,N2,eL,lL):=I;rw[Fv,FW]at eL;simp!;refine lH N2.new ?_;simp!;refine ae (by rw[eL];rfl,?_);have:=N2.put .gone;exact this.nw
end
section
theorem rL {f:PKy->W}:∀ {ks:↑PKy}{k:PKy},k∈ks->atK ks (ks.map f) k=some (f k)
 |[],_,h=>absurd h FV
 |q::ks,k,h=>by
  rw[Fz,atK];by_cases e:q=k;rw[np e,e]
  .rw[gV e];rcases FC.mp h with h|h
   exact absurd h.symm e;exact rL h
def AZ {ks:↑PKy}{ws:↑W}{k:PKy}{v:W}(h:k ∉ks):Oo ks ws k v=(ks++[k] ,ws++[v]):=by unfold Oo;rw[gV];intro z;let(x,hx,e):=G1.mp z;rw[of_decide_eq_true e]at hx;exact h hx
noncomputable def rwW (r:PKy×Int):W:=.tup [.tup<|r.1.2.map W.int,.int r.1.1,.int r.2]
noncomputable def kyW (k:PKy):W:=.tup [.tup<|k.2.map W.int,.int k.1]
noncomputable def lk (rs:↑(PKy×Int))(k:PKy):Option Int:=rs.foldl (λo r=>if r.1=k then some r.2 else o) none
def zp (rs:↑(PKy×Int))(r:PKy×Int)(k:PKy):lk (rs++[r]) k=if r.1=k then some r.2 else lk rs k:=by unfold lk;rw[IX];rfl
noncomputable def vl (rs:↑(PKy×Int))(k:PKy):Int:=(lk rs k).getD 0
noncomputable def M3 (G:Int->Int->Int)(F:PKy->Int)(k:PKy):Int:=if k=kf then 0 else M8 G F k
def Di (l:↑Bool):Lq [.tl<|l.map W.bl]=pr (.bl<|l.all id):=by
 show bd (Na<|.tl<|l.map W.bl) (λl=>match NU bOf l with
  |some ns=>pr (W.bl<|ns.all id)
  |none=>no)=_
 rw[bp,au,br (f:=bOf) (g:=W.bl) (k:=λb=>b) (λa=>rfl),List.map_id']
def wD {h:↑Ob}:aE [.tup<|kf.2.map W.int,.int kf.1,X,Y]=pr (.int 0):=by
 have e0:aE [.tup<|kf.2.map W.int,.int kf.1,X,Y]=bd (be [some<|.tup<|kf.2.map W.int,some<|.int kf.1,some X,some Y,none,none]) Mb:=rfl;rw[e0];unfold be;have ef:eqW (.tup [.tup<|kf.2.map W.int,.int kf.1]) (MQ true (0 ,[0]))=pr (.bl true):=by show eqW (.tup [.tup<|kf.2.map W.int,.int kf.1]) (.tup [.tup<|kf.2.map W.int,.int kf.1])=_;rw[eqK,CF rfl]
 generalize W.tup (kf.2.map W.int)=A at*;generalize kf.1=B at*;simp! only[aa,PF,ef]
def wA {jg:Nat}{G:Int->Int->Int}{F:PKy->Int}(eg:h[jg]?=some (.dit gk gw))(GG:GK gk gw G)(ed:LU X h=some (true ,ks,ws))(c:k≠kf->SK k/\∀p∈M5 (wo k.2 k.1) ,atK ks ws (p ,wo k.2 k.1)=some (.int<|F (p ,wo k.2 k.1))):
  Ok (aE [.tup<|k.2.map W.int,.int k.1,X,.loc jg]) h λw h'=>w=.int (M3 G F k)/\h'=h:=by
 unfold M3;by_cases e:k=kf;rw[np e,e,wD (h:=h)];exact ae (rfl,rfl);rw[gV e];exact wC eg GG ed (c e).1 (c e).2
def wB (F:PKy->Int)(k:PKy):∀ (l:↑PKy),lk (l.map λk=>(k ,F k)) k=if k∈l then some (F k) else none:=by
 have:∀ (l:↑PKy) (o:Option Int),(l.map λk=>(k ,F k)).foldl (λo r=>if r.1=k then some r.2 else o) o=if k∈l then some (F k) else o:=by
  intro l
  induction l with
  |nil=>intro o;rw[gV FV];rfl
  |cons q l ih=>
   intro o;rw[Fz,GA,ih];by_cases e:q=k;subst e;rw[np FQ];split<;>simp
   .have:(k∈q::l)=(k∈l):=by rw[FC];have:k≠q:=λz=>e z.symm;simp [this]
    simp only[this,e,if_false]
 intro l;exact this l none
def uq {F:PKy->Int}{l:↑PKy}{k:PKy}(h:k∈l):vl (l.map λk=>(k ,F k)) k=F k:=by unfold vl;rw[wB,np h];rfl
abbrev F0 (G:Int->Int->Int):PKy->Int:=Fn G λJ=>0
def xN {n:Nat}(hn:n<=9)(G:Int->Int->Int)(km:k∈prs n):M3 G (F0 G) k=F0 G k:=by
 unfold M3;by_cases e:k=kf;rw[np e,e];rfl;rw[gV e];have:=At G (λJ=>0)<|uF hn km e;rw[G6]at this;exact this.symm
def uV (l:↑(PKy×Int)):(NU Oy<|l.map rwW).isSome=true:=by
 have:∀r:PKy×Int,Oy (rwW r)=some ((r.1.2 ,r.1.1) ,r.2):=λr=>by show (NU iOf<|r.1.2.map W.int).map (λks=>((ks ,r.1.1) ,r.2))=_;rw[Ms];rfl
 rw[br (f:=Oy) (g:=rwW) (k:=λr=>((r.1.2 ,r.1.1) ,r.2)) this];rfl
def vj {α β:Type}{f:α->β}{l m:↑β}(h:l.Perm m):∀ {r:↑α},m=r.map f->∃r':↑α,r'.Perm r/\l=r'.map f:=by
 induction h with
 |nil=>intro r e;exact(r,FO.refl _,e)
 |cons x h ih=>
  intro r e;cases r with
  |nil=>cases e
  |cons a r=>
   rw[Fz]at e;injection e with e1 e2
   let(r',p,e3):=ih e2;exact(a::r',p.cons _,by rw[Fz,e1,e3])
 |swap x y t=>
  intro r e
  match r,e with
  |a::b::r,e=>
   simp only[Fz,List.cons.injEq]at e;let(rfl,rfl,rfl):=e;exact(b::a::r,FO.swap ..,rfl)
 |trans h1 h2 ih1 ih2=>
  intro r e;let(r2,p2,e2):=ih2 e;let(r1,p1,e1):=ih1 e2;exact(r1,p1.trans p2,e1)
def uN (h:l.Perm (rs.map rwW)):∃rs':↑(PKy×Int),rs'.Perm rs/\l=rs'.map rwW:=by exact vj h rfl
def sy {bs:↑Bl}{cs:↑Int}{m:Nat}(π:Ch)(PG:PgG ps bs)(PA:PgAt h x ps bs)(hm:⇑bs=m)(m1:1<=m)(m2:m<=10)(hc:⇑(wyB bs)=⇑cs):
  Ok (gu π [x,.tl<|cs.map W.int]) h λw h'=>∃κ:↑PKy,κ.Perm (prs<|m-1)/\w=.tl ((κ.map λk=>(k ,F0 (Mp<|zsB bs cs) k)).map rwW)/\Nw h h':=by
 have e0:gu π [x,.tl<|cs.map W.int]=bd (gm π [some x,some<|.tl<|cs.map W.int,none,none,none,none]) Mb:=rfl;rw[e0];unfold gm;obtain⟨n,hn⟩:∃n,n=m-1:=(_,rfl)
 have n9:n<=9:=∅;rw[<-hn];obtain⟨N,hN⟩:∃N:Int,N=(m:Int):=(_,rfl)
 have lz:=iu n9;have nd:=A7 n;let(bx,bl,ex,_,ls,LL,ll,_):=PA.bl;have hp:ixW x (.int 1)=pr bl:=by rw[ex];exact ix1 _ _ _
 clear ex;simp!;refine ap (gh PG PA hc) λw h1 qq_=>?_;let(jg,gk,gw,ew,D,GG):=qq_;subst ew;generalize Mp (zsB bs cs)=G at*;generalize W.tl (cs.map W.int)=CW at*;simp!;refine jr ?_;simp! only[aa,hp];refine Lw.len_eq ((LL.keep D.nw.eq).keep (Nf.mk0 (h:=h1) (b:=.din true [] [])).nw.eq) (N:=N) (by rw[ll,hm];exact hN) ?_;simp!;refine ap (nj hN m1 m2 _) λw h2 qq_=>?_;let(ew,N2):=qq_;rw[<-hn,show MQ true=kyW from rfl]at ew;subst ew;have D2:=(Nd.mk0 (h:=h1) (b:=.din true [] [])).more N2;simp! only[aa,cD];refine bF (I:=λi ρ h'=>∃a b ,ρ=[some x,`CW,some<|.loc jg,some<|.loc ⇑h1,a,b]/\Nd h1 h' ⇑h1 (.din true ((prs n).take i)<|((prs n).take i).map λk=>.int<|F0 G k)) (_,_,rfl,D2) (λJ J J J=>trivial) (λi w ρ h3 hw I=>?_) λρ h3 I=>?_
 .let(a,b,rfl,N3):=I;rw[FB]at hw;let(k,hk,rfl):=FE.mp hw;have km:=FK hk;have hi:=(FD.mp hk).1;refine([some x,`CW,some<|.loc jg,some<|.loc ⇑h1,some<|.tup<|k.2.map W.int,some<|.int k.1],rfl,?_);have cc:k≠kf->SK k/\∀p∈M5 (wo k.2 k.1),atK ((prs n).take i) (((prs n).take i).map λk=>.int<|F0 G k) (p ,wo k.2 k.1)=some (.int<|F0 G (p ,wo k.2 k.1)):=λne=>
   (uF n9 km ne,λp hp=>rL (f:=λk=>.int<|F0 G k)<|m8 hk ne p hp)
  simp! only[aa,dO];refine ap (wA (F:=F0 G) (k:=k) (N3.nw.get D.new) GG (mh N3.new) cc) λw h4 qq_=>?_;let(ew,e4):=qq_;subst ew e4;rw[xN n9 G km];have nm:k ∉(prs n).take i:=λz=>by
   have e1:prs n=(prs n).take i++k::(prs n).drop (i+1):=by let(_,e):=FD.mp hk;rw[<-e,<-He hi,Hz]
   have nd2:=nd;rw[e1]at nd2;exact (Hk.mp nd2).2.2 k z k FQ rfl
  simp! only[aa,PF];refine vR (p:=k.1) (l:=k.2) N3.new (by rw[Gm];exact F9 (show _<=4609 by omega) ↥_) (AZ nm) ?_;simp!;refine ae (_,rfl,_,_,rfl,?_);rw[ao hk,FF];exact N3.put _
 .let(a,b,rfl,N3):=I;rw[Fv,FW]at N3;simp!;refine aq (a:=.dn true (prs n)<|(prs n).map λk=>.int<|F0 G k) (h':=h3.set ⇑h1 .gone) (by unfold Mt;simp only[N3.new]) ?_;have sI:Pl (.dn true (prs n)<|(prs n).map λk=>.int<|F0 G k)=pr ((prs n).map λk=>.tup [kyW k,.int<|F0 G k],λJ=>True):=by show pr ((Hw (λk w=>W.tup [MQ true k,w]) (prs n) ((prs n).map λk=>.int<|F0 G k),λJ=>True):Sr)=_;congr 2;rw[I0,Ja];rfl
  have gl:∀ {α:Type} (q:M α),gd (⇑((prs n).map λk=>W.tup [kyW k,.int<|F0 G k])<=sizeLine) q=q:=λq=>ag (by rw[Fv];exact sz ∅);simp! only[aa,sI,gl];refine bY (I:=λi l h'=>h'=h3.set ⇑h1 .gone/\l=(((prs n).take i).map λk=>(k ,F0 G k)).map rwW) (rfl,rfl) cQ (λJ J J J=>trivial) (λi w l h' hw I=>?_) λl h' I=>?_;let(rfl,rfl):=I;rw[FB]at hw;let(k,hk,rfl):=FE.mp hw;refine([some<|kyW k,some<|.int<|F0 G k,none,some x,some CW,some<|.loc jg,some<|.loc ⇑h1,a,b],rfl,?_);have ea:Lo (kyW k) (.tup [.int<|F0 G k])=pr (rwW (k ,F0 G k)):=addT _ _ _ (by show 1+1<=100;decide);simp! only[List.replicate,F8,Ge,aa,PF,ea];refine ae (rfl,?_);rw[ao hk,FF,FF];rfl;let(rfl,rfl):=I;rw[Fv,FW];have es:Pg π [.tl<|((prs n).map λk=>(k ,F0 G k)).map rwW]=pr (.tl<|π.f<|((prs n).map λk=>(k ,F0 G k)).map rwW):=ag<|uV _;let(rs',p1,e1):=uN<|π.p<|((prs n).map λk=>(k ,F0 G k)).map rwW;let(κ,p2,e2):=vj p1 rfl;rw[e1,e2]at es;simp! only[aa,es];exact ae (κ,p2,rfl,D.nw.trans (N3.put .gone).nw)
end
section
noncomputable def ly (n:Nat)(G:Int->Int->Int)(rs:↑(PKy×Int)):Bool:=decide (⇑rs=⇑(prs n))&&((prs n).all (λk=>(lk rs k).isSome)&&(prs n).all λk=>decide<|M3 G (vl rs) k<=vl rs k)
def Dh (l:↑Bool):Lr [.tl<|l.map W.bl]=pr (.bl<|l.any id):=by
 show bd (Na<|.tl<|l.map W.bl) (λl=>match NU bOf l with
  |some ns=>pr (W.bl<|ns.any id)
  |none=>no)=_
 rw[bp,au,br (f:=bOf) (g:=W.bl) (k:=λb=>b) (λa=>rfl),List.map_id']
noncomputable def bRv:KU->M Fl:=(OY (OZ 8<|Ng (arW 2 du)<|Ni (Ny 0)<|Ni (Ny 1) Nq)<|OW<|Ng Lq<|Ni (mTl<|Nh [] (Nu (Ny 3) Pm) (tgT [0,1]) Nz (m2 geW (m2 MG (Ny 7)<|Nx<|Ni (Ny 0)<|Ni (Ny 1) Nq)<|Ng (arW 4 aE)<|Ni (Ny 0)<|Ni (Ny 1)<|Ni (Ny 7)<|Ni (Ny 11) Nq) 3) Nq)
noncomputable def bRt:KU->M Fl:=(OY (sIf (mOr (mB<|m2 neW (Ng MY<|Ni (Ny 2) Nq)<|Ng MY<|Ni (Ny 3) Nq)<|mB<|Ng Lr<|Ni (mTl<|Nh [] (Nu (Ny 3) Pm) (tgN 0) Nz (m2 (Mu true) (Ny 0)<|Ny 6) 2) Nq) (OW<|mC<|.bl false) OV) bRv)
def ji:d7=(OY (OZ 3<|Ng (arW 1 fB)<|Ni (Ng MY<|Ni (m2 ixW (Ny 0) ⇑1) Nq) Nq)<|OY (OZ 4<|gU true)<|OY (OP (Nu (Ny 2) Pm) (tgT [5,6,7])<|dO (Ny 4) (Nx<|Ni (Ny 5)<|Ni (Ny 6) Nq)<|Ny 7) bRt):=rfl
def De {bs:↑Bl}{cs:↑Int}{n jn:Nat}(PG:PgG ps bs)(PA:PgAt h x ps bs)(n9:n<=9)(hc:⇑(wyB bs)=⇑cs)
  (en:h[jn]?=some (.din true ks ws))(ek:∀k ,atK ks ws k=(lk rs k).map W.int)(hs:∀k∈prs n ,(lk rs k).isSome=true):
  Ok (bRv [some x,some<|.tl<|cs.map W.int,some t,some<|.tl<|(prs n).map kyW,some<|.loc jn,a,b,c,none]) h λw h'=>w=.rt (.bl<|(prs n).all λk=>decide<|M3 (Mp<|zsB bs cs) (vl rs) k<=vl rs k)/\Nw h h':=by
 unfold bRv;have hat:∀k,(lk rs k).isSome=true->atK ks ws k=some (.int<|vl rs k):=λk hk=>by rw[ek];unfold vl;let(v,e):=H0.mp hk;rw[e];rfl
 simp!;refine ap (gh PG PA hc) λw h1 qq_=>?_;let(jg,gk,gw,ew,D,GG):=qq_;subst ew;have lz:=iu n9;have gl:∀ {α:Type} (q:M α),gd (⇑((prs n).map kyW)<=sizeLine) q=q:=λq=>ag (by rw[Fv];exact sz ∅);generalize Mp (zsB bs cs)=G at*;simp! only[aa,cD,gl];refine bY (I:=λi l h'=>h'=h1/\l=(((prs n).take i).map λk=>decide<|M3 G (vl rs) k<=vl rs k).map W.bl) (rfl,rfl) cQ (λJ J J J=>trivial) (λi w l h' hw I=>?_) λl h' I=>?_
 .let(rfl,rfl):=I;rw[FB]at hw;let(k,hk,rfl):=FE.mp hw;have km:=FK hk;refine([some<|.tup<|k.2.map W.int,some<|.int k.1,none,some x,some<|.tl<|cs.map W.int,some t,some<|.tl<|(prs n).map kyW,some<|.loc jn,a,b,c,some<|.loc jg],rfl,?_);have e1:=mh<|D.nw.get en;simp! only[List.replicate,F8,Ge,aa,PF];refine vV e1 (hat k<|hs k km) ?_;simp!;have cc:k≠kf->SK k/\∀p∈M5 (wo k.2 k.1),atK ks ws (p ,wo k.2 k.1)=some (.int<|vl rs (p ,wo k.2 k.1)):=λne=>by exact(uF n9 km ne,λp hp=>hat _<|hs _<|vg km ne p hp)
  refine ap (wA (F:=vl rs) D.new GG e1 cc) λw h2 qq_=>?_;let(ew,e2):=qq_;subst ew e2;simp!;refine ae (rfl,?_);rw[ao hk,FF,FF];rfl
 let(rfl,rfl):=I;rw[Fv,FW];simp! only[aa,Di];refine ae (?_,D.nw);rw[List.all_map];rfl
def uX {bs:↑Bl}{cs:↑Int}{m:Nat}(PG:PgG ps bs)(PA:PgAt h x ps bs)(hm:⇑bs=m)(m1:1<=m)(m2:m<=10)(hc:⇑(wyB bs)=⇑cs)(lr:⇑rs<=5000):
  Ok (de [x,.tl<|cs.map W.int,.tl<|rs.map rwW]) h λw h'=>w=.bl (ly (m-1) (Mp<|zsB bs cs) rs)/\Nw h h':=by
 have e0:de [x,.tl<|cs.map W.int,.tl<|rs.map rwW]=bd (d7 [some x,some<|.tl<|cs.map W.int,some<|.tl<|rs.map rwW,none,none,none,none,none,none]) Mb:=rfl;rw[e0,ji];obtain⟨n,hn⟩:∃n,n=m-1:=(_,rfl)
 have n9:n<=9:=∅;rw[<-hn];obtain⟨N,hN⟩:∃N:Int,N=(m:Int):=(_,rfl)
 have lz:=iu n9;have gl:∀ {α:Type} (q:M α),gd (⇑((prs n).map kyW)<=sizeLine) q=q:=λq=>ag (by rw[Fv];exact sz ∅);have v2:=λ(h:↑Ob) (jn:Nat) (a b c:Option W) (ks:↑PKy) (ws:↑W) hx en ek hs=>De (h:=h) (x:=x) (t:=.tl<|rs.map rwW) (bs:=bs) (cs:=cs) (n:=n) (jn:=jn) (a:=a) (b:=b) (c:=c) (ks:=ks) (ws:=ws) (rs:=rs) PG hx n9 hc en ek hs;let(bx,bl,ex,_,ls,LL,ll,_):=PA.bl;have hp:ixW x (.int 1)=pr bl:=by rw[ex];exact ix1 _ _ _
 clear ex;generalize W.tl (cs.map W.int)=CW at*;simp! only[aa,hp];refine Lw.len_eq LL (N:=N) (by rw[ll,hm];exact hN) ?_;simp!;refine ap (nj hN m1 m2 h) λw h1 qq_=>?_;let(ew,N1):=qq_;rw[<-hn,show MQ true=kyW from rfl]at ew;subst ew;simp!;refine jr ?_;simp! only[aa,cD];refine bF (I:=λi ρ h'=>∃a b c ks ws ,ρ=[some x,`CW,some<|.tl<|rs.map rwW,some<|.tl<|(prs n).map kyW,some<|.loc ⇑h1,a,b,c,none]/\Nf h1 h' (.din true ks ws)/\⇑ks=⇑ws/\⇑ks<=i/\∀k,atK ks ws k=(lk (rs.take i) k).map W.int) (_,_,_,[],[],rfl,Nf.mk0,rfl,Fw _,λJ=>rfl) (λJ J J J=>trivial) (λi w' ρ h2 hw I=>?_) λρ h2 I=>?_
 .let(a,b,c,ks,ws,rfl,N2,l1,l2,ek):=I;rw[FB]at hw;let(r,hr,rfl):=FE.mp hw;have hi:=(FD.mp hr).1;let((p,s),v):=r;refine([some x,`CW,some<|.tl<|rs.map rwW,some<|.tl<|(prs n).map kyW,some<|.loc ⇑h1,some<|.tup<|s.map W.int,some<|.int p,some<|.int v,none],rfl,?_);simp! only[aa,dO,PF];rcases ep:Oo ks ws (p ,s) (.int v) with⟨ks',ws'⟩;let(g1,g2,g3):=gB l1 ep;refine vR N2.new (F9 (show _<=5000 by omega) ↥_) ep ?_;simp!;refine ae (_,rfl,_,_,_,ks',ws',rfl,N2.put _,g1,∅,λk=>?_);rw[ao hr,zp,g3];by_cases e:(p ,s)=k
  rw[np e,np e];rfl;rw[gV e,gV e];exact ek k
 .let(a,b,c,ks,ws,rfl,N2,l1,l2,ek):=I;rw[Fv,FW]at ek;unfold bRt;unfold ly;by_cases q:(⇑(rs.map rwW):Int)=(⇑((prs n).map kyW):Int)
  .have q':⇑rs=⇑(prs n):=by rw[Fv,Fv]at q;omega
   rw[CF q',HB];simp! only[aa,CF q,cD,gl];refine bY (I:=λi l h'=>h'=h2/\l=(((prs n).take i).map λk=>!(lk rs k).isSome).map W.bl) (rfl,rfl) cQ (λJ J J J=>trivial) (λi w' l h' hw I=>?_) λl h' I=>?_
   .let(rfl,rfl):=I;rw[FB]at hw;let(k,hk,rfl):=FE.mp hw;refine(_,rfl,?_);unfold kyW;simp! only[List.replicate,F8,Ge,aa,PF];refine Aj (a:=.bl<|(atK ks ws k).isSome !=true) (h':=h') ?_ (rfl,?_);unfold Mu;simp only[mh N2.new,pI];rw[ao hk,FF,FF,Fz,Fz,ek,GZ];cases (lk rs k).isSome<;>rfl
   .let(rfl,rfl):=I;rw[Fv,FW];simp! only[aa,Dh];by_cases s:(prs n).all (λk=>(lk rs k).isSome)=true
    .have s1:((prs n).map λk=>!(lk rs k).isSome).any id=false:=by rw[Hv,HZ];intro k hk;have:=Hb.mp s k hk;show¬(!(lk rs k).isSome)=true;rw[this];simp
     rw[s1,s,HB];simp!;refine ap (v2 _ _ _ _ _ _ _ ((PA.keep N1.eq).keep N2.nw.eq) N2.new ek λk hk=>Hb.mp s k hk) λx h3 qq_=>?_;let(ex,N3):=qq_;subst ex;simp!;exact ae (rfl,(N1.trans N2.nw).trans N3)
    .have s1:((prs n).map λk=>!(lk rs k).isSome).any id=true:=by
      rw[Hv,G1];have s2:(prs n).all (λk=>(lk rs k).isSome)=false:=by rw[<-HU];exact s
      let(k,hk,e):=List.all_eq_false.mp s2;exact(k,hk,by show (!(lk rs k).isSome)=true;rw[HU]at e;rw[e];rfl)
     have s2:(prs n).all (λk=>(lk rs k).isSome)=false:=by rw[<-HU];exact s
     rw[s1,s2,Ho];simp!;exact ae (rfl,N1.trans N2.nw)
  .have q':¬(⇑rs=⇑(prs n)):=by rw[Fv,Fv]at q;omega
   rw[s0 q',Ho];simp! only[aa,s0 q];exact ae (rfl,N1.trans N2.nw)
abbrev ev (m:Nat):↑Int:=(List.range m).map FN
theorem jF:∀ (n:Nat) (lo:Int),My lo n=(List.range n).map λi=>W.int (lo+(i:Nat))
 |0,_=>rfl
 |n+1,lo=>by
  rw[My,jF n,IV,Fz,F4];congr 1;show W.int lo=W.int (lo+0);rw[G6];refine Go λi J=>?_;show W.int (lo+1+(i:Nat))=W.int (lo+((i+1:Nat):Int));congr 1;omega
def qX (m:Nat):My 0 m=(ev m).map W.int:=by rw[jF,F4];refine Go λi J=>?_;show W.int (0+(i:Nat))=W.int (FN i);rw[G5];rfl
def gH (ns:↑Int):Pu [.tl<|ns.map W.int]=pr (.int ns.sum):=by
 show (match NU iOf (ns.map W.int) with
  |some ns=>(pr (W.int ns.sum):M W)
  |none=>no)=_
 rw[Ms]
def xz {h:↑Ob}{x:W}{ps:↑(Str×Int)}{bs:↑Bl}{cs:↑Int}{m:Nat}{rs:↑(PKy×Int)}(PA:PgAt h x ps bs)(hm:⇑bs=m)(m2:m<=10)(lr:⇑rs<=5000)(ne:(rs.filter λr=>decide<|r.1.2=ev m)≠ []):
  Ok (df [x,.tl<|cs.map W.int,.tl<|rs.map rwW]) h λw h'=>w=.int (cs.sum-NB ((rs.filter λr=>decide<|r.1.2=ev m).map (·.2)))/\h'=h:=by
 have e0:df [x,.tl<|cs.map W.int,.tl<|rs.map rwW]=bd (d9 [some x,some<|.tl<|cs.map W.int,some<|.tl<|rs.map rwW,none]) Mb:=rfl;rw[e0];unfold d9;let(bx,bl,ex,_,ls,LL,ll,_):=PA.bl;have hp:ixW x (.int 1)=pr bl:=by rw[ex];exact ix1 _ _ _
 clear ex;obtain⟨N,hN⟩:∃N:Int,N=(m:Int):=(_,rfl)
 have tr:PB [.int N]=pr (.tup<|(ev m).map W.int):=by show gd ((-(2^62)<=N/\N<2^62)/\N.toNat<=sizeLine) (pr<|W.tup<|My 0 N.toNat)=_;rw[ag ((∅,∅),sz ∅),show N.toNat=m by omega,qX]
 have gl:∀ {α:Type} (q:M α),gd (⇑(rs.map rwW)<=sizeLine) q=q:=λq=>ag (by rw[Fv];exact sz ∅);simp! only[aa,hp];refine Lw.len_eq LL (N:=N) (by rw[ll,hm];exact hN) ?_;generalize ev m=E at*;have sm:=gH cs;generalize W.tl (cs.map W.int)=CW at*;simp! only[aa,tr,sm,cD,gl];refine nz (I:=λi l h'=>h'=h/\l=(((rs.take i).filter λr=>decide<|r.1.2=E).map (·.2)).map W.int) (rfl,rfl) (λJ J J J=>trivial) (λi w' l h' hw I=>?_) λl h' I=>?_
 .let(rfl,rfl):=I;rw[FB]at hw;let(r,hr,rfl):=FE.mp hw;let((p,s),v):=r;refine([some<|.tup<|s.map W.int,some<|.int p,some<|.int v,none,some x,some CW,some<|.tl<|rs.map rwW,some<|.tup<|E.map W.int],rfl,?_);simp! only[List.replicate,F8,Ge,aa,eqT];rw[ao hr,IW];by_cases e:s=E;refine ae<|.inr (CF e,ae (rfl,?_));rw[IH (by exact CF e),FF,FF];rfl;refine ae<|.inl (s0 e,rfl,?_);rw[List.filter_cons_of_neg (by simp only[decide_eq_true_eq];exact e),List.filter_nil,F5]
 let(rfl,rfl):=I;rw[Fv,FW];simp! only[aa,rf (show (rs.filter λr=>decide<|r.1.2=E).map (·.2)≠ [] from λz=>ne<|HV.mp z)];exact ae (rfl,rfl)
end
section
section
variable {β:Type}{h:↑Ob}{Q:β->↑Ob->Prop}{j:Nat}
def lI {k:W->M β}(q:Ok (k<|.loc ⇑h) (h++[.dic [] []]) Q):Ok (bd (Nj ρ) k) h Q:=aq (a:=.loc ⇑h) (h':=h++[.dic [] []]) rfl q
def BB {o:Int}{k:Unit->M β}(e:h[j]?=some (.dic ks ws))(hz:⇑ks<sizeLine)(e2:Oo ks ws (.inl o) v=(ks' ,ws'))(q:Ok (k ()) (h.set j<|.dic ks' ws') Q):Ok (bd (ck (.loc j) (.int o) v) k) h Q:=by refine aq (a:=()) (h':=h.set j<|.dic ks' ws') ?_ q;unfold ck;have ko:MO (.int o)=some (.inl o):=rfl;simp only[e,ko,e2,np hz]
def yO {k:W->M β}(e:h[j]?=some (.dic ks ws))(q:Ok (k<|.loc j) h Q):Ok (bd (MA<|.loc j) k) h Q:=by
 refine aq (a:=.loc j) (h':=h) ?_ q;have:LS (.loc j) h=some (ks ,ws):=by unfold LS;simp only[e]
 unfold MA;rw[this]
def yP {o:Int}{k:W->M β}(e:h[j]?=some (.dic ks ws))(q:Ok (k<|(atK ks ws<|.inl o).getD d) h Q):Ok (bd (Mm (.loc j) (.int o) d) k) h Q:=by
 refine aq (a:=(atK ks ws<|.inl o).getD d) (h':=h) ?_ q;have:LS (.loc j) h=some (ks ,ws):=by unfold LS;simp only[e]
 have ko:MO (.int o)=some (.inl o):=rfl;unfold Mm;simp only[this,ko]
end
noncomputable def nzW (nx:Option Int):W:=match nx with|none=>.non|some t=>.int t
def D8 (t:Int)(nx:Option Int):neW (nzW nx) (.int t)=pr (.bl<|!decide (nx=some t)):=by
 cases nx with
 |none=>
  funext h;rfl
 |some x=>
  show neW (.int x) (.int t)=_;rw[neW_int];congr 3;rw[decide_eq_decide];exact(λz=>by rw[z],λz=>Option.some.inj z)
def kj {os:↑Int}{i:Nat}(e:(P0 (os.map W.int)<|os.tail.map W.int)[i]?=`x):∃a b,os[i]?=`a/\os.tail[i]?=`b/\x=.tup [.int a,.int b]:=by let(x,y,hx,hy,rfl):=eK e;rw[FB]at hx hy;let(w,hw,rfl):=FE.mp hx;let(c,hc,rfl):=FE.mp hy;exact(w,c,hw,hc,rfl)
def iJ (os:↑Int):⇑(P0 (os.map W.int)<|os.tail.map W.int)=⇑(os.zipWith (λa b=>(a ,b)) os.tail):=by unfold P0;rw[Gq,Gq,Fv,Fv]
def mJ (a b:↑W):Po true true [.tup a,.tup b]=pr (P0 a b,λJ=>True/\True):=rfl
noncomputable def aft:↑Int->Int->Option Int|x::y::r,a=>if x=a then `y else aft (y::r) a|_,_=>none
noncomputable def Oi (G:Int->Int->Int):↑Int->Int|x::y::r=>G x y+Oi G (y::r)|_=>0
theorem m7 (F G:Int->Int->Int):∀l:↑Int,Oi (λa b=>F a b+G a b) l=Oi F l+Oi G l|[]=>rfl|[_]=>rfl|x::y::r=>by have:=m7 F G (y::r);unfold Oi;omega
theorem kE:∀l:↑Int,Oi (λJ J=>0) l=0|[]=>rfl|[_]=>rfl|x::y::r=>by have:=kE (y::r);unfold Oi;omega
def oU {F G:Int->Int->Int}(h:∀a b ,F a b=G a b)(l:↑Int):Oi F l=Oi G l:=by rw[show F=G from funext λa=>funext λb=>h a b]
noncomputable def one (t:Bool)(p q c a b:Int):Int:=if t=false/\p=a/\q=b then c else 0
theorem m5 {t:Bool}{p q c:Int}:∀l:↑Int,p ∉l->Oi (one t p q c) l=0|[],_=>rfl|[_],_=>rfl|x::y::r,h=>by have ih:=m5 (t:=t) (q:=q) (c:=c) (y::r) λz=>h<|FX _ z;unfold Oi;rw[ih];unfold one;rw[gV<|λz=>h<|by rw[z.2.1];exact FQ];rfl
theorem m6 {t:Bool}{p q c:Int}:∀l:↑Int,l.Nodup->Oi (one t p q c) l=if t=false/\aft l p=`q then c else 0
 |[],_=>by simp [Oi,aft]
 |[_],_=>by simp [Oi,aft]
 |x::y::r,h=>by
  let(h1,h2):=Gk.mp h;unfold Oi aft;by_cases e:x=p;subst e;rw[m5 (y::r) h1,G6,np rfl];unfold one;simp [eq_comm];rw[m6 (y::r) h2,gV e];unfold one;rw[gV (λz=>e z.2.1.symm),G5]
theorem kG (h:l.Nodup):∀zs:↑Zw,Oi (Mp zs) l=(zs.map λz=>if z.1=false/\aft l z.2.1=some z.2.2.1 then z.2.2.2 else 0).sum|[]=>kE l|z::zs=>by rw[Fz,Gx,<-kG h zs,<-m6 (c:=z.2.2.2) l h,<-m7];exact oU (λa b=>by unfold Mp one;rw[Fz,Gx]) l
noncomputable def NW (l:↑Int)(zs:↑Zw):Int:=(zs.map λz=>if z.1=true\/aft l z.2.1≠some z.2.2.1 then z.2.2.2 else 0).sum
def gQ (l:↑Int)(zs:↑Zw)(z:Zw):NW l (zs++[z])=NW l zs+if z.1=true\/aft l z.2.1≠some z.2.2.1 then z.2.2.2 else 0:=by unfold NW;rw[FF,List.sum_append];simp
theorem kH (l:↑Int):∀zs:↑Zw,NW l zs+(zs.map λz=>if z.1=false/\aft l z.2.1=some z.2.2.1 then z.2.2.2 else 0).sum=(zs.map λz=>z.2.2.2).sum
 |[]=>rfl
 |z::zs=>by
  have ih:=kH l zs;unfold NW at ih ⊢;rw[Fz,Fz,Fz,Gx,Gx,Gx];by_cases c:z.1=false/\aft l z.2.1=some z.2.2.1;rw[np c,gV<|by rw[c.1,c.2];simp];omega
  .rw[gV c,np (by
    cases q:z.1 with
    |true=>exact .inl rfl
    |false=>exact .inr λz=>c (q,z))]
   omega
def qG (h:l.Nodup){bs:↑Bl}{cs:↑Int}(hc:⇑(wyB bs)=⇑cs):cs.sum-Oi (Mp<|zsB bs cs) l=NW l (zsB bs cs):=by
 have h1:=kH l<|zsB bs cs;rw[<-kG h]at h1;have:(zsB bs cs).map (λz=>z.2.2.2)=cs:=by
  unfold zsB;clear h1;generalize wyB bs=ws at hc
  induction ws generalizing cs with
  |nil=>cases cs with|nil=>rfl|cons _ _=>cases hc
  |cons w ws ih=>cases cs with
   |nil=>cases hc
   |cons c cs=>
    rw[IU,Fz,ih<|GQ.inj hc]
 rw[this]at h1;omega
theorem nq (G:Int->Int->Int):∀l:↑Int,(Hw G l l.tail).sum=Oi G l|[]=>rfl|[_]=>rfl|x::y::r=>by have:=nq G (y::r);unfold Oi;rw[<-this];rfl
theorem p3:∀ (l:↑Int) (i:Nat) (a b:Int),l.Nodup->l[i]?=`a->l.tail[i]?=`b->aft l a=`b|[],i,a,b,_,h,_=>by simp at h|[x],i,a,b,_,h,h2=>by simp at h2|x::y::r,0,a,b,_,h,h2=>by simp at h h2;subst h h2;unfold aft;rw[np rfl]|x::y::r,i+1,a,b,nd,h,h2=>by let(h1,h3):=Gk.mp nd;rw[Gn]at h;unfold aft;rw[gV<|λz=>h1<|by rw[z];exact FK h];refine p3 (y::r) i a b h3 h ?_;rw[GT,Gn]at h2;exact h2
structure AK (os:↑Int)(i:Nat)(ks:↑Key)(ws:↑W):Prop where
 len:⇑ks=⇑ws
 get:∀a:Int,atK ks ws (.inl a)=(if a∈(os.zipWith (λa _=>a) os.tail).take i then aft os a else none).map W.int
theorem xL:∀ (os:↑Int) (a:Int),(if a∈os.zipWith (λa J=>a) os.tail then aft os a else none)=aft os a
 |[],_=>by simp [aft]
 |[_],_=>by simp [aft]
 |x::y::r,a=>by
  have ih:=xL (y::r) a;show (if a∈x::(y::r).zipWith (λa J=>a) r then aft (x::y::r) a else none)=_;unfold aft;by_cases e:x=a;rw[np<|by rw[e];exact FQ]
  .rw[gV e];by_cases q:a∈(y::r).zipWith (λa J=>a) r;rw[np<|FX _ q];rw[gV<|λz=>by rcases FC.mp z with z|z;exact e z.symm;exact q z];rw[GT,gV q]at ih;exact ih
def AK.all {os:↑Int}{n:Nat}(A:AK os n ks ws)(hn:⇑(os.zipWith (λa J=>a) os.tail)=n)(a:Int):atK ks ws (.inl a)=(aft os a).map W.int:=by have:=A.get a;rw[<-hn,FW,xL]at this;exact this
def Cw (x:Option Int):(x.map W.int).getD .non=nzW x:=by cases x<;>rfl
def AK.step {os:↑Int}{i:Nat}{a b:Int}(A:AK os i ks ws)(nd:os.Nodup)(ha:os[i]?=`a)(hb:os.tail[i]?=`b)(ep:Oo ks ws (.inl a) (.int b)=(ks' ,ws')):AK os (i+1) ks' ws':=by
 let(l1,l2,g):=gB A.len ep;refine(l1,λx=>?_);rw[g,ao (x:=a)<|by rw[Hy,ha,hb]];by_cases q:a=x;subst q;rw[np rfl,np<|Gh _ FQ,p3 os i a b nd ha hb];rfl
 .rw[gV (λz=>q<|Sum.inl.inj z),A.get];congr 1;by_cases z:x∈(os.zipWith (λa J=>a) os.tail).take i;rw[np z,np<|Hn _ z]
  .rw[gV z,gV (λy=>by
    rcases Gg.mp y with y|y
    exact z y
    .exact q (FR.mp y).symm)]
def zM {bs:↑Bl}{cs os:↑Int}(PG:PgG ps bs)(PA:PgAt h x ps bs)(hc:⇑(wyB bs)=⇑cs)(o1:1<=⇑os)(o2:⇑os<=100)(nd:os.Nodup):
  Ok (g7 [x,.tup<|os.map W.int,.tl<|cs.map W.int]) h λw h'=>w=.int (NW os<|zsB bs cs)/\Nw h h':=by
 have e0:g7 [x,.tup<|os.map W.int,.tl<|cs.map W.int]=bd (l7 [some x,some<|.tup<|os.map W.int,some<|.tl<|cs.map W.int,none]) Mb:=rfl;rw[e0];unfold l7;simp!;refine ap (gh PG PA hc) λw h1 qq_=>?_;let(j,ks,ws,ew,D,G):=qq_;subst ew
 have gl:∀ {α:Type} (q:M α),gd (⇑(P0 (os.map W.int)<|os.tail.map W.int)<=sizeLine) q=q:=λq=>ag (by rw[iJ,Gq];exact sz ∅)
 simp! only[aa,gH,Pf o1,mJ,gl];refine bY (I:=λi a h'=>h'=h1/\a=((os.zipWith (Mp<|zsB bs cs) os.tail).take i).map W.int) (rfl,rfl) cQ (λJ J J J=>(trivial,trivial)) (λi w a h' hw I=>?_) λa h' I=>?_;let(rfl,rfl):=I;let(a,b,ha,hb,rfl):=kj hw;refine([some<|.tup [.int a,.int b],none,some x,some<|.tup<|os.map W.int,some<|.tl<|cs.map W.int,some<|.loc j],rfl,?_);simp! only[aa,Nl];refine iw D.new ?_;simp!;refine Aj (iC D.new rfl) (rfl,?_);rw[G.get a b,ao (x:=Mp (zsB bs cs) a b) (by rw[Hy,ha,hb]),FF];rfl;let(rfl,rfl):=I;rw[iJ,Gq,<-Gq (f:=Mp<|zsB bs cs),FW];simp! only[aa,gH];exact ae (by rw[nq,qG nd hc],D.nw)
noncomputable def wyT (w:Way):W:=.tup [nI w.1,nI w.2.1,nI w.2.2]
noncomputable def bX:KU->M Fl:=(sEx<|No isL dy (Ny 1)<|Ni (mTl<|Nh [] (Nv (Ni (Ny 6) Nq) L5) (tgT [0,1]) Nz (Nx<|Ni (Ny 5)<|Ni (Ny 0)<|Ni (Ny 1) Nq) 3) Nq)
def jh:dZ=(OY (OZ 1<|Np<|MX Nq)<|OY (OP (Nv (Ni (Ny 0) Nq) L5) (tgG [(tgN 2),(tgT [3,4,5])])<|OY (OZ 6<|mTl<|MX Nq)<|OY (sIf (mB<|m2 eqW (m2 ixW (Ny 5) ⇑0) ⇑"go") (OZ 6<|mTl<|MX<|Ni (m2 ixW (Ny 5) ⇑1) Nq) OV)<|OY (sIf (mB<|m2 eqW (m2 ixW (Ny 5) ⇑0) ⇑"if") (OZ 6<|mTl<|MX<|Ni (m2 ixW (Ny 5) ⇑4)<|Ni (m2 ixW (Ny 5) ⇑5) Nq) OV)<|OY (sIf (mB<|m2 eqW (m2 ixW (Ny 5) ⇑0) ⇑"table") (OZ 6<|mTl<|MZ<|Ni (m2 ixW (Ny 5) ⇑2) Nq) OV) bX)<|OW<|m1 Mt<|Ny 1):=rfl
def CU {β:Type}{Q:β->↑Ob->Prop}{j:Nat}{k:W->M β}(e:h[j]?=some (.lst l))(hz:⇑l+⇑mm<=sizeLine)(q:Ok (k .non) (h.set j<|.lst<|l++mm) Q):Ok (bd (dy (.loc j) [.tl mm]) k) h Q:=pd e (.inl rfl) hz q
def zw {β:Type}{k:W->M β}{Q:β->↑Ob->Prop}{bs:↑Bl}(PG:PgG ps bs)(hX:BlAt h X bs)(q:∀h' ,Nw h h'->Ok (k<|.tl<|(wyB bs).map wyT) h' Q):Ok (bd (eB [X]) k) h Q:=by
 have e0:eB [X]=bd (dZ [some X,none,none,none,none,none,none]) Mb:=rfl;rw[e0];rw[jh];have h6:∀e∈bs.map Bl.en,⇑(O9 e)<=6:=λe he=>by let(b,hb',rfl):=FY.mp he;exact lm (PG.g b hb').2.2
 have l10:=PG.l2;let(ls,LL,ll,pq):=hX;simp!;refine dC ?_;simp!;refine Lw.enum (LL.keep (Nf.mk0 (h:=h) (b:=.lst [])).nw.eq) λG hG=>?_;simp!;refine bF (I:=λi ρ h'=>∃a b c d e ,ρ=[some X,some<|.loc ⇑h,a,b,c,d,e]/\Nf h h' (.lst<|(PV<|(bs.map Bl.en).take i).map wyT)) (_,_,_,_,_,rfl,Nf.mk0) (λJ J J I=>by let(_,_,_,_,_,_,N):=I;exact hG _<|LL.keep N.nw.eq) (λi w ρ h1 hw I=>?_) λρ h1 I=>?_
 .let(a,b,c,d,f,rfl,N):=I;let(x,hx,rfl):=c9 _ _ _ _ hw;have hi:i<⇑bs:=by have:=(FD.mp hx).1;omega
  obtain⟨b,hp⟩:∃b,bs[i]?=`b:=(_,FS hi)
  let(y0,ey,_):=pq i b hp;rw[hx]at ey;cases ey;have he:(bs.map Bl.en)[i]?=some b.en:=by rw[FB,hp];rfl
  have hi':i<⇑(bs.map Bl.en):=(FD.mp he).1;have w6:=fS (bs.map Bl.en) h6 i ∅;let(nm,sts,e):=b;have t6:⇑(O9 e)<=6:=h6 e<|FK he;dsimp only;refine([some X,some<|.loc ⇑h,some<|.int<|0+(i:Int),some<|.str nm,some y0,some e.w,f],rfl,?_);have fin:∀ {Q:Fl->↑Ob->Prop},(∀h2 ,Nf h h2 (.lst<|(PV<|(bs.map Bl.en).take<|i+1).map wyT)->Q (.nx [some X,some<|.loc ⇑h,some<|.int<|0+(i:Int),some<|.str nm,some y0,some e.w,some<|.tl<|(O9 e).map nI]) h2)->Ok (bX [some X,some<|.loc ⇑h,some<|.int<|0+(i:Int),some<|.str nm,some y0,some e.w,some<|.tl<|(O9 e).map nI]) h1 Q:=by
   intro Q q2;unfold bX;have gl:∀ {α:Type} (q:M α),gd (⇑(NG 0<|(O9 e).map nI)<=sizeLine) q=q:=λq=>ag (by rw[cK,Fv];exact sz ∅);simp!;refine dQ N.new ?_;simp! only[aa,xg,gl];refine bY (I:=λn a h'=>h'=h1/\a=(cp i<|(O9 e).take n).map wyT) (rfl,rfl) cQ (λJ J J J=>trivial) (λn w a h' hw I=>?_) λa h' I=>?_;let(rfl,rfl):=I;let(y,hy,rfl):=c9 _ _ _ _ hw;rw[FB]at hy;let(t,ht,rfl):=FE.mp hy;refine(_,rfl,?_);simp! only[List.replicate,F8,Ge,aa];refine ae (rfl,?_);rw[ao ht,fK,dg ht,FF,G5,G5];rfl;let(rfl,rfl):=I;rw[cK,Fv,FW];simp!;refine CU N.new (mm:=(cp i<|O9 e).map wyT) (by rw[Fv,Fv,gK];exact sz ∅) ?_;simp!;refine ae<|q2 _ ?_;rw[ao he,eZ,dg he,FF];exact N.put _
  cases e with
  |go t=>
   unfold En.w;simp! only[aa,ix0,ix1,EN,C8];exact fin λh2 N2=>(_,rfl,_,_,_,_,_,rfl,N2)
  |iff s a b x y=>
   unfold En.w;simp! only[aa,ix0,ix4,ix5,Dx,EM];exact fin λh2 N2=>(_,rfl,_,_,_,_,_,rfl,N2)
  |tab e ts=>
   unfold En.w;simp! only[aa,ix0,ix2,Ds,Dr];exact fin λh2 N2=>(_,rfl,_,_,_,_,_,rfl,N2)
  |stop=>
   unfold En.w;simp! only[aa,ix0,Du,Dt,AQ];exact fin λh2 N2=>(_,rfl,_,_,_,_,_,rfl,N2)
 let(a,b,c,d,e,rfl,N):=I;rw[cK,show ⇑ls=⇑(bs.map Bl.en) by rw[Fv];exact ll,FW]at N;simp!;refine lH N.new ?_;simp!;exact q _ (N.put .gone).nw
def rP {bs:↑Bl}{cs:↑Int}{i:Nat}(e:(P0 ((wyB bs).map wyT)<|cs.map W.int)[i]?=`x):∃w c,(wyB bs)[i]?=`w/\cs[i]?=`c/\x=.tup [wyT w,.int c]:=by let(x,y,hx,hy,rfl):=eK e;rw[FB]at hx hy;let(w,hw,rfl):=FE.mp hx;let(c,hc,rfl):=FE.mp hy;exact(w,c,hw,hc,rfl)
def wE {bs:↑Bl}{cs os:↑Int}(PG:PgG ps bs)(BA:BlAt h BW bs)(hc:⇑(wyB bs)=⇑cs)(o1:1<=⇑os)(o2:⇑os<=100)(nd:os.Nodup):
  Ok (aR [BW,.tup<|os.map W.int,.tl<|cs.map W.int]) h λw h'=>w=.int (NW os<|zsB bs cs)/\Nw h h':=by
 have e0:aR [BW,.tup<|os.map W.int,.tl<|cs.map W.int]=bd (d6 [some BW,some<|.tup<|os.map W.int,some<|.tl<|cs.map W.int,none,none,none,none,none,none,none,none]) Mb:=rfl;rw[e0];unfold d6;have il:⇑(os.zipWith (λa J=>a) os.tail)=⇑(P0 (os.map W.int)<|os.tail.map W.int):=by rw[iJ,Gq,Gq]
 simp!;refine lI ?_;simp! only[aa,Pf o1,mJ];refine bF (I:=λi ρ h'=>∃a b ks ws ,ρ=[some BW,some<|.tup<|os.map W.int,some<|.tl<|cs.map W.int,some<|.loc ⇑h,a,b,none,none,none,none,none]/\Nd h h' ⇑h (.dic ks ws)/\AK os i ks ws/\⇑ks<=i) (_,_,[],[],rfl,Nd.mk0,(rfl,λa=>by rw[GO,gV FV];rfl),Fw _) (λJ J J J=>(trivial,trivial)) (λi w ρ h1 hw I=>?_) λρ h1 I=>?_
 .let(_,_,ks,ws,rfl,D,A,lk):=I;have hi:i<⇑(os.zipWith (λa J=>a) os.tail):=by rw[il];exact (FD.mp hw).1
  let(a,b,ha,hb,rfl):=kj hw;refine([some BW,some<|.tup<|os.map W.int,some<|.tl<|cs.map W.int,some<|.loc ⇑h,some<|.int a,some<|.int b,none,none,none,none,none],rfl,?_);simp!;rcases ep:Oo ks ws (.inl a) (.int b) with⟨ks',ws'⟩;let(l1,l2,g):=gB A.len ep;have li:i<100:=by rw[Gq]at hi;omega
  refine BB D.new (F9 (show _<=100 by omega) ↥_) ep ?_;simp!;exact ae (_,rfl,_,_,ks',ws',rfl,D.put _,A.step nd ha hb ep,∅)
 .let(_,_,ks,ws,rfl,D,A,lk):=I;have A2:∀a:Int,(atK ks ws<|.inl a).getD .non=nzW (aft os a):=λa=>by rw[A.all il,Cw]
  simp!;refine zw PG (BA.keep D.nw.eq) λh2 N2=>?_;have D2:=D.more N2;simp! only[aa,qj];refine bF (I:=λi ρ h'=>∃a b c d e f ,ρ=[some BW,some<|.tup<|os.map W.int,some<|.tl<|cs.map W.int,some<|.loc ⇑h,a,b,some<|.int<|NW os<|(zsB bs cs).take i,c,d,e,f]/\h'=h2) (_,_,_,_,_,_,rfl,rfl) (λJ J J J=>(trivial,trivial)) (λi x ρ h3 hx I=>?_) λρ h3 I=>?_
  .let(a,b,c,d,e,f,rfl,rfl):=I;let(w,n,hw,hn,rfl):=rP hx;let(en,he,_):=PX.mp (show w∈PV (bs.map Bl.en) from FK hw);have hz:=ug hw hn;rw[FB]at he;let(b0,hb,rfl):=FE.mp he;have ht:Py bs w.1=b0.en.isT:=by unfold Py;rw[hb]
   rw[ht]at hz;let(ls,LL,ll,pq):=BA.keep D2.nw.eq;let(y,ey,_):=pq w.1 b0 hb;let(kc,kl,ek,ekt):=nZ (PG.g b0<|FK hb).2.2;refine([some BW,some<|.tup<|os.map W.int,some<|.tl<|cs.map W.int,some<|.loc ⇑h,a,b,some<|.int<|NW os<|(zsB bs cs).take i,some<|nI w.1,some<|nI w.2.1,some<|nI w.2.2,some<|.int n],rfl,?_);rw[ao hz];simp!;refine LL.ix (dB ey) ?_;rw[ek];simp! only[aa,ix2,ix0,ekt];cases et:b0.en.isT with
   |true=>
    simp!;refine ae (_,rfl,_,_,_,_,_,_,by rw[gQ,np<|.inl rfl],rfl)
   |false=>
    simp! only[aa,Nk,nI];refine yO D2.new ?_;simp!;refine yP D2.new ?_;rw[A2];simp! only[aa,D8];by_cases q:aft os (w.1:Int)=some (w.2.2:Int);simp! only[aa,CF q];refine ae (_,rfl,_,_,_,_,_,_,by rw[gQ,gV (λz=>z.elim (λz=>by cases z) λz=>z q),G6],rfl);simp! only[aa,s0 q];refine ae (_,rfl,_,_,_,_,_,_,by rw[gQ,np<|.inr q],rfl)
  let(a,b,c,d,e,f,rfl,rfl):=I;rw[p6 _ _ _ _ hc,<-uf hc,FW];simp!;exact ae (rfl,D2.nw)
end
section
theorem kF (G:Int->Int->Int)(a b:Int):∀l:↑Int,Oi G (l++[a,b])=Oi G (l++[a])+G a b|[]=>by show G a b+0=0+G a b;omega|[x]=>by show G x a+(G a b+0)=G x a+0+G a b;omega|x::y::l=>by have:=kF G a b (y::l);show G x y+Oi G (y::l++[a,b])=G x y+Oi G (y::l++[a])+G a b;omega
theorem jU:∀ (cs:↑(Int×↑Int)) (b:Int×↑Int),∃c,cs.foldl bst `b=`c/\(c=b\/c∈cs)/\b.1<=c.1/\∀d∈cs,d.1<=c.1
 |[],b=>(b,rfl,.inl rfl,GD _,λJ h=>nomatch h)
 |d::cs,b=>by
  rw[GA];show∃c,cs.foldl bst (if b.1<d.1 then `d else `b)=`c/\_;by_cases z:b.1<d.1
  .rw[np z];let(c,e,h1,h2,h3):=jU cs d;refine(c,e,.inr<|h1.elim (λz=>z▸FQ)<|FX _,∅,λx hx=>?_);rcases FC.mp hx with rfl|hx
   exact h2;exact h3 x hx
  .rw[gV z];let(c,e,h1,h2,h3):=jU cs b;refine(c,e,h1.imp_right<|FX _,h2,λx hx=>?_);rcases FC.mp hx with rfl|hx
   omega;exact h3 x hx
def lE {q:Int}(nd:r.Nodup)(h:(q::l).Perm r):q∈r/\l.Perm (wo r q):=by have hq:=h.mem_iff.mp FQ;exact(hq,(h.trans (eY nd hq).symm).cons_inv)
def pc (p:Int)(l:↑Int):(p::l).Perm (l++[p]):=(GI (l₁:=l) (l₂:=[p])).symm
def BI (L:↑(PKy×Int))(h:L≠ []):NB (L.map (·.2))∈L.map (·.2)/\∀x∈L.map (·.2),x<=NB (L.map (·.2)):=f9 λz=>h<|HV.mp z
theorem oI (G:Int->Int->Int):∀ (n:Nat) (last:Int) (rest:↑Int),⇑rest=n->rest.Nodup->(tT G last rest).2.Perm rest/\Oi G (last::(tT G last rest).2)=(tT G last rest).1/\∀l:↑Int,l.Perm rest->Oi G (last::l)<=(tT G last rest).1
 |0,last,rest,hl,nd=>by have:=Hu hl;subst this;exact(FO.refl _,rfl,λl h=>by rw[FO.eq_nil h];exact GD _)
 |n+1,last,rest,hl,nd=>by
  have ih:=λp (hp:p∈rest)=>oI G n p (wo rest p) (by have:=gD nd hp;omega)<|zZ nd;rw[Aa G nd];obtain⟨p0,rest',e0⟩:∃p0 rest',rest=p0::rest':=by
   cases rest with|nil=>cases hl|cons a b=>exact(a,b,rfl)
  let(c,e,h1,h2,h3):=jU (rest'.map<|LA G last rest)<|LA G last rest p0;have ef:((rest.map<|LA G last rest).foldl bst none)=`c:=by rw[e0,Fz,GA,<-e0];exact e
  have hc:∃p∈rest,c=LA G last rest p:=by
   rcases h1 with rfl|h1
   exact(p0,by rw[e0];exact FQ,rfl);let(p,hp,rfl):=FY.mp h1;exact(p,by rw[e0];exact FX _ hp,rfl)
  have top:∀p∈rest,(LA G last rest p).1<=c.1:=λp hp=>by
   rw[e0]at hp;rcases FC.mp hp with rfl|hp
   exact h2;exact h3 _<|II hp
  rw[ef];let(p,hp,rfl):=hc;let(i1,i2,_):=ih p hp;refine((i1.cons p).trans<|eY nd hp,?_,λl hl=>?_);show G last p+Oi G (p::(tT G p<|wo rest p).2)=G last p+(tT G p<|wo rest p).1;rw[i2]
  .cases l with
   |nil=>rw[e0]at hl;exact absurd hl.symm.eq_nil ⇑_
   |cons q l=>
    let(hq,hl'):=lE nd hl;have:=(ih q hq).2.2 l hl';have t:=top q hq;show G last q+Oi G (q::l)<=_;have e:(LA G last rest q).1=G last q+(tT G q<|wo rest q).1:=rfl;show _<=(LA G last rest p).1;omega
def Do {l:Int}(le:⇑r<=9)(nd:r.Nodup)(h1:∀x∈r ,1<=x)(hl:l∈r):SK (l ,0::r)/\wo (0::r) l=0::wo r l:=by
 have l1:=h1 l hl;have ew:wo (0::r) l=0::wo r l:=by unfold wo;rw[IH<|by simp;omega]
 have wl:=gD nd hl;refine((rfl,by show ⇑r+1<=10;omega,l1,?_,?_,λp hp=>?_),ew);show ⇑(wo (0::r) l)+1=⇑r+1;rw[ew,FA];omega;show wo (0::r) l=0::(wo (0::r) l).tail;rw[ew];rfl;have hp:p∈(wo (0::r) l).tail:=hp;rw[ew]at hp;exact h1 p (PY.mp hp).1
theorem p5 (G:Int->Int->Int):∀ (n:Nat) (r:↑Int) (last:Int),⇑r=n+1->n<=8->r.Nodup->(∀x∈r ,1<=x)->last∈r->(∃l:↑Int ,l.Perm (wo r last)/\Oi G (0::(l++[last]))=F0 G (last ,0::r))/\∀l:↑Int,l.Perm (wo r last)->Oi G (0::(l++[last]))<=F0 G (last ,0::r)
 |n,r,last,hl,hn,nd,h1,hm=>by
  let(c,ew):=Do ∅ nd h1 hm;have e0:F0 G (last ,0::r)=M8 G (F0 G) (last ,0::r):=by have:=At G (λJ=>0) c;rw[G6]at this;exact this
  have wl:=gD nd hm;rw[e0];unfold M8;have ne:=qL c;show (∃l:↑Int ,l.Perm (wo r last)/\Oi G (0::(l++[last]))=NB ((M5<|wo (0::r) last).map λp=>F0 G (p ,wo (0::r) last)+G p last))/\∀l:↑Int,l.Perm (wo r last)->Oi G (0::(l++[last]))<=NB ((M5<|wo (0::r) last).map λp=>F0 G (p ,wo (0::r) last)+G p last);have ne:M5 (wo (0::r) last)≠ []:=ne;rw[ew]at ne ⊢;cases n with
  |zero=>
   have e1:wo r last=[]:=Hu ∅;rw[e1];have e2:NB ((M5 [0]).map λp=>F0 G (p ,[0])+G p last)=G 0 last:=by show F0 G (0 ,[0])+G 0 last=_;rw[show F0 G (0 ,[0])=0 from rfl];omega
   rw[e2];have e3:Oi G (0::([]++[last]))=G 0 last:=by show G 0 last+0=_;omega
   exact(([],FO.refl _,e3),λl h=>by rw[FO.eq_nil h,e3];exact GD _)
  |succ n=>
   have wn:wo r last≠ []:=λz=>by rw[z]at wl;simp at wl;omega
   have el:M5 (0::wo r last)=wo r last:=by unfold M5;rw[gV<|λz=>wn<|by injection z];rfl
   rw[el];have nd2:=zZ (p:=last) nd;have ih:=λp (hp:p∈wo r last)=>p5 G n (wo r last) p ∅ ∅ nd2 (λx hx=>h1 x (PY.mp hx).1) hp;let(m1,m2):=f9 (l:=(wo r last).map λp=>F0 G (p ,0::wo r last)+G p last) λz=>wn<|HV.mp z;have sn:∀ (l:↑Int) (p:Int),Oi G (0::(l++[p]++[last]))=Oi G (0::(l++[p]))+G p last:=λl p=>by have:=kF G p last (0::l);rw[FZ];exact this
   refine(?_,λl hl=>?_);let(p,hp,e):=FY.mp m1;let((l,pl,e2),_):=ih p hp;refine(l++[p],(GI.trans<|pl.cons p).trans<|eY nd2 hp,?_);rw[sn,e2,<-e]
   .rcases Jb l with rfl|⟨l',p,rfl⟩
    exact absurd hl.symm.eq_nil wn;let(hp,hl'):=lE nd2 ((pc p l').trans<|by simpa using hl);have i2:=(ih p hp).2 l' hl';have t:=m2 _<|II (f:=λp=>F0 G (p ,0::wo r last)+G p last) hp;rw[Jc,sn];omega
 termination_by n=>n
def fg (n:Nat):(PJ n).Nodup:=by
 let(r,e,nd,_):=aQ<|eI n;injection e with _ e
 rw[e];exact nd
theorem eD:∀n,ev (n+1)=0::PJ n|0=>rfl|n+1=>by have:=eD n;show (List.range<|n+1+1).map FN=_;rw[ID,FF,show (List.range<|n+1).map FN=0::PJ n from this,kr];show 0::(PJ n++[FN<|n+1])=0::(PJ n++[1+(n:Int)]);congr 2;show [((n+1:Nat):Int)]=_;congr 1;omega
def AA {n:Nat}(n9:n<=9)(G:Int->Int->Int){κ:↑PKy}(hκ:κ.Perm (prs n)):((κ.map λk=>(k ,F0 G k)).filter λr=>decide<|r.1.2=ev (n+1))≠ []/\NB (((κ.map λk=>(k ,F0 G k)).filter λr=>decide<|r.1.2=ev (n+1)).map (·.2))=(tT G 0<|PJ n).1:=by
 let(t1,t2,t3):=oI G _ 0 (PJ n) rfl<|fg n;have mem:∀k∈prs n,k.2=ev (n+1)->(k ,F0 G k)∈(κ.map λk=>(k ,F0 G k)).filter λr=>decide (r.1.2=ev (n+1)):=λk hk he=>Hm.mpr (FY.mpr (k,hκ.mem_iff.mpr hk,rfl),CF he);have u1:∀x∈PJ n,1<=x:=λx hx=>(PK.mp hx).1;have hi:∃k∈prs n,k.2=ev (n+1)/\(tT G 0<|PJ n).1<=F0 G k:=by
  cases n with
  |zero=>exact(kf,FQ,rfl,GD _)
  |succ n=>
   rcases Jb (tT G 0<|PJ<|n+1).2 with z|⟨l,p,e⟩
   rw[z]at t1;have:=t1.length_eq;rw[bQ]at this;cases this;rw[Jc]at e;rw[e]at t1 t2;let(hp,hl):=lE (fg<|n+1) ((pc p l).trans<|by simpa using t1);refine((p ,0::PJ (n+1)),FX _<|Og.mpr (eI _,hp),(eD _).symm,?_);rw[<-t2];exact (p5 G n (PJ<|n+1) p (bQ _) ∅ (fg _) u1 hp).2 l hl
 let(k,hk,ke,hle):=hi;have ne:((κ.map λk=>(k ,F0 G k)).filter λr=>decide<|r.1.2=ev (n+1))≠ []:=List.ne_nil_of_mem<|mem k hk ke;refine(ne,?_);let(m1,m2):=BI _ ne;have a:=m2 _ (II (f:=(·.2))<|mem k hk ke);have b:NB (((κ.map λk=>(k ,F0 G k)).filter λr=>decide<|r.1.2=ev (n+1)).map (·.2))<=(tT G 0<|PJ n).1:=by
  let((k',v),hr,e):=FY.mp m1;let(h1,h2):=Hm.mp hr;let(k2,hk2,e2):=FY.mp h1;cases e2;rw[<-e];have ke:k'.2=ev (n+1):=of_decide_eq_true h2;show F0 G k'<=_;have km:=hκ.mem_iff.mp hk2;rcases FC.mp km with z|z
  .have:n=0:=by
    rw[z,eD]at ke;have:([0]:↑Int)=0::PJ n:=ke;injection this with _ this
    have:=congrArg List.length this;rw[bQ]at this;exact this.symm
   subst this;rw[z];exact GD _
  .let(_,hm):=Og.mp z;let(p,s):=k';have ke:s=ev (n+1):=ke;rw[eD]at ke;subst ke;have hm:p∈PJ n:=hm;cases n with
   |zero=>exact absurd hm FV
   |succ n=>
    let((l,pl,e3),_):=p5 G n (PJ<|n+1) p (bQ _) ∅ (fg _) u1 hm;rw[<-e3];exact t3 _<|(GI.trans<|pl.cons p).trans<|eY (fg _) hm
 have a:F0 G k<=NB (((κ.map λk=>(k ,F0 G k)).filter λr=>decide<|r.1.2=ev (n+1)).map (·.2)):=a;omega
def oT {n:Nat}(n9:n<=9)(G:Int->Int->Int){κ:↑PKy}(hκ:κ.Perm (prs n)):ly n G (κ.map λk=>(k ,F0 G k))=true:=by
 unfold ly;rw[Fv,hκ.length_eq,CF rfl,HB,Gd];refine(Hb.mpr λk hk=>?_,Hb.mpr λk hk=>CF ?_);rw[wB,np<|hκ.mem_iff.mpr hk];rfl
 .rw[uq<|hκ.mem_iff.mpr hk];refine Int.le_of_eq ?_;rw[<-xN n9 G hk];unfold M3;by_cases e:k=kf;rw[np e,np e];rw[gV e,gV e];exact pG λp hp=>uq<|hκ.mem_iff.mpr<|vg hk e p hp
end
section
section
variable {β:Type}{h:↑Ob}{k:W->M β}{Q:β->↑Ob->Prop}{j:Nat}{l:↑W}
def BD {ns:↑Int}(e:h[j]?=some (.lst<|ns.map W.int))(q:Ok (k<|.bl<|!ns.isEmpty) h Q):Ok (bd (neW (.loc j)<|.tl []) k) h Q:=by
 refine aq (a:=.bl<|!ns.isEmpty) (h':=h) ?_ q;have o1:NU (LQ h 49) (ns.map W.int)=some (ns.map KC.int):=br (f:=LQ h 49) (g:=W.int) (k:=KC.int) (λa=>rfl) ns;have x1:LQ h 50 (.loc j)=some (.list<|ns.map KC.int):=by
  show (match h[j]? with
   |some (.lst l)=>(NU (LQ h 49) l).map KC.list
   |_=>none)=_
  simp only[e,o1];rfl
 have ca:KC.canLayAll0 (ns.map KC.int)=true:=mj ns λz hz=>by rw[KC.canLay0]
 have e2:eqB (.loc j) (.tl []) h=some ns.isEmpty:=by
  show (match LQ h 50 (.loc j) ,LQ h 50 (.tl []) with
   |some d,some e=>if d.canLay0=true/\e.canLay0=true then some (KC.eqv d e) else none
   |_,_=>none)=_
  rw[x1,show LQ h 50 (.tl [])=some (.list []) from rfl];show (if (KC.list<|ns.map KC.int).canLay0=true/\(KC.list []).canLay0=true then some (KC.eqv (.list<|ns.map KC.int)<|.list []) else none)=_;rw[np (by rw[KC.canLay0];exact ca,by rw[KC.canLay0,KC.canLayAll0]),KC.eqv];cases ns with|nil=>rw[GB,KC.eqvAll];rfl|cons a b=>rw[Fz,KC.eqvAll];rfl
 unfold neW;rw[e2]
def vT {v:Int}{w:W}(e:h[j]?=some (.lst l))(v0:0<=v)(v1:v<2^63)(ex:l[v.toNat]?=`w)(q:Ok (k w) (h.set j<|.lst<|l.eraseIdx v.toNat) Q):Ok (bd (i9 (.loc j) [.int v]) k) h Q:=by
 refine aq (a:=w) (h':=h.set j<|.lst<|l.eraseIdx v.toNat) ?_ q;have hl:=(FD.mp ex).1;have e2:ixN ⇑l v=some v.toNat:=by unfold ixN;rw[np v0,np ∅]
 unfold i9;simp only[e,np (show -(2^63)<=v/\v<2^63 from(∅,v1)),e2,ex]
end
theorem kR (f:Int->W):∀ (l:↑Int) (i:Nat),(l.map f).eraseIdx i=(l.eraseIdx i).map f|[],_=>rfl|a::l,0=>rfl|a::l,i+1=>congrArg (f a:: ·)<|kR f l i
theorem jN:∀ (l:↑Int) (i:Nat) (x:Int),l[i]?=`x->FO (x::l.eraseIdx i) l|[],_,_,h=>by cases h|a::l,0,x,h=>by cases h;exact FO.refl _|a::l,i+1,x,h=>by rw[Gn]at h;exact (FO.swap a x _).trans<|FO.cons a<|jN l i x h
noncomputable def Lp (n:Nat):↑Int:=0::PJ (n-1)
def xI {n:Nat}(hn:1<=n){x:Int}:x∈Lp n↔0<=x/\x<n:=by unfold Lp;rw[FC,PK];omega
def xJ {n:Nat}(hn:1<=n):⇑(Lp n)=n:=by unfold Lp;rw[FA,bQ];omega
noncomputable def tO:KU->M Bool:=(mB<|L2.m2 neW (Ny 2)<|mTl<|MX Nq)
noncomputable def bO:KU->M Fl:=(OZ 3<|L2.m2 Lo (Ny 3)<|Nx<|Ni (No isL i9 (Ny 2)<|Ni (Ng (arW 2 ai)<|Ni (Ny 0)<|Ni (Ng MY<|Ni (Ny 2) Nq) Nq) Nq) Nq)
def o5 {j kl:Nat}{N:Int}{m:Nat}(k1:j≠kl)(n:Nat):∀ {h:↑Ob}{os ls:↑Int},Pot h j->h[kl]?=some (.lst<|ls.map W.int)->FO (0::os++ls) (Lp m)->⇑ls<n->⇑os+⇑ls<=50->
  Ok (bh tO bO n [some<|.loc j,some<|.int N,some<|.loc kl,some<|.tup<|(0::os).map W.int]) h λx h'=>∃os':↑Int,x=.nx [some<|.loc j,some<|.int N,some<|.loc kl,some<|.tup<|(0::os').map W.int]/\FO (0::os') (Lp m)/\Pot h' j/\⇑h'=⇑h/\∀i,i≠j->i≠kl->h'[i]?=h[i]?:=by
 induction n with
 |zero=>intro h os ls R e1 p hn hb;exact absurd hn<|Nat.not_lt_zero _
 |succ n ih=>
  intro h os ls R e1 p hn hb;unfold bh tO;simp!;refine BD e1 ?_;cases ls with
  |nil=>
   simp! only[List.isEmpty_nil,aa];rw[F5]at p;exact ae (os,rfl,p,R,rfl,λJ J J=>rfl)
  |cons y ls=>
   simp! only[List.isEmpty_cons,aa];unfold bO;simp!;refine dQ e1 ?_;simp!;refine (Lw.len<|.inr (kl,rfl,e1)) ?_;simp!;have hl:⇑((y::ls).map W.int)=⇑ls+1:=⇑_;refine cq R ∅ (Jd (show ((⇑((y::ls).map W.int):Nat):Int)<=100 by rw[FA]at hb;omega) ↥_) λv h1 v0 v1 K1=>?_;have f1:h1[kl]?=some (.lst<|(y::ls).map W.int):=(K1.fr.eq _<|Ne.symm k1).trans e1;have hv:v.toNat<⇑(y::ls):=by rw[FA];omega
   obtain⟨x,hx⟩:∃x,(y::ls)[v.toNat]?=`x:=(_,FS hv)
   simp!;refine vT f1 v0 (by rw[hl]at v1;rw[FA]at hb;omega) (w:=.int x) (by rw[FB,hx];rfl) ?_;have g1:(h1.set kl<|.lst<|((y::ls).map W.int).eraseIdx v.toNat)[kl]?=some (.lst<|((y::ls).eraseIdx v.toNat).map W.int):=by rw[aU f1,kR]
   have g3:Pot (h1.set kl<|.lst<|((y::ls).map W.int).eraseIdx v.toNat) j:=by let(a,b,e):=K1.re;exact(a,b,by rw[FG<|Ne.symm k1];exact e)
   have g4:∀i,i≠j->i≠kl->(h1.set kl<|.lst<|((y::ls).map W.int).eraseIdx v.toNat)[i]?=h[i]?:=λi a b=>by rw[FG<|Ne.symm b];exact K1.fr.eq i a
   have g5:⇑(h1.set kl<|.lst<|((y::ls).map W.int).eraseIdx v.toNat)=⇑h:=by rw[F3];exact K1.fr.len
   generalize h1.set kl (.lst<|((y::ls).map W.int).eraseIdx v.toNat)=h2 at*;have ea:Lo (.tup (.int 0::os.map W.int)) (.tup [.int x])=pr (.tup<|(0::(os++[x])).map W.int):=by rw[addT _ _ _ (by rw[Fv];rw[FA]at hb;show ⇑os+1<=100;omega),Fz,FF];rfl
   simp! only[aa,PF,Fz,ea];have le:⇑((y::ls).eraseIdx v.toNat)=⇑ls:=by rw[List.length_eraseIdx_of_lt hv,FA];omega
   refine Ok.imp (ih (os:=os++[x]) (ls:=(y::ls).eraseIdx v.toNat) g3 g1 ?_ (by rw[le];rw[FA]at hn;omega)<|by rw[le,FH];rw[FA]at hb;show ⇑os+1+⇑ls<=50;omega) λx' h' (os',e,q2,q3,q5,q4)=>(os',e,q2,q3,q5.trans g5,λi a b=>by rw[q4 i a b];exact g4 i a b)
   refine FO.trans ?_ p;rw[F8,F8,FZ];refine FO.cons 0<|FO.append_left os ?_;exact jN _ _ _ hx
def vG {j:Nat}{N:Int}{m:Nat}(hN:N=(m:Int))(m1:1<=m)(m2:m<=10)(R:Pot h j):Ok (cN [.loc j,.int N]) h λw h'=>∃os:↑Int,w=.tup (os.map W.int)/\FO os (Lp m)/\Kn j h h'/\∃r,os=0::r:=by have e0:cN [.loc j,.int N]=bd (dk [some<|.loc j,some<|.int N,none,none]) Mb:=rfl;let(ra,rb,re):=R;have bj:=bm re;have eN:(N-1).toNat=m-1:=∅;have gl:∀ {α:Type} (q:M α),gd ((-(2^62)<=(1:Int)/\(1:Int)<2^62/\ -(2^62)<=N/\N<2^62)/\(N-1).toNat<=sizeLine) q=q:=λq=>ag ((↥_,↥_,∅,∅),sz ∅);rw[e0];unfold dk;simp! only[aa,lrL,gl,eN,jH];refine dC ?_;simp! only[aa,PF];refine ap (o5 (j:=j) (kl:=⇑h) (N:=N) (m:=m) ∅ 12 (os:=[]) (ls:=PJ<|m-1) (ra,rb,dX re) bL (FO.refl _) (by rw[bQ];omega) (by rw[bQ];show 0+(m-1)<=50;omega)) λx h2 qq_=>?_;let(os,e1,p,q3,q5,q4):=qq_;subst e1;simp!;refine ae (0::os,rfl,p,(by rw[q5,FH];omega,λi hi hj=>by rw[q4 i hj ∅,F2 hi],q3),os,rfl)
end
section
def D6 {k:Nat}(hk:k<10):∃s:Str,ixW (.str "abcdefghij") (.int<|0+(k:Int))=pr (.str s)/\Lo (.str "n") (.str s)=pr (.str<|"n"++s)/\KC.strOk ("n"++s)=true:=by have:k=0\/k=1\/k=2\/k=3\/k=4\/k=5\/k=6\/k=7\/k=8\/k=9:=∅;rcases this with rfl|rfl|rfl|rfl|rfl|rfl|rfl|rfl|rfl|rfl<;>exact(_,zB ⋯ rfl,xM ⋯,⋯)
abbrev PS:↑(Str×Int):=[("a" ,3)]
noncomputable def blW (b:Bl):W:=.tup [.str b.nm,.tl<|b.sts.map Sm.w,b.en.w]
noncomputable def pgW (bs:↑Bl):W:=.tup [.tl<|PS.map bxW,.tl<|bs.map blW]
def EO (h:↑Ob)(bs:↑Bl):BlAt h (.tl<|bs.map blW) bs:=(_,.inl rfl,Fv ..,λi b hb=>(_,by rw[FB,hb];rfl,.inl rfl))
def hU (h:↑Ob)(bs:↑Bl):PgAt h (pgW bs) PS bs:=(_,_,_,rfl,.inl rfl,.inl rfl,Fv ..,λi b hb=>(_,by rw[FB,hb];rfl,.inl rfl))
abbrev xa:Xe:=.box "a"
def sg2n {v:Int}(h0:0<=v)(h1:v<2):∃s:Str,atI [W.str "<",.str "="] v=some (.str s)/\(s="<"\/s="="):=by
 have:v=0\/v=1:=∅;rcases this with rfl|rfl
 exact("<",rfl,.inl rfl);exact("=",rfl,.inr rfl)
def ph {x:Int}{m:Nat}(h0:0<=x)(h1:x<(m:Int)):∃n:Nat,W.int x=nI n/\n<m:=(x.toNat,by unfold nI;congr 1;omega,∅)
def xP:xa.G ["a"] 6:=FR.mpr rfl
def CY {j:Nat}{m:Nat}{N:Int}(hN:N=(m:Int))(hm:1<=m)(hz:m<=100)(R:Pot h j):Ok (dI [.loc j,.int N]) h λw h'=>∃e:En,w=e.w/\e.G ["a"] m/\Kn j h h':=by
 have e0:dI [.loc j,.int N]=bd (ft [some<|.loc j,some<|.int N,none,none,none]) Mb:=rfl;have hz':N<2^200:=Jd (show N<=100 by omega) ↥_;have hm:0<N:=∅;rw[e0];unfold ft;simp!;refine cq R ↥_ ↥_ λkind h1 k0 k8 K1=>?_;simp!;refine cq K1.re hm hz' λx h2 x0 x1 K2=>?_;simp!;refine cq K2.re hm hz' λy h3 y0 y1 K3=>?_;let(xn,ex,xl):=ph (m:=m) x0 ∅;let(yn,ey,yl):=ph (m:=m) y0 ∅;rw[ex,ey];have K13:=(K1.trans K2).trans K3;by_cases c0:kind=0;simp! only[aa,CF c0,PF];exact ae (.stop,rfl,trivial,K13.kn)
 by_cases c3:kind<3;simp! only[aa,s0 c0,CF c3,PF];exact ae (.go xn,rfl,xl,K13.kn)
 by_cases c7:kind=7
 .simp! only[aa,s0 c0,s0 c3,CF c7,PF,ah];refine cq K13.re ↥_ ↥_ λn h4 n0 n1 K4=>?_;have K14:=K13.trans K4;have gl:∀ {α:Type} (q:M α),gd (⇑(My 0 (1+n).toNat)<=sizeLine) q=q:=λq=>ag (by rw[cu];exact sz ∅);simp! only[aa,i6 (show (-(2^62):Int)<=1+n by omega) (show 1+n<2^62 by omega),gl];refine bY (I:=λi a h'=>∃ts:↑Nat ,a=ts.map nI/\⇑ts=i/\(∀t∈ts ,t<m)/\Kp j h h') ([],rfl,rfl,λt ht=>absurd ht FV,K14) cQ (λJ J J J=>trivial) (λi w a h' hw I=>?_) λa h' I=>?_
  .let(ts,rfl,rfl,q,K5):=I;refine(_,rfl,?_);simp! only[List.replicate,F8,Ge,aa];refine Ok.imp (lJ K5.re hm hz') λw h6 qz=>?_;let(v,e,v0,v1,K6):=qz;let(vn,ev,vl):=ph (m:=m) v0 ∅;refine(ts++[vn],by rw[e,ev,FF];rfl,⇑_,λt ht=>?_,K5.trans K6);rcases Gg.mp ht with ht|ht
   exact q t ht;rw[FR.mp ht];exact vl
  let(ts,rfl,e,q,K5):=I;rw[cu]at e;simp! only[aa,gF,PF];exact ae (.tab xa ts,rfl,(xP,∅,∅,q),K5.kn)
 .by_cases c6:kind=6;simp! only[aa,s0 c0,s0 c3,s0 c7,CF c6,PF];refine cq K13.re ↥_ ↥_ λv h4 v0 v1 K4=>?_;let(s,es,sk):=sg2n v0 v1;simp! only[aa,fR es];refine cq K4.re ↥_ ↥_ λn h5 n0 n1 K5=>?_;simp! only[aa,PF];exact ae (.iff s xa (.num n) xn xn,rfl,(sk,xP,(n0,n1),xl,xl),((K13.trans K4).trans K5).kn);simp! only[aa,s0 c0,s0 c3,s0 c7,s0 c6,PF];refine cq K13.re ↥_ ↥_ λv h4 v0 v1 K4=>?_;let(s,es,sk):=sg2n v0 v1;simp! only[aa,fR es];refine cq K4.re ↥_ ↥_ λn h5 n0 n1 K5=>?_;simp! only[aa,PF];exact ae (.iff s xa (.num n) xn yn,rfl,(sk,xP,(n0,n1),xl,yl),((K13.trans K4).trans K5).kn)
noncomputable def stsW:↑W:=[.tl [],.tl [.tup [.str "say",.tup [.str "box",.str "a"]]],.tl [.tup [.str "ask",.str "a"]],.tl [.tup [.str "put",.str "a",.tup [.str "number",.int 7]],.tup [.str "ask",.str "a"]]]
def AN {v:Int}(h0:0<=v)(h1:v<4):∃sts:↑Sm,atI stsW v=some (.tl<|sts.map Sm.w)/\⇑sts<=2/\∀x∈sts,x.G ["a"]:=by
 have:v=0\/v=1\/v=2\/v=3:=∅;have al:∀l:↑Sm,(∀x∈l ,x=.say xa\/x=.ask "a"\/x=.put "a" (.num 7))->∀x∈l,x.G ["a"]:=λl h x hx=>by
  rcases h x hx with rfl|rfl|rfl
  exact xP;exact FR.mpr rfl;exact(FR.mpr rfl,↥_,↥_)
 rcases this with rfl|rfl|rfl|rfl
 exact([],rfl,⇑_,al _ ⇑_);exact([.say xa],rfl,⇑_,al _ ⇑_);exact([.ask "a"],rfl,⇑_,al _ ⇑_);exact([.put "a"<|.num 7,.ask "a"],rfl,⇑_,al _ ⇑_)
noncomputable def bP:KU->M Fl:=(sEx<|No isL cA (Ny 3)<|Ni (Nx<|Ni (m2 Lo ⇑"n" (m2 ixW ⇑"abcdefghij" (Ny 4)))<|Ni (mTl<|MZ<|Ni (m2 ixW (Ny 2)<|Ng (arW 2 ai)<|Ni (Ny 0)<|Ni ⇑4 Nq) Nq)<|Ni (Ng (arW 2 dI)<|Ni (Ny 0)<|Ni (Ny 1) Nq) Nq) Nq)
def f7:cG=(OY (OZ 2<|mTl<|MX<|Ni (mTl<|MX Nq)<|Ni (mTl<|MX<|Ni (Nx<|Ni ⇑"say" (Ni (Nx<|Ni ⇑"box" (Ni ⇑"a" Nq)) Nq)) Nq)<|Ni (mTl<|MX<|Ni (Nx<|Ni ⇑"ask" (Ni ⇑"a" Nq)) Nq)<|Ni (mTl<|MX<|Ni (Nx<|Ni ⇑"put" (Ni ⇑"a" (Ni (Nx<|Ni ⇑"number" (Ni ⇑7 Nq)) Nq)))<|Ni (Nx<|Ni ⇑"ask" (Ni ⇑"a" Nq)) Nq) Nq)<|OY (OZ 3<|Np<|MX Nq)<|OY (OP (Nv (Ni (Ny 1) Nq) Ow) (tgN 4) bP)<|OW<|Nx<|Ni (mTl<|MX<|Ni (Nx<|Ni ⇑"a" (Ni ⇑3 Nq)) Nq)<|Ni (m1 Mt<|Ny 3) Nq):=rfl
def oW {j:Nat}{N:Int}{m:Nat}(hN:N=(m:Int))(m1:1<=m)(m2:m<=10)(R:Pot h j):Ok (bV [.loc j,.int N]) h λw h'=>∃bs:↑Bl,w=pgW bs/\⇑bs=m/\PgG PS bs/\(∀b∈bs ,⇑b.sts<=2)/\Kn j h h':=by
 have e0:bV [.loc j,.int N]=bd (cG [some<|.loc j,some<|.int N,none,none,none]) Mb:=rfl;have bj:j<⇑h:=by let(a,b,e):=R;exact bm e
 rw[e0,f7];simp! only[aa,PF];refine dC ?_;simp! only[aa,i6 (show (-(2^62):Int)<=N by omega)<|show N<2^62 by omega];have eN:N.toNat=m:=∅;refine bF (I:=λi ρ h'=>∃a ,∃bs:↑Bl,ρ=[some<|.loc j,some<|.int N,some<|.tl stsW,some<|.loc ⇑h,a]/\Kn j h h'/\h'[⇑h]?=some (.lst<|bs.map blW)/\⇑bs=i/\∀b∈bs,b.G ["a"] m/\⇑b.sts<=2) (_,[],rfl,(⇑_,λi hi J=>by rw[F2 hi],?_),bL,rfl,λb hb=>absurd hb FV) (λJ J J J=>trivial) (λi w ρ h1 hw I=>?_) λρ h1 I=>?_;let(a,b,e):=R;exact(a,b,dX e)
 .let(a,bs,rfl,K,e1,l1,g1):=I;let(rfl,hi):=dG _ _ _ _ hw;rw[eN]at hi;let(s,s1,s2,s3):=D6 (k:=i) ∅;refine(_,rfl,?_);unfold bP;simp!;refine dQ e1 ?_;simp! only[aa,s1,s2];refine cq K.re ↥_ ↥_ λv h2 v0 v1 K2=>?_;let(sts,t1,t2,t3):=AN v0 v1;simp! only[aa,fR t1,bp,qK];refine ap (CY hN m1 ∅ K2.re) λw h3 qq_=>?_;let(e,ew,eg,K3):=qq_;subst ew;have K4:=(K.trans K2.kn).trans K3;have e3:h3[⇑h]?=some (.lst<|bs.map blW):=by rw[K3.eq _ (FT (bm e1) K2.kn.le) ∅,K2.kn.eq _ (bm e1) ∅];exact e1
  simp! only[aa,PF];refine ju e3 (by rw[Fv];exact F9 (show _<=10 by omega) ↥_) ?_;simp!;refine ae (_,rfl,_,bs++[("n"++s,sts,e)],rfl,(by rw[F3];exact K4.le,λi hi hj=>by rw[FG ∅];exact K4.eq i hi hj,?_),?_,by rw[FH,l1];rfl,λb hb=>?_);let(a,b,q):=K4.re;exact(a,b,by rw[FG ∅];exact q);rw[aU e3,FF];rfl
  .rcases Gg.mp hb with hb|hb
   exact g1 b hb;rw[FR.mp hb];exact((by show ⇑sts<=8;omega,t3,eg),t2)
 let(a,bs,rfl,K,e1,l1,g1):=I;rw[cu,eN]at l1;simp!;refine lH e1 ?_;simp! only[aa,PF];refine ae (bs,rfl,l1,(⟨↥_⟩,λp hp=>by rw[FR.mp hp];decide,∅,∅,by rw[l1];exact λb hb=>(g1 b hb).1),λb hb=>(g1 b hb).2,(by rw[F3];exact K.le,λi hi hj=>by rw[FG ∅];exact K.eq i hi hj,?_));let(a,b,q):=K.re;exact(a,b,by rw[FG ∅];exact q)
end
section
set_option tactic.hygienic true in
theorem fM {bs:↑Bl}(G:PgG ps bs):∀ (n p:Nat) (s:Sta),p<⇑bs->((OA nums bs n p s).en="on"/\(OA nums bs n p s).went.length=n)\/(((OA nums bs n p s).en="stop"\/(OA nums bs n p s).en="out")/\(OA nums bs n p s).went.length<n)
 |0,p,s,h=>.inl (rfl,rfl)
 |n+1,p,s,h=>by
  obtain⟨b,hb⟩:∃b,bs[p]?=`b:=(_,FS h)
  have g:=(G.g b<|FK hb).2.2;unfold OA;rw[hb];dsimp only;split;exact .inr (.inr rfl,HK _)
  .split;exact .inr (.inl rfl,HK _)
   .rename_i _ hs;rcases fM (nums:=nums) G n (to (doL nums s b.sts).1.σ b.en) (doL nums s b.sts).1 (uw _ g<|by simpa using hs) with⟨h1,h2⟩|⟨h1,h2⟩
    exact .inl (h1,by rw[FA,h2]);exact .inr (h1,by rw[FA];omega)
section
variable {ps:↑(Str×Int)}{bs:↑Bl}{os:↑Nat}
noncomputable def js (bs:↑Bl)(os:↑Nat)(L:↑Way):Nat:=(L.map λw=>(aV bs os w).2).sum
theorem LX:∀l:↑Way,(LZ bs os l).2=js bs os l|[]=>rfl|w::l=>by show (aV bs os w).2+(LZ bs os l).2=_;rw[LX l];rfl
theorem uy (f:Way->Nat):∀ {wy:↑Way},wy.Nodup->(wy.map λw=>f w*(if w0=w then 1 else 0)).sum=if w0∈wy then f w0 else 0
 |[],_=>rfl
 |w::wy,nd=>by
  let(n1,n2):=Gk.mp nd;rw[Fz,Gx,uy f n2];by_cases e:w0=w;subst e;rw[np rfl,gV n1,np FQ];omega
  .rw[gV e];by_cases m:w0∈wy;rw[np m,np<|FX _ m];omega;rw[gV m,gV<|by simp [e,m]];rfl
theorem hJ (f g:Way->Nat):∀wy:↑Way,(wy.map λw=>f w+g w).sum=(wy.map f).sum+(wy.map g).sum|[]=>rfl|w::wy=>by rw[Fz,Gx,hJ f g wy,Fz,Gx,Fz,Gx];omega
theorem nQ {wy:↑Way}(nd:wy.Nodup):∀ {L:↑Way},(∀w∈L ,w∈wy)->(wy.map λw=>(aV bs os w).2*L.count w).sum=js bs os L
 |[],_=>by
  have:(wy.map λw=>(aV bs os w).2*([]:↑Way).count w)=wy.map λJ=>0:=Go λw J=>by rw[List.count_nil,Nat.mul_zero]
  rw[this];clear this nd
  induction wy with|nil=>rfl|cons w wy ih=>rw[Fz,Gx,ih λJ h=>nomatch h];rfl
 |v::L,h=>by
  have e:(wy.map λw=>(aV bs os w).2*(v::L).count w)=wy.map λw=>(aV bs os w).2*L.count w+(aV bs os w).2*(if v=w then 1 else 0):=Go λw J=>by
   rw[List.count_cons,Nat.mul_add];by_cases e:v=w;subst e;simp;rw[gV e,gV<|by simpa using e]
  rw[e,hJ,nQ nd λw hw=>h w<|FX _ hw,uy (λw=>(aV bs os w).2) nd,np<|h v FQ];show _=(aV bs os v).2+js bs os L;omega
def uE {sd t:Nat}:(cB b nx sd t).1<=2:=by
 unfold cB;have j1:jmp nx t<=1:=by unfold jmp;split<;>omega
 cases b with
 |stop=>exact FU _
 |tab e ts=>show 1<=2;decide
 |go t'=>show jmp nx t<=2;omega
 |iff c a b x y=>
  dsimp only;split;show jmp nx t<=2;omega;show 1+(if _ then 1 else 0)<=2;split<;>omega
theorem n6 (s2:∀b∈bs ,⇑b.sts<=2):∀l:↑(Nat×Nat×Nat),(LZ bs os l).1<=4*⇑l
 |[]=>FU _
 |v::l=>by
  have ih:=n6 s2 l;have h1:cj bs v.1<=2:=by
   unfold cj;cases hb:bs[v.1]? with|none=>exact FU _|some b=>exact s2 b<|FK hb
  have h2:(aV bs os v).1<=2:=by
   unfold aV;cases hb:bs[v.1]? with|none=>exact FU _|some b=>exact uE
  show cj bs v.1+(aV bs os v).1+(LZ bs os l).1<=_;rw[FA];omega
def xV (s2:∀b∈bs ,⇑b.sts<=2)(p:Nat):cj bs p<=2:=by
 unfold cj;cases hb:bs[p]? with|none=>exact FU _|some b=>exact s2 b<|FK hb
def uP (PG:PgG ps bs)(s2:∀b∈bs ,⇑b.sts<=2)(O:Ord ⇑bs os)(hn:(OA nums bs 60 0<|Pp ps).en≠"on"):OC nums (MS bs os) 400 0 (Pp ps)=((OA nums bs 60 0<|Pp ps).said,(OA nums bs 60 0<|Pp ps).en,js bs os (OA nums bs 60 0<|Pp ps).went):=by
 have sm:=sim (nums:=nums) PG O 60 0 (Pp ps) PG.l1;rw[pos0 O]at sm;have sh:=fM (nums:=nums) PG 60 0 (Pp ps) PG.l1;generalize OA nums bs 60 0 (Pp ps)=o at*;have dl:=n6 (os:=os) s2 o.went;have sl:=xV s2<|MU 0 o.went;rcases sh with⟨e,_⟩|⟨e|e,l⟩
 exact absurd e hn;rw[sm.2.1 e 400 ∅,e,LX];rw[sm.2.2 e 400 ∅,e,LX]
theorem oz:∀ (l:↑Int) (i:Nat) (a:Int),l.Nodup->l[i]?=`a->l.tail[i]?=none->aft l a=none|[],i,a,_,h,_=>by simp at h|[x],i,a,_,_,_=>rfl|x::y::r,0,a,_,_,h2=>by simp at h2|x::y::r,i+1,a,nd,h,h2=>by let(h1,h3):=Gk.mp nd;rw[Gn]at h;unfold aft;rw[gV<|λz=>h1<|by rw[z];exact FK h];refine oz (y::r) i a h3 h ?_;rw[GT,Gn]at h2;exact h2
def zV (O:Ord ⇑bs os){p:Nat}(hp:p<⇑bs):aft (os.map FN) (p:Int)=(nxt os p).map FN:=by
 let(i,hi):=O.ix hp;have nd:(os.map FN).Nodup:=lK (λa b h=>FN.inj h) O.nodup;have ha:(os.map FN)[i]?=some (p:Int):=by rw[FB,hi];rfl
 rw[vX O hi];have et:(os.map FN).tail[i]?=(os[i+1]?).map FN:=by rw[List.getElem?_tail,FB]
 cases hb:os[i+1]? with
 |none=>
  rw[hb]at et;have:=oz (os.map FN) i p nd ha et;rw[this];rfl
 |some b=>
  rw[hb]at et;exact p3 _ i _ _ nd ha et
def xZ (O:Ord ⇑bs os){w:Way}(hw:w∈wyB bs):(((aV bs os w).2:Nat):Int)=if Py bs w.1=true\/aft (os.map FN) (w.1:Int)≠some (w.2.2:Int) then 1 else 0:=by
 let(en,h1,h2):=PX.mp (show w∈PV (bs.map Bl.en) from hw);rw[FB]at h1;let(b0,hb,rfl):=FE.mp h1;have hp:=(FD.mp hb).1;rw[zV O hp];have ej:(Option.map FN (nxt os w.1)≠some (w.2.2:Int))↔ ¬nxt os w.1=some w.2.2:=by
  cases nxt os w.1 with
  |none=>simp
  |some x=>
   show (some (FN x)≠some (w.2.2:Int))↔_;constructor;intro h z;exact h (by rw[Option.some.inj z];rfl);intro h z;exact h (by have:=Option.some.inj z;have:(x:Int)=w.2.2:=this;congr 1;omega)
 have et:Py bs w.1=b0.en.isT:=by unfold Py;rw[hb]
 have es:aV bs os w=cB b0.en (nxt os w.1) w.2.1 w.2.2:=by unfold aV;rw[hb]
 have jj:((jmp (nxt os w.1) w.2.2:Nat):Int)=if Option.map FN (nxt os w.1)≠some (w.2.2:Int) then 1 else 0:=by
  unfold jmp;by_cases z:nxt os w.1=some w.2.2;rw[np z,gV<|λy=>ej.mp y z];rfl;rw[gV z,np<|ej.mpr z];rfl
 rw[et,es];cases he:b0.en with
 |stop=>rw[he]at h2;cases h2
 |tab e ts=>rw[np<|.inl rfl];rfl
 |go t'=>
  show ((jmp (nxt os w.1) w.2.2:Nat):Int)=_;rw[jj];by_cases z:Option.map FN (nxt os w.1)≠some (w.2.2:Int);rw[np z,np<|.inr z];rw[gV z,gV<|λy=>y.elim (λy=>nomatch y) z]
 |iff c2 a1 b1 x1 y1=>
  rw[show (cB (.iff c2 a1 b1 x1 y1) (nxt os w.1) w.2.1 w.2.2).2=jmp (nxt os w.1) w.2.2 from by unfold cB;dsimp only;split<;>rfl,jj];by_cases z:Option.map FN (nxt os w.1)≠some (w.2.2:Int);rw[np z,np<|.inr z];rw[gV z,gV<|λy=>y.elim (λy=>nomatch y) z]
noncomputable def csL (bs:↑Bl)(L:↑Way):↑Int:=(wyB bs).map λw=>((L.count w:Nat):Int)
def lF (O:Ord ⇑bs os)(hL:∀w∈L ,w∈wyB bs):NW (os.map FN) (zsB bs<|csL bs L)=(js bs os L:Int):=by
 rw[<-nQ (zY bs) hL];unfold NW zsB csL;rw[I0,Ja,F4];have:∀l:↑Way,(∀w∈l ,w∈wyB bs)->(l.map<|(λz:Zw=>if z.1=true\/aft (os.map FN) z.2.1≠some z.2.2.1 then z.2.2.2 else 0)∘λw=>(Py bs w.1 ,(w.1:Int),(w.2.2:Int),((L.count w:Nat):Int))).sum=(((l.map λw=>(aV bs os w).2*L.count w).sum:Nat):Int):=λl=>by
  induction l with
  |nil=>intro _;rfl
  |cons w l ih=>
   intro h;have s:=xZ O<|h w FQ;rw[Fz,Gx,Fz,Gx,ih λx hx=>h x<|FX _ hx,Int.natCast_add,Int.natCast_mul,s];congr 1;show (if Py bs w.1=true\/aft (os.map FN) (w.1:Int)≠some (w.2.2:Int) then ((L.count w:Nat):Int) else 0)=_;by_cases z:Py bs w.1=true\/aft (os.map FN) (w.1:Int)≠some (w.2.2:Int);rw[np z,np z,Int.one_mul];rw[gV z,gV z,Int.zero_mul]
 exact this _ λw h=>h
end
def w5 {h:↑Ob}{a b:Nat}{l:↑Int}{en:Str}{j:Int}(ea:h[a]?=some (.lst<|l.map W.int))(eb:h[b]?=some (.lst<|l.map W.int))(hc:KC.canLay0 (.str en)=true):eqW (.tup [.loc a,.tup [.str en],.int j]) (.tup [.loc b,.tup [.str en],.int j]) h=.ok (.bl true) h:=by
 have ei:∀n,NU (LQ h<|n+1) (l.map W.int)=some (l.map KC.int):=λn=>br (f:=LQ h<|n+1) (g:=W.int) (k:=KC.int) (λJ=>rfl) l;have e1:∀c,h[c]?=some (.lst<|l.map W.int)->LQ h 50 (.tup [.loc c,.tup [.str en],.int j])=some (.tuple [.list<|l.map KC.int,.tuple [.str en],.int j]):=λc ec=>by
  have:LQ h 49 (.loc c)=some (.list<|l.map KC.int):=by
   show (match h[c]? with
    |some (.lst l)=>(NU (LQ h 48) l).map KC.list
    |_=>none)=_
   simp only[ec,ei 47];rfl
  have e:NU (LQ h 49) [.loc c,.tup [.str en],.int j]=some [.list<|l.map KC.int,.tuple [.str en],.int j]:=by unfold NU;rw[this];rfl
  show (NU (LQ h 49) [.loc c,.tup [.str en],.int j]).map KC.tuple=_;rw[e];rfl
 have cl:(KC.tuple [.list<|l.map KC.int,.tuple [.str en],.int j]).canLay0=true:=by
  have c1:KC.canLayAll0 (l.map KC.int)=true:=mj l λz hz=>by rw[KC.canLay0]
  simp only[KC.canLay0,KC.canLayAll0,c1,Bool.and_true,HB];rw[KC.canLay0]at hc;exact hc
 unfold eqW eqB;have v1:vOf (.tup [.loc a,.tup [.str en],.int j])=none:=rfl;have v2:vOf (.tup [.loc b,.tup [.str en],.int j])=none:=rfl;rw[v1];dsimp only;rw[e1 a ea,e1 b eb];dsimp only;rw[np (cl,cl),nX _ cl]
end
section
def yE (ts:↑Int){n:Nat}:∀x∈ts.map W.int,Pd (n+1) x:=λx hx=>by let(t,_,rfl):=FY.mp hx;exact .int
def wM {ks:↑Nat}{i:Int}(h0:0<=i)(h1:i<(⇑ks:Int)):∃k∈ks,ixW (.tl<|ks.map W.loc) (.int i)=pr (.loc k):=by have hi:i.toNat<⇑ks:=∅;exact(ks[i.toNat],HA _,fR<|eJ h0<|by rw[FB,FS hi];rfl)
def Pots.nw (P:Pots h ks)(K:Nw h h'):Pots h' ks:=λk hk=>by let(a,b,e):=P k hk;exact(a,b,K.get e)
noncomputable def T30:Int:=10^(30:Int).toNat
def t30a:0<T30:=⋯
def t30b:T30<2^200:=⋯
def pw30:Oe (.int 10) (.int 30)=pr (.int T30):=ng (i:=10) (j:=30) (↥_,↥_,↥_)
def vI {m:Nat}(m1:1<=m)(h:(0::r).Perm (Lp m)):∃os:↑Nat,Ord m os/\(0::r).map W.int=os.map nI/\0::r=os.map FN:=by
 have h0:∀x∈(0::r),0<=x:=λx hx=>((xI m1).mp<|h.mem_iff.mp hx).1;have e:0::r=((0::r).map Int.toNat).map FN:=by
  rw[F4]
  conv=>lhs;rw[<-List.map_id (0::r)]
  refine Go λx hx=>?_;have:=h0 x hx;show x=((x.toNat:Nat):Int);omega
 refine((0::r).map Int.toNat,(?_,rfl),?_,e)
 .have p:=h.map Int.toNat;refine p.trans<|FO.of_eq ?_;obtain⟨n,rfl⟩:∃n,m=n+1:=(m-1,∅)
  show (0::PJ (n+1-1)).map Int.toNat=_;rw[Hi,<-eD,F4]
  conv=>rhs;rw[<-List.map_id (List.range<|n+1)]
  exact Go λx J=>rfl
 .conv=>lhs;rw[e]
  rw[F4];rfl
def sB {m:Nat}{N:Int}(hN:N=(m:Int))(m1:1<=m)(m2:m<=10)(hp:(0::r).Perm (Lp m))(h:↑Ob):Ok (cy [.tup<|(0::r).map W.int,.int N]) h λw h'=>w=.bl true/\h'=h:=by
 have e0:cy [.tup<|(0::r).map W.int,.int N]=bd (cW [some<|.tup<|(0::r).map W.int,some<|.int N,none]) Mb:=rfl;rw[e0];unfold cW;have hl:=hp.length_eq;rw[xJ m1]at hl;have ln:MY [.tup<|(0::r).map W.int]=pr (.int N):=by show pr (W.int (⇑((0::r).map W.int):Nat))=_;rw[Fv,hl,hN]
 have i0:ixW (.tup<|(0::r).map W.int) (.int 0)=pr (.int 0):=ix0 ..;have es:iT [.tup<|(0::r).map W.int]=pr (.tl<|(ev m).map W.int):=by
  show (match NU iOf ((0::r).map W.int) with
   |some ns=>gd (⇑ns<64) (pr<|W.tl<|(srt ns).map W.int)
   |none=>no)=_
  rw[Ms];show gd (⇑(0::r)<64) (pr<|W.tl<|(srt (0::r)).map W.int)=_;have ee:ev m=Lp m:=by
   obtain⟨n,rfl⟩:∃n,m=n+1:=(m-1,∅)
   exact eD n
  have pw:(ev m).Pairwise (· <= ·):=by refine IY.mpr (List.pairwise_lt_range.imp λh=>?_);show ((_:Nat):Int)<=((_:Nat):Int);omega
  rw[ag ∅,iQ ((iR _).trans<|hp.trans<|FO.of_eq ee.symm) (uD _) pw]
 have gr:∀ {α:Type} (q:M α),gd ((-(2^62)<=N/\N<2^62)/\N.toNat<=sizeLine) q=q:=λq=>ag ((∅,∅),sz ∅);have eN:My 0 N.toNat=(ev m).map W.int:=by rw[show N.toNat=m by omega,qX]
 have eq:eqW (.tl<|(ev m).map W.int) (.tl<|(ev m).map W.int)=pr (.bl true):=wZ<|yE (ev m) (n:=48);simp! only[aa,zC (c:="tuple") (b:=true) ↥_ ↥_,ln,i0,decide_true,mK];generalize hW:(0::r).map W.int=LW at*;refine bF (I:=λi ρ h'=>∃a ,ρ=[some<|.tup LW,some<|.int N,a]/\h'=h) (_,rfl,rfl) (λJ J J J=>trivial) (λi w ρ h1 hw I=>?_) λρ h1 I=>?_;let(a,rfl,rfl):=I;rw[<-hW,FB]at hw;let(x,_,rfl):=FE.mp hw;refine(_,rfl,?_);simp! only[aa,qV (i:=x) (c:="int") (b:=true) ↥_ ↥_,qV (i:=x) (c:="bool") (b:=false) ↥_ ↥_];exact ae (_,rfl,_,rfl,rfl);let(a,rfl,rfl):=I;simp! only[aa,es,M4,gr,eN,eq];exact ae (rfl,rfl)
def xK {bs:↑Bl}{os:↑Nat}{k1 k2:Nat}{due:Int}(PG:PgG PS bs)(s2:∀b∈bs ,⇑b.sts<=2)(O:Ord ⇑bs os)(hn:(OA nums bs 60 0<|Pp PS).en≠"on")(hc:KC.canLay0 (.str (OA nums bs 60 0<|Pp PS).en)=true)
  (e1:h[k1]?=some (.lst<|(OA nums bs 60 0<|Pp PS).said.map W.int))(hd:due=(js bs os (OA nums bs 60 0<|Pp PS).went:Int)):
  Ok (aG [pgW bs,.tup<|os.map nI,.tl<|nums.map W.int,.tup [.loc k1,.tup [.str (OA nums bs 60 0<|Pp PS).en],.loc k2],.int due]) h λw h'=>w=.bl true/\Nw h h':=by
 have e0:aG [pgW bs,.tup<|os.map nI,.tl<|nums.map W.int,.tup [.loc k1,.tup [.str (OA nums bs 60 0<|Pp PS).en],.loc k2],.int due]=bd (bZ [some<|pgW bs,some<|.tup<|os.map nI,some<|.tl<|nums.map W.int,some<|.tup [.loc k1,.tup [.str (OA nums bs 60 0<|Pp PS).en],.loc k2],some<|.int due,none,none]) Mb:=rfl;rw[e0];unfold bZ;have PA:=hU h bs;have px0:ixW (pgW bs) (.int 0)=pr (.tl<|PS.map bxW):=ix0 ..;have RG:=CA PG O;have rs:=uP (nums:=nums) PG s2 O hn;generalize hx:pgW bs=x at*;simp!;refine ap (zt PG O PA) λw h2 qq_=>?_;let(f2,kf,hkf,ew,ef):=qq_;subst ew;have N2:Nw h h2:=(by have:=bm ef;omega,f2)
 simp! only[aa,px0,bp];refine ap (mW (nums:=nums) (bx:=.tl<|PS.map bxW) (rw:=.loc kf) (nm:=.tl<|nums.map W.int) (bound:=400) RG PG.bx.len PG.bv (.inl rfl) (.inr (kf,rfl,ef)) (.inl rfl) ↥_) λw h3 qq_=>?_;let(f3,k3,hk3,ew,ek):=qq_;subst ew;rw[rs]at ek ⊢;have N3:Nw h2 h3:=(by have:=bm ek;omega,f3)
 generalize OA nums bs 60 0 (Pp PS)=o at*;rw[show nI (js bs os o.went)=W.int due by rw[hd];rfl];simp! only[aa,ix0,ix1];refine aq (w5 (j:=due) (by exact ek) (N3.get<|N2.get e1) hc) ?_;simp!;exact ae (rfl,N2.trans N3)
noncomputable def rX (π:Ch):KU->M Fl:=(OY (sIf (mB<|m2 neW (Ng (arW 3 g7)<|Ni (Ny 3)<|Ni (Ny 11)<|Ni (mTl<|MZ<|Ni (Ny 7) Nq) Nq)<|Ng (arW 3 aR)<|Ni (m2 ixW (Ny 3) ⇑1)<|Ni (Ny 11)<|Ni (Ny 7) Nq) (OW<|mC<|.bl false) OV)<|OY (sIf (mB<|m2 eqW (m2 ixW (Ny 6) ⇑1)<|Nx<|Ni ⇑"on" Nq) (OW<|mC<|.bl true) OV)<|OY (sIf (Nr<|mB<|Ng (arW 5 aG)<|Ni (Ny 3)<|Ni (Ny 8)<|Ni (Ny 5)<|Ni (Ny 6)<|Ni (Ny 9) Nq) (OW<|mC<|.bl false) OV)<|OW<|Ng (arW 5 aG)<|Ni (Ny 3)<|Ni (Ny 11)<|Ni (Ny 5)<|Ni (Ny 6)<|Ni (Ng (arW 3 aR)<|Ni (m2 ixW (Ny 3) ⇑1)<|Ni (Ny 11)<|Ni (Ny 7) Nq) Nq)
noncomputable def rV (π:Ch):KU->M Fl:=(OY (OZ 11<|Ny 8)<|OY (OP (Nu (Ny 1) Pm) (tgN 12)<|OY (OZ 11<|Ng (arW 2 cN)<|Ni (Ny 12)<|Ni (Ny 2) Nq)<|sIf (mB<|m2 ltW (Ng (arW 3 aR)<|Ni (m2 ixW (Ny 3) ⇑1)<|Ni (Ny 11)<|Ni (Ny 7) Nq)<|Ny 9) (OW<|mC<|.bl false) OV)<|rX π)
noncomputable def rU (π:Ch):KU->M Fl:=(OY (OZ 6<|Ng (arW 3 kQ)<|Ni (Ny 3)<|Ni (mTl<|MZ<|Ni (Ny 5) Nq)<|Ni ⇑60 Nq)<|OY (OZ 7<|Ng (arW 3 eT)<|Ni (Ny 3)<|Ni (mTl<|MX<|Ni (mTl<|MZ<|Ni (Ny 5) Nq) Nq)<|Ni ⇑60 Nq)<|OY (OZ 8<|Ng (arW 2 jM)<|Ni (Ny 3)<|Ni (mTl<|MZ<|Ni (Ny 7) Nq) Nq)<|OY (sIf (Nr<|mB<|Ng (arW 2 cy)<|Ni (Ny 8)<|Ni (Ny 2) Nq) (OW<|mC<|.bl false) OV)<|OY (OZ 9<|Ng (arW 3 aR)<|Ni (m2 ixW (Ny 3) ⇑1)<|Ni (Ny 8)<|Ni (Ny 7) Nq)<|OY (OZ 10<|Ng (arW 2<|gu π)<|Ni (Ny 3)<|Ni (mTl<|MZ<|Ni (Ny 7) Nq) Nq)<|OY (sIf (mOr (mB<|m2 NF (Ng (arW 3 de)<|Ni (Ny 3)<|Ni (mTl<|MZ<|Ni (Ny 7) Nq)<|Ni (mTl<|MZ<|Ni (Ny 10) Nq) Nq)<|mC<|.bl true)<|mB<|m2 neW (Ng (arW 3 df)<|Ni (Ny 3)<|Ni (mTl<|MZ<|Ni (Ny 7) Nq)<|Ni (Ny 10) Nq)<|Ny 9) (OW<|mC<|.bl false) OV)<|rV π)
noncomputable def rT (π:Ch):KU->M Fl:=(OY (OZ 3<|Ng (arW 2 bV)<|Ni (m2 ixW (Ny 1) ⇑0)<|Ni (Ny 2) Nq)<|OY (OZ 4<|m2 ixW (mTl<|MX<|Ni ⇑3 (Ni ⇑1000 (Ni (m2 Oe ⇑10 ⇑30) Nq)))<|Ng (arW 2 ai)<|Ni (m2 ixW (Ny 1) ⇑0)<|Ni ⇑3 Nq)<|OY (OZ 5<|mTl<|Nh [] (Nu (Ny 1) Pm) (tgN 0) Nz (Ng (arW 2 ai)<|Ni (Ny 0)<|Ni (Ny 6) Nq) 2)<|rU π)
def sH (π:Ch):nU π=(OY (OZ 1<|Ng (arW 1 dc)<|Ni (Ny 0) Nq)<|OY (OZ 2<|m2 Lo ⇑1 (Ng (arW 2 ai)<|Ni (m2 ixW (Ny 1) ⇑0)<|Ni ⇑7 Nq))<|OY (sIf (mB<|m2 eqW (Ng (arW 2 ai)<|Ni (m2 ixW (Ny 1) ⇑0)<|Ni ⇑8 Nq) ⇑0) (OZ 2<|m2 Lo ⇑8 (Ng (arW 2 ai)<|Ni (m2 ixW (Ny 1) ⇑0)<|Ni ⇑3 Nq)) OV)<|rT π):=rfl
end
section
def Ak (os:↑Nat):os.map nI=(os.map FN).map W.int:=by rw[F4];rfl
def g9 (bs:↑Bl)(L:↑Way):⇑(wyB bs)=⇑(csL bs L):=by unfold csL;rw[Fv]
section
variable {π:Ch}{bs:↑Bl}{nums:↑Int}{m k1 k2:Nat}{ob os:↑Nat}{S PW SZ RO:W}{N:Int}{L:↑Way}{p:Option W}
abbrev Pz (nums:↑Int)(bs:↑Bl)(k1 k2:Nat):W:=.tup [.loc k1,.tup [.str (OA nums bs 60 0<|Pp PS).en],.loc k2]
def o7 {m:Nat}{os:↑Nat}(O:Ord m os):(os.map FN).Nodup:=lK (λa b h=>FN.inj h) O.nodup
def zN (PG:PgG PS bs)(O:Ord ⇑bs os)(hL:∀w∈L ,w∈wyB bs):Ok (g7 [pgW bs,.tup<|os.map nI,.tl<|(csL bs L).map W.int]) h λw h'=>w=.int (js bs os L:Int)/\Nw h h':=by have l:=O.len;have l1:=PG.l1;have l2:=PG.l2;have:=zM (os:=os.map FN) PG (hU h bs) (g9 bs L) (by rw[Fv];omega) (by rw[Fv];omega)<|o7 O;rw[lF O hL,<-Ak]at this;exact this
def jD (PG:PgG PS bs)(O:Ord ⇑bs os)(hL:∀w∈L ,w∈wyB bs):Ok (aR [.tl<|bs.map blW,.tup<|os.map nI,.tl<|(csL bs L).map W.int]) h λw h'=>w=.int (js bs os L:Int)/\Nw h h':=by have l:=O.len;have l1:=PG.l1;have l2:=PG.l2;have:=wE (os:=os.map FN) PG (EO h bs) (g9 bs L) (by rw[Fv];omega) (by rw[Fv];omega)<|o7 O;rw[lF O hL,<-Ak]at this;exact this
def EB (PG:PgG PS bs):(OA nums bs 60 0<|Pp PS).en∈(["on","stop","out"]:↑Str):=by rcases fM (nums:=nums) PG 60 0 (Pp PS) PG.l1 with⟨e,_⟩|⟨e|e,_⟩<;>(rw[e];simp)
def Dy (PG:PgG PS bs)(s2:∀b∈bs ,⇑b.sts<=2)(O1:Ord ⇑bs ob)(O2:Ord ⇑bs os)(eL:L=(OA nums bs 60 0<|Pp PS).went)(hL:∀w∈L ,w∈wyB bs)(e1:h[k1]?=some (.lst<|(OA nums bs 60 0<|Pp PS).said.map W.int)):
  Ok (rX π [some S,`PW,some<|.int N,some<|pgW bs,some SZ,some<|.tl<|nums.map W.int,some<|Pz nums bs k1 k2,some<|.tl<|(csL bs L).map W.int,some<|.tup<|ob.map nI,some<|.int (js bs ob L:Int),some RO,some<|.tup<|os.map nI,p]) h λx h'=>x=.rt (.bl true):=by
 unfold rX;have px1:ixW (pgW bs) (.int 1)=pr (.tl<|bs.map blW):=ix1 ..;have ei:=EB (nums:=nums) PG;have al:∀ (os:↑Nat),Ord ⇑bs os->∀h:↑Ob,(OA nums bs 60 0<|Pp PS).en≠"on"->h[k1]?=some (.lst<|(OA nums bs 60 0<|Pp PS).said.map W.int)->Ok (aG [pgW bs,.tup<|os.map nI,.tl<|nums.map W.int,Pz nums bs k1 k2,.int (js bs os L:Int)]) h λw h'=>w=.bl true/\Nw h h':=λos O h z e=>xK PG s2 O z (Lz _ ei) e (by rw[eL]);have a1:=al ob O1;have a2:=al os O2;clear al;have c1:=λh=>zN (h:=h) PG O2 hL;have c2:=λh=>jD (h:=h) PG O2 hL;have t1:ixW (Pz nums bs k1 k2) (.int 1)=pr (.tup [.str (OA nums bs 60 0<|Pp PS).en]):=ix1 ..;generalize hT:Pz nums bs k1 k2=TW at*;generalize hP:pgW bs=P at*;simp! only[aa,bp];refine ap (c1 h) λw h2 qq_=>?_;let(ew,N2):=qq_;subst ew;simp! only[aa,px1];refine ap (c2 h2) λw h3 qq_=>?_;let(ew,N3):=qq_;subst ew;have e3:=N3.get<|N2.get e1;simp! only[aa,decide_true,t1,PF,Ez ei Et];by_cases z:(OA nums bs 60 0<|Pp PS).en="on";simp! only[aa,CF z];exact ae rfl;simp! only[aa,s0 z];refine ap (a1 h3 z e3) λw h4 qq_=>?_;let(ew,N4):=qq_;subst ew;simp! only[aa,px1];refine ap (c2 h4) λw h5 qq_=>?_;let(ew,N5):=qq_;subst ew;simp!;refine ap (a2 h5 z<|N5.get<|N4.get e3) λw h6 qq_=>?_;let(ew,N6):=qq_;subst ew;simp!;exact ae rfl
def Dz (hN:N=(m:Int))(hm:⇑bs=m)(PG:PgG PS bs)(s2:∀b∈bs ,⇑b.sts<=2)(O1:Ord ⇑bs ob)(eL:L=(OA nums bs 60 0<|Pp PS).went)(hL:∀w∈L ,w∈wyB bs)(e1:h[k1]?=some (.lst<|(OA nums bs 60 0<|Pp PS).said.map W.int))
  (P:Pots h ks)(nk:k1 ∉ks)(mn:∀os:↑Nat ,Ord ⇑bs os->(js bs ob L:Int)<=(js bs os L:Int)):
  Ok (rV π [some S,some<|.tl<|ks.map W.loc,some<|.int N,some<|pgW bs,some SZ,some<|.tl<|nums.map W.int,some<|Pz nums bs k1 k2,some<|.tl<|(csL bs L).map W.int,some<|.tup<|ob.map nI,some<|.int (js bs ob L:Int),some RO,none,none]) h λx h'=>x=.rt (.bl true):=by
 unfold rV;have px1:ixW (pgW bs) (.int 1)=pr (.tl<|bs.map blW):=ix1 ..;have rx:=λ(h:↑Ob) (os:↑Nat) (p:Option W) (O:Ord ⇑bs os) e=>Dy (π:=π) (h:=h) (nums:=nums) (k1:=k1) (k2:=k2) (os:=os) (S:=S) (PW:=.tl<|ks.map W.loc) (SZ:=SZ) (RO:=RO) (N:=N) (p:=p) PG s2 O1 O eL hL e;have c2:=λ(h:↑Ob) (os:↑Nat) (O:Ord ⇑bs os)=>jD (h:=h) PG O hL;have m1:=PG.l1;have m2:=PG.l2;generalize Pz nums bs k1 k2=TW at*;generalize (OA nums bs 60 0<|Pp PS).said.map W.int=SD at*;generalize hP:pgW bs=P' at*;simp! only[aa,cD];refine bF (I:=λi ρ h'=>∃os p ,ρ=[some S,some<|.tl<|ks.map W.loc,some<|.int N,some P',some SZ,some<|.tl<|nums.map W.int,some TW,some<|.tl<|(csL bs L).map W.int,some<|.tup<|ob.map nI,some<|.int (js bs ob L:Int),some RO,some<|.tup<|os.map nI,p]/\Ord ⇑bs os/\Pots h' ks/\h'[k1]?=some (.lst SD)) (ob,_,rfl,O1,P,e1) (λJ J J J=>trivial) (λi w ρ h2 hw I=>?_) λρ h2 I=>?_
 .let(os,p,rfl,O,P2,e2):=I;rw[FB]at hw;let(k,hk,rfl):=FE.mp hw;have km:=FK hk;refine(_,rfl,?_);simp!;refine ap (vG (m:=m) hN ∅ ∅ (P2 k km)) λw h3 qq_=>?_;let(os',ew,pe,K3,r,er):=qq_;subst ew;subst er;let(on,O3,eo,_):=vI (m:=m) ∅ pe;rw[eo];rw[<-hm]at O3;have e3:h3[k1]?=some (.lst SD):=by rw[K3.eq k1 (bm e2)<|λz=>nk<|z▸km];exact e2
  simp! only[aa,px1];refine ap (c2 h3 on O3) λw h4 qq_=>?_;let(ew,N4):=qq_;subst ew;have lt:¬(js bs on L:Int)<(js bs ob L:Int):=by have:=mn on O3;omega
  simp! only[aa,s0 lt];exact ae (_,rfl,on,_,rfl,O3,(P2.kn K3).nw N4,N4.get e3)
 let(os,p,rfl,O,P2,e2):=I;simp!;exact rx h2 os p O e2
def goes1 (bs:↑Bl)(nums:↑Int):Mo PS bs 60 [nums]=(OA nums bs 60 0<|Pp PS).went:=by unfold Mo;simp
def xR (bs:↑Bl)(L:↑Way):PP (wyB bs) L=(csL bs L).map W.int:=by unfold PP csL;rw[F4];rfl
def qU (O:Ord ⇑bs os)(hL:∀w∈L ,w∈wyB bs):(js bs os L:Int)=(csL bs L).sum-Oi (Mp<|zsB bs<|csL bs L) (os.map FN):=by rw[<-lF O hL,qG (o7 O)<|g9 bs L]
def vH {m:Nat}(m1:1<=m)(O:Ord m os):∃r:↑Int,os.map FN=0::r/\r.Perm (PJ<|m-1):=by
 obtain⟨n,rfl⟩:∃n,m=n+1:=(m-1,∅)
 have p:=O.pm.map FN;rw[show (List.range<|n+1).map FN=0::PJ n from eD n]at p;cases os with
 |nil=>have:=O.hd;cases this
 |cons a r=>
  have:a=0:=by have:=O.hd;simpa using this
  subst this;exact(r.map FN,rfl,p.cons_inv)
def DA (hN:N=(m:Int))(hm:⇑bs=m)(PG:PgG PS bs)(s2:∀b∈bs ,⇑b.sts<=2)(P:Pots h ks):
  Ok (rU π [some S,some<|.tl<|ks.map W.loc,some<|.int N,some<|pgW bs,some SZ,some<|.tl<|nums.map W.int,none,none,none,none,none,none,none]) h λx h'=>x=.rt (.bl true):=by
 unfold rU;have px1:ixW (pgW bs) (.int 1)=pr (.tl<|bs.map blW):=ix1 ..;have m1:=PG.l1;have m2:=PG.l2;obtain⟨L,eL⟩:∃L,L=(OA nums bs 60 0<|Pp PS).went:=(_,rfl)
 have hL:∀w∈L,w∈wyB bs:=λw hw=>by rw[eL]at hw;exact iM (nums:=nums) PG 60 0 (Pp PS) w hw
 obtain⟨G,hG⟩:∃G,G=Mp (zsB bs<|csL bs L):=(_,rfl)
 let(t1,t2,t3):=oI G _ 0 (PJ<|m-1) rfl<|fg _;have tp:(0::(tT G 0<|PJ<|m-1).2).Perm (Lp m):=t1.cons 0;let(ob,O1,eo,ei):=vI (m:=m) ∅ tp;rw[<-hm]at O1;have jb:=qU O1 hL;rw[<-ei,<-hG,t2]at jb;have mn:∀os:↑Nat,Ord ⇑bs os->(js bs ob L:Int)<=(js bs os L:Int):=λos O=>by rw[qU O hL,jb,<-hG];let(r,er,pr):=vH m1 O;rw[hm]at pr;have:=t3 r pr;rw[er];omega
 have bo:=λh:↑Ob=>zR (h:=h) PG (hU h bs) hm ∅ ∅ (g9 bs L);have pa:=λh:↑Ob=>sy (h:=h) π PG (hU h bs) hm ∅ ∅ (g9 bs L);have ri:=λ(h:↑Ob) (rs:↑(PKy×Int)) lr=>uX (h:=h) (rs:=rs) PG (hU h bs) hm ∅ ∅ (g9 bs L) lr;have lc:=λh:↑Ob=>jD (h:=h) PG O1 hL;have bn:=λ(h:↑Ob) (rs:↑(PKy×Int)) lr ne=>xz (h:=h) (rs:=rs) (cs:=csL bs L) (hU h bs) hm ∅ lr ne;have rv:=λ(h:↑Ob) (k1 k2:Nat) (RO:W) e P nk=>Dz (π:=π) (h:=h) (nums:=nums) (k1:=k1) (k2:=k2) (S:=S) (SZ:=SZ) (RO:=RO) (ks:=ks) hN hm PG s2 O1 eL hL e P nk mn;have ru:=λh:↑Ob=>uQ (h:=h) (nums:=nums) (nm:=.tl<|nums.map W.int) (bound:=60) PG (hU h bs) (.inl rfl) ↥_;have cn:=λ{β:Type}{h:↑Ob}{k:W->M β}{Q:β->↑Ob->Prop}=>wK (β:=β) (h:=h) (k:=k) (Q:=Q) (y:=.tl<|[nums].map Mw) (ins:=[nums]) (n:=60) PG (hU h bs) (.inl rfl) ↥_;rw[<-hG]at bo;simp only[<-hG]at pa ri;generalize hP:pgW bs=P' at*;simp! only[aa,bp];refine ap (ru h) λw h1 qq_=>?_;let(f1,k1,k2,g1,g2,_,ew,e1,e2):=qq_;subst ew;have N1:Nw h h1:=(by have:=bm e1;omega,f1)
 have nk:k1 ∉ks:=λz=>by let(a,b,e):=P k1 z;have:=bm e;omega
 simp! only[aa,bp];refine cn λh2 N2=>?_;rw[goes1,<-eL,xR];simp! only[aa,bp];refine ap (bo h2) λw h3 qq_=>?_;let(ew,N3):=qq_;subst ew;have pl:=λh:↑Ob=>sB (h:=h) hN ∅ ∅ tp;rw[eo]at pl ⊢;simp!;refine ap (pl h3) λw h4 qq_=>?_;let(ew,e4):=qq_;subst ew e4;simp! only[aa,px1];refine ap (lc h4) λw h5 qq_=>?_;let(ew,N5):=qq_;subst ew;simp! only[aa,bp];refine ap (pa h5) λw h6 qq_=>?_;let(κ,pκ,ew,N6):=qq_;subst ew;have kl:⇑(κ.map λk=>(k ,F0 G k))<=5000:=by rw[Fv,pκ.length_eq];have:=iu (n:=m-1) ∅;omega
 have rt:=oT (n:=m-1) ∅ G pκ;let(ne,tq):=AA (n:=m-1) ∅ G pκ;rw[show m-1+1=m by omega]at ne tq;have ri:=λh=>ri h _ kl;have bn:=λh=>bn h _ kl ne;rw[rt]at ri;rw[tq,<-jb]at bn;generalize hR:((κ.map λk=>(k ,F0 G k)).map rwW)=RR at*;simp! only[aa,bp];refine ap (ri h6) λw h7 qq_=>?_;let(ew,N7):=qq_;subst ew;have nb:NF (.bl true) (.bl true)=pr (.bl false):=rfl;simp! only[aa,bp,nb];refine ap (bn h7) λw h8 qq_=>?_;let(ew,e8):=qq_;subst ew e8;have N17:=((((N1.trans N2).trans N3).trans N5).trans N6).trans N7;simp! only[aa,decide_true];exact rv h8 k1 k2 _ (((((N2.trans N3).trans N5).trans N6).trans N7).get e1) (P.nw N17) nk
def x9 {v:Int}(h0:0<=v)(h1:v<3):∃s:Int,atI [W.int 3,.int 1000,.int T30] v=some (.int s)/\0<s/\s<2^200:=by
 have:v=0\/v=1\/v=2:=∅;rcases this with rfl|rfl|rfl
 exact(_,rfl,↥_,↥_);exact(_,rfl,↥_,↥_);exact(_,rfl,t30a,t30b)
def Ae (hN:N=(m:Int))(m1:1<=m)(m2:m<=10)(hk:ks≠ [])(k63:⇑ks<=63)(P:Pots h ks):
  Ok (rT π [some S,some<|.tl<|ks.map W.loc,some<|.int N,none,none,none,none,none,none,none,none,none,none]) h λx h'=>x=.rt (.bl true):=by
 unfold rT;have lk:0<⇑ks:=HM.mpr hk;let(k0,hk0,ek0):=wM (ks:=ks) (i:=0) ↥_ ∅;simp! only[aa,ek0];refine ap (oW hN m1 m2<|P k0 hk0) λw h1 qq_=>?_;let(bs,ew,hm,PG,s2,K1):=qq_;subst ew;have P1:=P.kn K1;have ru:=λ(h:↑Ob) (nums:↑Int) (SZ:W) P=>DA (π:=π) (h:=h) (ks:=ks) (nums:=nums) (S:=S) (SZ:=SZ) hN hm PG s2 P;generalize pgW bs=P' at*;simp! only[aa,ek0,pw30];refine cq (P1 k0 hk0) ↥_ ↥_ λv h2 v0 v1 K2=>?_;have P2:=P1.kn K2.kn;let(sz',es,z0,z1):=x9 v0 v1;have gl:∀ {α:Type} (q:M α),gd (⇑(ks.map W.loc)<=sizeLine) q=q:=λq=>ag (by rw[Fv];exact sz ∅);simp! only[aa,fR es,cD,gl];refine bY (I:=λi a h'=>∃nums:↑Int ,a=nums.map W.int/\Pots h' ks) ([],rfl,P2) cQ (λJ J J J=>trivial) (λi w a h' hw I=>?_) λa h' I=>?_;let(nums,rfl,P3):=I;rw[FB]at hw;let(k,hk',rfl):=FE.mp hw;have km:=FK hk';refine(_,rfl,?_);simp! only[List.replicate,F8,Ge,aa];refine Ok.imp (lJ (P3 k km) z0 z1) λw h6 qz=>?_;let(u,e,u0,u1,K6):=qz;refine(nums++[u],by rw[e,FF];rfl,P3.kn K6.kn);let(nums,rfl,P3):=I;simp!;exact ru h' nums _ P3
end
def zr (π:Ch)(ns:↑Int)(hh:↑Ob):Ok (nW π [.cl<|ns.map W.int]) hh λw J=>w=.bl true:=by
 have e0:nW π [.cl<|ns.map W.int]=bd (nU π [some<|.cl<|ns.map W.int,none,none,none,none,none,none,none,none,none,none,none,none]) Mb:=rfl;rw[e0,sH];simp!;refine ap (yp ns hh) λw h1 qq_=>?_;let(ks,ew,hk,k63,P1):=qq_;subst ew;have lk:0<⇑ks:=HM.mpr hk;let(k0,hk0,ek0):=wM (ks:=ks) (i:=0) ↥_ ∅;simp! only[aa,ek0];refine cq (P1 k0 hk0) ↥_ ↥_ λv h2 v0 v1 K2=>?_;have P2:=P1.kn K2.kn;simp! only[aa,ek0];refine cq (P2 k0 hk0) ↥_ ↥_ λu h3 u0 u1 K3=>?_;have P3:=P2.kn K3.kn;by_cases c:u=0;simp! only[aa,CF c,ek0];refine cq (P3 k0 hk0) ↥_ ↥_ λx h4 x0 x1 K4=>?_;simp!;refine ap (Ae (m:=(8+x).toNat) ∅ ∅ ∅ hk k63 (P3.kn K4.kn)) λx h4 ex=>?_;subst ex;simp!;exact ae rfl;simp! only[aa,s0 c];refine ap (Ae (m:=(1+v).toNat) ∅ ∅ ∅ hk k63 P3) λx h4 ex=>?_;subst ex;simp!;exact ae rfl
def MW (π:Ch)(ns:↑Int)(hh:↑Ob):∃h',nW π [.cl<|ns.map W.int] hh=.ok (.bl true) h':=by let(w,h',e,rfl):=zr π ns hh;exact(h',e)
end
end Q
namespace L2
open PySem PySem.Spec
def Gp (K:Zf)(mg:Str->Option Jk)(x:Str)(i:Int)(ks:↑Int):Prop:=∃c d,mg x=some (.ref c)/\(∀H ,SqT K H c [.ref d,.int i])/\∀H,SqT K H d<|ks.map V.int
def gp {K:Zf}{mg:Str->Option Jk}{x:Str}{i j:Int}{n n2:Nat}(X:K.In h)(G:h.Ns JP mg)(a:Jj K JP x=some (some<|.ref f))(l:K.lookup f=some (.type "tuple",od,.seq #[.ref d,.int i t] n,sl))(l2:K.lookup d=some (.type "tuple",od2,.seq #[.int j t2] n2,sl2)):Gp K mg x i [j]:=
 (f,d,mg_of X G a,λH=>.inr (_,_,_,l,rfl,rfl,by show 2<=sizeLine;decide,.cons rfl<|.cons (_,rfl) .nil),λH=>.inr (_,_,_,l2,rfl,rfl,by show 1<=sizeLine;decide,.cons (_,rfl) .nil))
section
variable {X:Cx}{E:XK}{pos:JY}{x:Str}
def El {i:Int}(h:Gp X.K X.mg x i ks)(hg:Gl X x:=by rfl)(hd:(x==("__debug__":Str))=false:=by decide):JE X E (.Name x pos) (mC<|MQ true (i ,ks)):=by let(c,d,hm,hq,hq2):=h;exact wj hm hq hq2 hg hd
def C3 (hu:X.A.units+64<Jv):Cm X E .NotIn (Mu true):=(_,yK,yT hu)
end
end L2
namespace Q
open PySem L2
set_option hygiene false in
local macro_rules|`(tactic|and_intros)=>do
 let T (n:String)(b:List String):Lean.Term:=Lean.Syntax.mkApp (Lean.mkIdent n.toName) (b.toArray.map λb=>Lean.mkIdent b.toName);let F (s:String):Lean.MacroM (Lean.TSyntax `tactic):=do
  let a ← (s.splitOn " ").toArray.mapM λw=>match w.splitOn ":" with
   |"!"::n::b=>`(tacticSeq|exact $(T n b))
   |n::b=>`(tacticSeq|apply $(T n b))
   |_=>Lean.Macro.throwUnsupported
  `(tactic|first $[|$a]*)
 let x0 ← F "!:Ck !:B6 !:Er !:B9";let x1 ← F "!:Cy Fh";let x2 ← F "!:yX v5 yW";let x3 ← F "BP BO:hN D9 yY Ea v7:hu sS:hu6 BS:hN yZ:hu Ec v6 Eb";let x4 ← F "Fc BM";let x5 ← F "Al BJ";let x6 ← F "wd pz pA Cf Ff tj wc Cj B4 sY Fd zi:hu Cu Cp zg pk wu s9 we pp zj:hu";let x7 ← F "wd pz pA Cv Cc zk B5 Cb B7 zn";let x8 ← F "Fe Ei Ef";let x9 ← F "wd pz pA B3 Fg Ct B8 wf Ca Eg Eo !:wk";let x10 ← F "sX pi B0 B1 zf ze";let x11 ← F "zc BZ sW sV";let x12 ← F "zd wa v9";let x13 ← F "y6 !:y7";let x14 ← F "je bS y9 !:f6 !:za !:oK:rfl !:yR:rfl !:hu !:hu6";let x15 ← F "!:EK:hu6 !:EF:hu6 !:EG !:EI !:EJ !:EH:hu !:EE:hu !:C3:hu6 !:C5 !:zO";let x16 ← F "!:Ka.never !:Ka.leaving !:PyProof.Rows.boot_int !:PyProof.Rows.boot_bool !:Or.inl:rfl !:Or.inr:rfl"
 `(tactic|repeat' first
 |(apply gNm;first|exact wb _|(apply Em<;>first|assumption|rfl)|(apply Ek<;>first|assumption|rfl)|(apply Ej<;>first|assumption|rfl)|(apply El<;>first|assumption|rfl)|apply Ee|exact B2 (wb _))
 |(apply gCo;$x0:tactic)
 |(apply gJA;$x1:tactic)
 |(apply gJZ;$x2:tactic)
 |(apply gJS;$x3:tactic)
 |(apply gJT;first|$x4:tactic|refine Es (Al ?_ ?_)|apply BL)
 |(apply gJW;$x5:tactic)
 |(apply gCl;first|$x6:tactic|exact Cd (by assumption) (by assumption) (by assumption) (by assumption) (by assumption) (hr.mono ∅) (by and_intros) rfl)
 |(apply gBi;$x7:tactic)
 |(apply gSu;$x8:tactic)
 |(apply gJE;first|$x9:tactic|exact wq _|exact zm)
 |(apply gJF;$x10:tactic)
 |(apply gJI;first|$x11:tactic|apply BY _ _|apply zb _ _|$x12:tactic)
 |(apply gJO;$x13:tactic)
 |$x14:tactic
 |assumption
 |exact BH _
 |rfl
 |$x15:tactic
 |exact cr (by assumption) (hr.mono ∅)
 |exact cs (by assumption) (by assumption) (by assumption) (hr.mono ∅)
 |exact⟨_,by assumption,by assumption,by assumption⟩
 |exact⟨99,_,bJ 99 _ ↥_,aP hN rfl (by first|exact Or.inl rfl|exact Or.inr rfl)⟩
 |exact⟨99,_,fJ 99 _ ↥_,by and_intros⟩
 |exact⟨99,_,qd (fX (fJ 99 _ ↥_) (fX (bJ 99 _ ↥_) qa)) rfl,by and_intros⟩
 |exact⟨99,_,qd (fX (bJ 99 _ ↥_) (fX (fJ 99 _ ↥_) qa)) rfl,by and_intros⟩
 |exact aP hN rfl (by first|exact Or.inl rfl|exact Or.inr rfl)
 |$x16:tactic
 |exact λ_=>rfl
 |exact⟨rfl,rfl,rfl,rfl⟩
 |with_unfolding_all rfl
 |decide)
set_option hygiene false in
local macro_rules | `(tactic| ac_rfl) => `(tactic| (intro _ _ _ _ _ _ _ hr hu hu6 hN; and_intros))
noncomputable def Ph (K:Zf):Sp:=λvs H Q J=>∃ (a:Jq) (ns:↑Int),vs=[.ref a]/\SqL K H a (ns.map V.int)/\⇑ns<=63/\∀H',Q (.bl true) H'
theorem kC {K:Zf}:∀ns:↑Int,Rvs K o (ns.map W.int) (ns.map V.int)|[]=>Rvs.nil|n::r=>Rvs.cons (OE.mpr rfl)<|kC r
def MV {w:Jo}{K:Zf}{mg:Str->Option Jk}(C:CGn P w K mg base 12 "law" f fd ["script"] 1 nW):FnOk P w K mg base CX0 12 f fd ["script"] (Ph K):=
 C.ok.imp λvs H Q E h=>by
  let(a,ns,rfl,sq,hn,q):=h;have nl:¬Lv (λJ=>0,[],H) a:=λ(k,b,hk,_)=>by simp at hk
  refine((λJ=>0,[],H),[.cl<|ns.map W.int],rfl,rfl,(λk b hk=>by simp at hk,λj k b c hj=>by simp at hj),Rvs.cons ?_ Rvs.nil,?_);unfold Rv;exact(a,_,rfl,sq.imp (λr=>(r,nl)) id,kC ns);intro π;let(h',e):=MW π ns [];show Ps _ _ _ (nW π [.cl<|ns.map W.int] []) Q;rw[e];intro p b _ _ _ rb;rw[OD.mp rb];exact q _
structure Fa (K:Zf)(mg:Str->Option Jk)(c_Doing:Jq):Prop where
 n_Doing:Jj K JP "Doing"=some (some<|.ref c_Doing)
 D_worth:Dq K mg "worth" yc
 D_Doing___init__:Dqm K "__init__" c_Doing "Doing.__init__" gL
 D_Doing_lacks_number:Dqm K "lacks_number" c_Doing "Doing.lacks_number" eQ
 D_Doing_do_statement:Dqm K "do_statement" c_Doing "Doing.do_statement" eR
 D_Doing_holds:Dqm K "holds" c_Doing "Doing.holds" j4
 D_Doing_chosen:Dqm K "chosen" c_Doing "Doing.chosen" i4
 D_sides_of:Dq K mg "sides_of" oM
 D_side_taken:Dq K mg "side_taken" lq
 D_do_statements:Dq K mg "do_statements" ik
 D_run:Dq K mg "run" Ac
 D_ways:Dq K mg "ways" AO
 D_counts:Dq K mg "counts" uJ
 D_gains:Dq K mg "gains" ye
 D_cost:Dq K mg "cost" uK
 D_block_sets:Dq K mg "block_sets" fY
 D_without:Dq K mg "without" kA
 D_best_tail:Dq K mg "best_tail" mS
 D_best:Dq K mg "best" AR
 D_pairs:Dq K mg "pairs" yd
 D_least_number:Dq K mg "least_number" eP
 D_paper:Dq K mg "paper" qm
 D_is_right:Dq K mg "is_right" fL
 D_bound_of:Dq K mg "bound_of" iZ
 D_row_gone_to:Dq K mg "row_gone_to" j0
 D_run_rows:Dq K mg "run_rows" oN
 D_go_rows:Dq K mg "go_rows" sj
 D_if_rows:Dq K mg "if_rows" si
 D_end_rows:Dq K mg "end_rows" oQ
 D_led_to_rows:Dq K mg "led_to_rows" fG
 D_laid:Dq K mg "laid" uI
 D_law_next:Dq K mg "_law_next" oO
 D_law_pots:Dq K mg "_law_pots" iY
 D_law_end:Dq K mg "_law_end" kB
 D_law_program:Dq K mg "_law_program" j3
 D_law_ways:Dq K mg "_law_ways" iX
 D_law_cost:Dq K mg "_law_cost" oP
 D_law_order:Dq K mg "_law_order" mR
 D_law_run_alike:Dq K mg "_law_run_alike" ij
 D_law_places:Dq K mg "_law_places" lu
 D_law:Dq K mg "law" Ad
 cl_Doing:Cls K c_Doing
 mk_Doing:PySem.W.makesIn K c_Doing=true
 kc_Doing:Jh K (.ref c_Doing)=true
 na_Doing_held:Jf K (.ref c_Doing) "held"=`none
 na_Doing_numbers:Jf K (.ref c_Doing) "numbers"=`none
 na_Doing_said:Jf K (.ref c_Doing) "said"=`none
 na_Doing_taken:Jf K (.ref c_Doing) "taken"=`none
 g_JUMPS:Gt K mg "JUMPS" ["jump","when","unless"]
 g_STATEMENTS:Gt K mg "STATEMENTS" ["put","say","ask"]
 g_FIRST_PAIR:Gp K mg "FIRST_PAIR" 0 [0]
 h_BOX_RANGE:Gi mg "BOX_RANGE" 1000000
 y_all:mg "all"=none
 y_any:mg "any"=none
 y_bool:mg "bool"=none
 y_dict:mg "dict"=none
 y_enumerate:mg "enumerate"=none
 y_int:mg "int"=none
 y_isinstance:mg "isinstance"=none
 y_len:mg "len"=none
 y_list:mg "list"=none
 y_max:mg "max"=none
 y_range:mg "range"=none
 y_sorted:mg "sorted"=none
 y_sum:mg "sum"=none
 y_tuple:mg "tuple"=none
 y_zip:mg "zip"=none
 m_Doing:mg "Doing"=some (.ref c_Doing)
structure Wf (P:Jn)(w:Jo)(K:Zf)(mg:Str->Option Jk)(base:Jp):Prop where
 t:True
section
variable {P:Jn}{w:Jo}{K:Zf}{mg:Str->Option Jk}{base:Jp}{c_Doing:Jq}(S:Fa K mg c_Doing)(V:Wf P w K mg base)
include S V
theorem iG:∀n:Nat,Cq P w K mg base (1+n) "worth" 2 (bA n)|0=>okqz ["e","values","left","right"] 2 S.D_worth λJ J=>rfl|n+1=>by have:=iG n;cases S;cases V;exact okq (k:=1+n) (g:=dj<|bA n) ["e","values","left","right"] 2 (by assumption) (by intro _ _ _ _ _ _ _ hr hu hu6 hN;have hr:Room (1+n) _:=hr;and_intros)
def dM:Cqm P w K mg base 1 c_Doing "__init__" 3 aD:=by cases S;cases V;exact NH (g:=bM) ["self","boxes","numbers"] 3 (by assumption) (by ac_rfl)
def cO:Cqm P w K mg base 1 c_Doing "lacks_number" 2 ar:=by cases S;cases V;exact NH (g:=aX) ["self","row"] 2 (by assumption) (by ac_rfl)
def cP:Cqm P w K mg base 8 c_Doing "do_statement" 2 az:=by have:=iG S V 6;cases S;cases V;exact NH (g:=aY) ["self","statement"] 2 (by assumption) (by ac_rfl)
def fI:Cqm P w K mg base 8 c_Doing "holds" 4 ba:=by have:=iG S V 6;cases S;cases V;exact NH (g:=cH) ["self","sign","left","right"] 4 (by assumption) (by ac_rfl)
def eW:Cqm P w K mg base 8 c_Doing "chosen" 3 bI:=by have:=iG S V 6;cases S;cases V;exact NH (g:=cw) ["self","e","many"] 3 (by assumption) (by ac_rfl)
def jT:Cq P w K mg base 1 "sides_of" 1 bH:=by cases S;cases V;exact okq (g:=cC) ["end"] 1 (by assumption) (by ac_rfl)
def mz:Cq P w K mg base 9 "side_taken" 2 cx:=by have:=fI S V;have:=eW S V;cases S;cases V;exact okq (g:=cV) ["doing","end"] 2 (by assumption) (by ac_rfl)
def ip:Cq P w K mg base 9 "do_statements" 2 bq:=by have:=cO S V;have:=cP S V;cases S;cases V;exact okq (g:=ci) ["doing","statements","statement"] 2 (by assumption) (by ac_rfl)
def As:Cq P w K mg base 10 "run" 3 kQ:=by have:=ip S V;have:=mz S V;have:=jT S V;have:=dM S V;cases S;cases V;exact okq (g:=q9) ["program","numbers","bound","doing","went","place","block","end","side","behind"] 3 (by assumption) (by ac_rfl)
def xx:Cq P w K mg base 2 "ways" 1 jL:=by have:=jT S V;cases S;cases V;exact okq (g:=l5) ["program","told","place","block","side","behind"] 1 (by assumption) (by ac_rfl)
def xy:Cq P w K mg base 11 "counts" 3 eT:=by have:=xx S V;have:=As S V;cases S;cases V;exact okq (g:=gq) ["program","inputs","bound","often","way","numbers"] 3 (by assumption) (by ac_rfl)
def iH:Cq P w K mg base 3 "gains" 2 du:=by have:=xx S V;cases S;cases V;exact okq (g:=iE) ["program","counted","gained","way","count","end","neighbours"] 2 (by assumption) (by ac_rfl)
def C9:Cq P w K mg base 4 "cost" 3 g7:=by have:=iH S V;cases S;cases V;exact okq (g:=l7) ["program","order","counted","gained"] 3 (by assumption) (by ac_rfl;(have nd:((["neighbours",".0"]:↑Str)++(["program","order","counted","gained"]:↑Str).map (hid ["neighbours",".0"])).Nodup:=by decide+kernel);exact bK rfl (ls:=["neighbours",".0"]) (.of<|ab uK) (by and_intros) (λJ J J J=>(aP (i:=0) nd rfl (Or.inl rfl)<|.inr rfl)) (bJ 2 0 ↥_) (λJ J J J=>by and_intros) (λJ J J J=>by and_intros) trivial)
def gA:Cq P w K mg base 1 "block_sets" 1 cz:=by cases S;cases V;exact okq (g:=cX) ["many","told","place"] 1 (by assumption) (by ac_rfl;(have nd:((["blocks",".0"]:↑Str)++(["many","told","place"]:↑Str).map (hid ["blocks",".0"])).Nodup:=by decide+kernel);exact bK rfl (ls:=["blocks",".0"]) (.of<|ab fY) (by and_intros) (λJ J J J=>(aP (i:=0) nd rfl (Or.inl rfl)<|.inr rfl)) (bJ 2 0 ↥_) (λJ J J J=>by and_intros) (λJ J J J=>by and_intros) trivial)
def kX:Cq P w K mg base 1 "without" 2 cY:=by cases S;cases V;exact okq (g:=fq) ["blocks","place"] 2 (by assumption) (by ac_rfl;(have nd:((["block",".0"]:↑Str)++(["blocks","place"]:↑Str).map (hid ["block",".0"])).Nodup:=by decide+kernel);exact bK rfl (ls:=["block",".0"]) (.of<|ab kA) (by and_intros) (λJ J J J=>(aP (i:=0) nd rfl (Or.inl rfl)<|.inr rfl)) (bJ 2 0 ↥_) (λJ J J J=>by and_intros) (λJ J J J=>by and_intros) trivial)
def ou:Cq P w K mg base 2 "best_tail" 4 dw:=by have:=kX S V;cases S;cases V;exact okq (g:=dm) ["last","rest","gained","tails","found","place","tail","gain"] 4 (by assumption) (by ac_rfl)
def Da:Cq P w K mg base 4 "best" 2 jM:=by have:=iH S V;have:=gA S V;have:=ou S V;cases S;cases V;exact okq (g:=l8) ["program","counted","many","gained","tails","blocks","rest","last"] 2 (by assumption) (by ac_rfl)
def rH:Cq P w K mg base 2 "pairs" 1 fB:=by have:=gA S V;cases S;cases V;exact okq (g:=iD) ["many","told","blocks","last"] 1 (by assumption) (by ac_rfl)
def eV:Cq P w K mg base 2 "least_number" 4 aE:=by have:=kX S V;cases S;cases V;exact okq (g:=be) ["blocks","last","numbers","gained","rest","lasts"] 4 (by assumption) (by ac_rfl;(have nd:((["place",".0"]:↑Str)++(["blocks","last","numbers","gained","rest","lasts"]:↑Str).map (hid ["place",".0"])).Nodup:=by decide+kernel);exact bK rfl (ls:=["place",".0"]) (.of<|ab eP) (by and_intros) (λJ J J J=>(aP (i:=0) nd rfl (Or.inl rfl)<|.inr rfl)) (bJ 2 0 ↥_) (λJ J J J=>by and_intros) (λJ J J J=>by and_intros) trivial)
def zP:Cqn P w K mg base 4 "paper" 2 gu:=by have:=iH S V;have:=rH S V;have:=eV S V;cases S;cases V;exact okqn (g:=gm) ["program","counted","gained","numbers","blocks","last"] 2 (by assumption) (by intro _ _ _ _ _ _ _ hr hu hu6 hN;delta gm;refine bz ?_ (bz ?_<|bz ?_<|BX<|BV<|sU hu6 (by assumption) ?_ rfl)<;>and_intros;(have nd:((["pair","number",".0"]:↑Str)++(["program","counted","gained","numbers","blocks","last"]:↑Str).map (hid ["pair","number",".0"])).Nodup:=by decide+kernel);exact bK rfl (ls:=["pair","number",".0"]) (.of<|ab qm) (by and_intros) (λJ J J J=>(je rfl<|bS (aP (i:=0) nd rfl (Or.inl rfl)<|.inr rfl)<|bS (aP (i:=1) nd rfl (Or.inl rfl)<|.inr rfl) f6)) (fJ 3 [0,1] ↥_) (λJ J J J=>by and_intros) (λJ J J J=>by and_intros) trivial)
def pX:Cq P w K mg base 4 "is_right" 3 de:=by have:=rH S V;have:=iH S V;have:=eV S V;cases S;cases V;exact okq (g:=d7) ["program","counted","told","wanted","numbers","blocks","last","number","gained"] 3 (by assumption) (by ac_rfl;(have nd:((["pair",".0"]:↑Str)++(["program","counted","told","wanted","numbers","blocks","last","number","gained"]:↑Str).map (hid ["pair",".0"])).Nodup:=by decide+kernel);exact bK rfl (ls:=["pair",".0"]) (.of<|ab fL) (by and_intros) (λJ J J J=>(aP (i:=0) nd rfl (Or.inl rfl)<|.inr rfl)) (bJ 2 0 ↥_) (λJ J J J=>by and_intros) (λJ J J J=>by and_intros) trivial;(have nd:((["blocks","last",".0"]:↑Str)++(["program","counted","told","wanted","numbers","blocks","last","number","gained"]:↑Str).map (hid ["blocks","last",".0"])).Nodup:=by decide+kernel);exact bK rfl (ls:=["blocks","last",".0"]) (.of<|ab fL) (by and_intros) (λJ J J J=>(je rfl<|bS (aP (i:=0) nd rfl (Or.inl rfl)<|.inr rfl)<|bS (aP (i:=1) nd rfl (Or.inl rfl)<|.inr rfl) f6)) (fJ 3 [0,1] ↥_) (λJ J J J=>by and_intros) (λJ J J J=>by and_intros) trivial)
def pZ:Cq P w K mg base 1 "bound_of" 3 df:=by cases S;cases V;exact okq (g:=d9) ["program","counted","told","everything"] 3 (by assumption) (by ac_rfl;(have nd:((["blocks","last","number",".0"]:↑Str)++(["program","counted","told","everything"]:↑Str).map (hid ["blocks","last","number",".0"])).Nodup:=by decide+kernel);exact bK rfl (ls:=["blocks","last","number",".0"]) (.of<|ab iZ) (by and_intros) (λJ J J J=>(je rfl<|bS (aP (i:=0) nd rfl (Or.inl rfl)<|.inr rfl)<|bS (aP (i:=1) nd rfl (Or.inl rfl)<|.inr rfl)<|bS (aP (i:=2) nd rfl (Or.inl rfl)<|.inr rfl) f6)) (fJ 4 [0,1,2] ↥_) (λJ J J J=>by and_intros) (λJ J J J=>by and_intros) trivial)
def j9:Cq P w K mg base 9 "row_gone_to" 2 bU:=by have:=fI S V;have:=eW S V;cases S;cases V;exact okq (g:=a0) ["doing","row"] 2 (by assumption) (by ac_rfl)
def pT:Cq P w K mg base 10 "run_rows" 4 eA:=by have:=cO S V;have:=cP S V;have:=j9 S V;have:=dM S V;cases S;cases V;exact okq (g:=dY) ["boxes","rows","numbers","bound","doing","jumps","place","done","row","to"] 4 (by assumption) (by ac_rfl)
def kY:Cq P w K mg base 1 "go_rows" 2 cZ:=by cases S;cases V;exact okq (g:=fw) ["to","behind"] 2 (by assumption) (by ac_rfl)
def ue:Cq P w K mg base 2 "if_rows" 2 fD:=by have:=kY S V;cases S;cases V;exact okq (g:=fu) ["end","behind","condition","first","second"] 2 (by assumption) (by ac_rfl)
def pY:Cq P w K mg base 3 "end_rows" 2 eC:=by have:=kY S V;have:=ue S V;cases S;cases V;exact okq (g:=d8) ["end","behind"] 2 (by assumption) (by ac_rfl)
def ka:Cq P w K mg base 1 "led_to_rows" 2 cI:=by cases S;cases V;exact okq (g:=cF) ["row","begins"] 2 (by assumption) (by ac_rfl;(have nd:((["place",".0"]:↑Str)++(["row","begins"]:↑Str).map (hid ["place",".0"])).Nodup:=by decide+kernel);exact bK rfl (ls:=["place",".0"]) (.of<|ab fG) (by and_intros) (λJ J J J=>(aP (i:=0) nd rfl (Or.inl rfl)<|.inr rfl)) (bJ 2 0 ↥_) (λJ J J J=>by and_intros) (λJ J J J=>by and_intros) trivial)
def C7:Cq P w K mg base 4 "laid" 2 l9:=by have:=pY S V;have:=ka S V;cases S;cases V;exact okq (g:=l6) ["program","order","rows","begins","place","behind","block"] 2 (by assumption) (by ac_rfl;(have nd:((["row",".0"]:↑Str)++(["program","order","rows","begins","place","behind","block"]:↑Str).map (hid ["row",".0"])).Nodup:=by decide+kernel);exact bK rfl (ls:=["row",".0"]) (.of<|ab uI) (by and_intros) (λJ J J J=>(aP (i:=0) nd rfl (Or.inl rfl)<|.inr rfl)) (bJ 2 0 ↥_) (λJ J J J=>by and_intros) (λJ J J J=>by and_intros) trivial)
def eF:Cq P w K mg base 1 "_law_next" 2 ai:=by cases S;cases V;exact okq (g:=d5) ["pot","many","cell","stir"] 2 (by assumption) (by ac_rfl)
def pV:Cq P w K mg base 1 "_law_pots" 1 dc:=by cases S;cases V;exact okq (g:=d4) ["script"] 1 (by assumption) (by ac_rfl;(have nd:((["cell",".0"]:↑Str)++(["script"]:↑Str).map (hid ["cell",".0"])).Nodup:=by decide+kernel);exact bK rfl (ls:=["cell",".0"]) (.of<|ab iY) (by and_intros) (λJ J J J=>(aP (i:=0) nd rfl (Or.inl rfl)<|.inr rfl)) (bJ 2 0 ↥_) (λJ J J J=>by and_intros) (λJ J J J=>by and_intros) trivial)
def ud:Cq P w K mg base 2 "_law_end" 2 dI:=by have:=eF S V;cases S;cases V;exact okq (g:=ft) ["pot","many","kind","x","y"] 2 (by assumption) (by ac_rfl;(have nd:((["k",".0"]:↑Str)++(["pot","many","kind","x","y"]:↑Str).map (hid ["k",".0"])).Nodup:=by decide+kernel);exact bK rfl (ls:=["k",".0"]) (.of<|ab kB) (by and_intros) (λJ J J J=>(aP (i:=0) nd rfl (Or.inl rfl)<|.inr rfl)) (bJ 2 0 ↥_) (λJ J J J=>by and_intros) (λJ J J J=>by and_intros) trivial)
def kb:Cq P w K mg base 3 "_law_program" 2 bV:=by have:=ud S V;have:=eF S V;cases S;cases V;exact okq (g:=cG) ["pot","many","some","blocks","k"] 2 (by assumption) (by ac_rfl)
def pU:Cq P w K mg base 1 "_law_ways" 1 eB:=by cases S;cases V;exact okq (g:=dZ) ["blocks","found","k","name","statements","end","tos"] 1 (by assumption) (by ac_rfl;(have nd:((["side","to",".0"]:↑Str)++(["blocks","found","k","name","statements","end","tos"]:↑Str).map (hid ["side","to",".0"])).Nodup:=by decide+kernel);exact bK rfl (ls:=["side","to",".0"]) (.of<|ab iX) (by and_intros) (λJ J J J=>(je rfl<|bS (aP (i:=0) nd rfl (Or.inl rfl)<|.inr rfl)<|bS (aP (i:=1) nd rfl (Or.inl rfl)<|.inr rfl) f6)) (fJ 3 [0,1] ↥_) (λJ J J J=>by and_intros) (λJ J J J=>by and_intros) trivial)
def pW:Cq P w K mg base 2 "_law_cost" 3 aR:=by have:=pU S V;cases S;cases V;exact okq (g:=d6) ["blocks","order","counted","after","one","other","total","place","side","to","count"] 3 (by assumption) (by ac_rfl)
def ot:Cq P w K mg base 2 "_law_order" 2 cN:=by have:=eF S V;cases S;cases V;exact okq (g:=dk) ["pot","many","left","order"] 2 (by assumption) (by ac_rfl)
def io:Cq P w K mg base 11 "_law_run_alike" 5 aG:=by have:=C7 S V;have:=pT S V;cases S;cases V;exact okq (g:=bZ) ["program","order","numbers","told","due","rows","found"] 5 (by assumption) (by ac_rfl)
def mD:Cq P w K mg base 1 "_law_places" 2 cy:=by cases S;cases V;exact okq (g:=cW) ["told","many","place"] 2 (by assumption) (by ac_rfl)
end
def all_mk {l:PySem.W.OpenLaw}{w:Jo}{K:Zf}{h:Jp}{mg:Str->Option Jk}{fa c_Doing:Jq}(X:K.In h)(G:h.Ns JP mg)(hfa:mg "law"=some (.ref fa))(S:Fa K mg c_Doing):
  ∃fd:Km,(∀ (s:Js) (v:Jk) ,BindsTo s fd ([v],[]) [("script" ,v)])/\∀base:Jp,K.In base->base.Ns JP mg->FnOk l.prog w K mg base CX0 12 fa fd ["script"] (Ph K):=by
 let(_,d,FL,ML):=S.D_law;cases hfa.symm.trans ML;let(oc,od,kV,doc,pm,an,cdv,ct,osl,ed,lk,hcd):=FL.ex;refine(d,λs v=>by rw[ed];exact .of_eq rfl,λbase J J=>?_);have V:Wf l.prog w K mg base:=⟨trivial⟩
 have:=pV S V;have:=eF S V;have:=kb S V;have:=As S V;have:=xy S V;have:=Da S V;have:=mD S V;have:=pW S V;have:=zP S V;have:=pX S V;have:=pZ S V;have:=ot S V;have:=C9 S V;have:=io S V;cases S;cases V;exact MV (okfn (g:=nU) ["script","pots","many","program","size","numbers","told","counted","order","least","rows","other","pot"] 1 FL ML<|by intro _ _ _ _ _ _ hr hu hu6 hN;delta nU;refine bz ?_ (bz ?_<|bz ?_<|bz ?_<|bz ?_<|bz ?_<|bz ?_<|bz ?_<|bz ?_<|bz ?_<|bz ?_<|y8 (BU (i:=10) hN rfl (Or.inl rfl)<|Ed (by assumption) (hr.mono ∅) ?_ rfl) ?_)<;>and_intros;(have nd:((["pot",".0"]:↑Str)++(["script","pots","many","program","size","numbers","told","counted","order","least","rows","other","pot"]:↑Str).map (hid ["pot",".0"])).Nodup:=by decide+kernel);exact v8 (i:=5) hN rfl rfl rfl (ls:=["pot",".0"]) (.of<|ab Ad) (by and_intros) (λJ J J J=>(aP (i:=0) nd rfl (Or.inl rfl)<|.inr rfl)) (bJ 2 0 ↥_) (λJ J J J=>by and_intros) (λJ J J J=>by and_intros) trivial)
def walk {l:PySem.W.OpenLaw}{q:Jn}{loose:↑Str}{XP:(Str->Option Jk)->Jp->Prop}{YP:Jo->Jp->Prop}{d:DefRec}{K:Params->Zf}(hn:l.most=some 63)(hdf:d.params.defaults=[])
  (hY:∀ (w:Jo) (h:Jp) ,YP w h->(K w.params).In h)
  (F:∀ (w:Jo) (mg:Str->Option Jk) (fa:Jq) (h:Jp) ,(K w.params).In h->h.Ns JP mg->mg d.name=some (.ref fa)->
    ∃fd:Km,(∀ (s:Js) (u:Jk) ,BindsTo s fd ([u],[]) [("script" ,u)])/\∀base:Jp,(K w.params).In base->base.Ns JP mg->FnOk l.prog w (K w.params) mg base CX0 12 fa fd ["script"] (Ph<|K w.params)):
  PySem.W.WalkO q loose XP YP l.row.toRowW d [] (λf vs=>PySem.call f vs):=
 L2.walk_of (n:=63) (k:=12) (x:="script") (CX:=λJ=>CX0) (sp:=λw=>Ph<|K w.params) hn ↥_ hdf (rfl,↥_,↥_) hY F (λJ J a ns hl J hS=>(a,ns,rfl,hS,hl,λJ=>rfl)) λJ J J J J z=>z
def walk_x {loose:↑Str}{XP:(Str->Option Jk)->Jp->Prop}{K:Params->Zf}{n t:Nat}{run:Jk->↑Jk->Sem Jk}(e:∀P ,as=(K P).map (·.1))
  (W:PySem.W.WalkO q loose XP (λw h=>(K w.params).In h) r d kwd run):PySem.W.WalkX q loose XP (PySem.W.X.obsZ as) (PySem.W.X.valZ K n t) r d kwd run:=
 λw s₀ s₁ mg mb G y a o pm cd doc dV kV ho hd hcd hD hmg hg args vals bs L hpre hlay hrd hwl hlo=>
  W w s₀ s₁ mg mb G (PySem.W.InK.keeps w _ _ (PySem.W.X.z_facts e y).2.1 L.keeps) a o pm cd doc dV kV ho hd hcd hD hmg hg args vals bs hpre hlay hrd hwl hlo
end Q
structure PySem.W.Fast where(tw17714141525998172221 tw10543111323507041182 tw10714159626132721966 tw12631668222123980693 tw10320245008732850551 tw4524199671118418764 tw3153069645206251074 tw12451380602479308049 tw10849320124194325478 tw2102567030278416470 tw9571045667773738814 tw12332746942405779115 tw13478610736583201785 tw6202032676134699052 tw14187113668696058566 tw18126729581404578452 tw16205908064100055869 tw14877592010504243854 tw12587518440316299215 tw2122130489193241742 tw7726925764747226679 tw16460580709303105807 tw3673238760450192919 tw4681130747332732173 tw3009433464606711090 tw10981076001432106753 tw9277789282419212670 tw18194856393010488193 tw4843819341386649499 tw5833609287713524552 tw4631856453148185230 tw3192993731781954057 tw2919272494516531910 tw6584664267945795640 tw14654798163511876981 tw16034115343384555262 tw18026224547803652520 tw11036612423616310393 tw15969042651278472967 tw14977518859403788373 tw10355807757457246798 tw6416811800552011553 tw14768487610502799217 tw3119273089765181788 tw13236648404578750630 tw14205334475696065489 tw8410393814468679119 tw16871783168693660981 tw17273836458837373746 tw143823991885927281 tw10570495750015539459 tw13148831468914590731 tw11062670184939381797 tw17467909746240419416 tw6195486005333563194 tw17630997671630600097 tw18318103498956637618 tw7473403708866002204 tw2594556346398858331 tw12517680297786679518 tw6773335481865407742 tw9580920683662423131 tw16157591980455924240 tw15602566453532305978 tw13303731154950794830 tw7748009290146486668 tw456169039331188587 tw16584158684969991631 tw1068349955946814824 tw10730771744860816341 tw5085460091422836953 tw11555457138640139645 tw6008511212953319910 tw7545169805757467021 tw15918809461503058379 tw17469171960170143847 tw5914653345454443426 tw3450008539556217776 tw1109844164524506062 tw619545856296945713 tw11064666162593456108 tw7726580616273163228 tw1731883342201444863 tw8745637379397885753 tw9829979456711407403 tw6268368329776325430 tw16787289901630418124 tw8012871352684745608 tw8691040318615992255 tw868455389426094505 tw8292741691388705515 tw14738869054114891879 tw17244765104207133740 tw8852575257580082914 tw5593835140099799953 tw8704629903206150064 tw6406832766600109939 tw396987544494913525 tw2616783131475180729 tw2275136141097697085 tw10573404469636761738 tw7487925703526676039 tw5558816818218955181 tw12018355592263259792 tw1717422561809336096 tw7913440132358052076 tw9993246512708229912 tw8349503118527195556 tw13269649428252647281 tw9380151147276719722 tw17879043337138481147 tw75748320087575167 tw6335159655248056070 tw16385539074035448955 tw15539975468792601132 tw1859620731251438839 tw6722221572631147393 tw10725262438093970364 tw5310959295805802116 tw2135360553949330063 tw3982904077500607255 tw1584577549856398712 tw14890902611035944255 tw3974945782907890591 tw16210344072434512806 tw6386201636654791828 tw5568439193552328552 tw15729466734356529756 tw17505559005519900827 tw8474507245249117313 tw9561457746412936119 tw9501252115299352299 tw17724422799846988259 tw3369063739851919063 tw13312700582023641066 tw9497643284628417370 tw13037884885694432365 tw1045595686875636787 tw8806496360222941099 tw13923075994023153555 tw11844526753948898115 tw6786992264702818751 tw3386497316694726983 tw15483650134138490163 tw27053808980716628 tw8700367816432584760 tw8485459854448350782 tw7980614151854128771 tw7888559609097796092 tw1189218227564483182 tw16079957073170883043 tw3471109403583622386 tw8732486147327669187 tw4545596710406864803 tw12915684389033640924 tw11312417482388245536 tw12094278273603627068 tw18185231658393941729 tw4458468483012769140 tw11912231403819747256 tw4869123670058555676 tw4273213730687419502 tw10658635807112533705 tw1654680970995473760 tw6786109732772285518 tw13004195119888087403 tw3938699616725448026 tw12831469320847797723 tw2069460437932745900 tw11840629976245994812 tw407019332591613987 tw10093207590936715694 tw18015619385332772747 tw1163174059286283396:True)
open PySem PySem.W PyProof.Rows
set_option maxRecDepth 100000 in
set_option maxHeartbeats 0 in
theorem PySem.Challenge.cw_blockfall_k30_whole_best_is_run_holds : PySem.Challenge.rw_blockfall_k30_whole_best_is_run.Holds := by
 w_on;o_law;z_head;(case hw=>w_witness2)
 k_fill
 refine Q.walk_x (λJ=>by kernel_rfl) (Q.walk (l:=PySem.Challenge.rw_blockfall_k30_whole_best_is_run) rfl rfl (λw h Y=>Y) ?F)
 case F=>
  intro w mg fa h KX G hmg;apply Q.all_mk KX G hmg;constructor
  all_goals try first|(apply L2.dq KX G<;>k_is)|(apply L2.dqm<;>k_is)|(apply L2.gi KX G;k_is)|(apply L2.gs KX G;k_is)|(apply L2.gn KX G;k_is)|(apply L2.gp KX G<;>k_is)|(apply L2.gt KX G<;>first|k_is|exact⟨rfl,rfl,by decide⟩)|(apply L2.Cls.mk<;>k_is)|(apply mg_of KX G;k_is)|k_is|k_exc|rfl|kernel_rfl|decide+kernel
#print axioms PySem.Challenge.cw_blockfall_k30_whole_best_is_run_holds
