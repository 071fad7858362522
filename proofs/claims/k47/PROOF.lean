import PyProof.Rows.All
import Wide.All
import OpenK.AllK
import Wide.FinOn
import Lean
import PyProof.EqAt
import PyProof.EqKinds
import PyProof.TupleCall
import PyProof.ZipIter
import PySem.Challenge.RW_blockfall_k47_whole_papers_let_by
set_option bootstrap.genMatcherCode false
set_option genSizeOf false
set_option compiler.extract_closed false
set_option genSizeOfSpec false
set_option Elab.async false
set_option linter.all false
set_option maxRecDepth 100000
set_option maxHeartbeats 4000000
noncomputable section
open PySem.W (makesIn fnOf codeIn)
open List renaming length_map->Fx,map_append->Fz,mem_cons->FC,length_append->FE,getElem?_map->FG,length_cons->FH,mem_cons_self->FI,map_cons->FK,getElem?_eq_some_iff->FO,size_toArray->FP,getElem?_set_ne->FR,take_length->FS,mem_cons_of_mem->FV,mem_map->FW,mem_singleton->FZ,getElem?_eq_getElem->F4,mem_of_getElem?->F9,not_mem_nil->Ga,append_assoc->Gb,length_singleton->Gc,append_nil->Gd,map_nil->Ge,all_eq_true->Gf,map_map->Gg,cons_append->Gh,nil_append->Gj,length_take->Gk,length_set->Go,getElem?_append_left->Gr,getD_eq_getElem?_getD->Gu,mem_append->Gw,mem_append_right->GA,length_drop->GC,toArray->GF,forIn_cons->GH,lookup_cons->GM,forIn_nil->GN,any_eq_true->GO,take_succ->GP,mem_range->GQ,lookup->GR,any_cons->GT,find?_cons->GU,map_congr_left->GV,map_eq_nil_iff->GY,getElem?_append_right->G0,length_replicate->G1,length_nil->G3,replicate_succ->G4,range'->G5,getElem?_set_self->G7,flatten_cons->G9,drop_eq_getElem_cons->Ha,range_succ->Hc,nodup_append->Hg,filterMap_cons->Hi,mem_append_left->Hj,nodup_cons->Hl,all_cons->Hn,sum_cons->Ho,flatMap_cons->Hr,flatMap_append->Hs,zip_cons_cons->Hw,mem_filter->Hy,reverse_cons->HB,nodup_nil->HD,take_zero->HE,getElem?_cons_succ->HF,drop_zero->HG,any_map->HH,filter_cons_of_neg->HI,drop_eq_nil_iff->HJ,head?->HK,head?_drop->HL,head?_cons->HM,tail_drop->HN,zipWith->HP,length_zipWith->HQ,length_pos_iff->HS,all_map->HU,foldl_append->HV,length_range->HW,mem_of_mem_take->HX,getElem?_eq_none->HY,mem_flatMap->HZ,filter_append->H0,filter_nil->Ia,zip_nil_right->Ie,mem_filterMap->Ih,of_mem_zip->Ij,getElem?_replicate->Ik,foldl->Im,foldl_cons->Io,getElem?_drop->Iq,take_of_length_le->Ir,getElem?_toArray->Iu,drop_length->Ix,filter_cons_of_pos->Iy,getElem?_zipWith->Iz,ext_getElem?->IA,length_reverse->IB,getElem?_of_mem->IE,suffix_refl->II,map_reverse->IM,isPerm_iff->IP,map_id'->IQ,any_eq_false->IT,take_sublist->IU,drop_set_of_lt->Ja,length_range'->Jd,findIdx?_eq_some_iff_getElem->Je,getElem_toArray->Jf,mem_range'_1->Jg,dropWhile_suffix->Jh,drop_eq_nil_of_le->Ji,takeWhile_cons->Jj,mem_of_mem_drop->Jk,getElem?_range->Jl,zipIdx_append->Jn,mem_zipIdx_iff_getElem?->Jo,take_append_drop->Jp,range_succ_eq_map->Jq
open Nat renaming le_refl->Fy,zero_le->FY,ne_of_lt->F5,le_trans->F6,lt_of_lt_of_le->F8,lt_of_le_of_lt->Gm,le_succ->GS,lt_irrefl->GZ,le_of_eq->G8,succ->Hb,add_comm->Hh,ne_of_gt->Hk,le_add_right->Hq,pow_le_pow_right->Ht,add_assoc->Hu,add_left_comm->Hv,le_of_lt->Hz,le_succ_of_le->HR,lt_succ_self->Ii,add_le_add_left->Ip,sub_self->Iw,le_zero->IC,lt_succ_of_lt->IG,min_self->IH,mul_succ->IK,add_mul->IL,add_sub_cancel->Jm
open PySem.Heap renaming get?_push_of_some->FD,lt_size->FJ,get?_push_size->FX,size_push->GB,SameBut->GD,get?_update_ne->Hd,MadeExcOf->Is,get?_none_of_le->IR,get?_update_self->IV,get?_update_other->IW
open Option renaming map_eq_some_iff->FQ,isSome_map->GJ,isSome_iff_exists->HA,getD_none->Il,getD_some->IX
open Bool renaming false_ne_true->FU,and_eq_true->F7,not_true->Gv,eq_iff_iff->Gz,false_eq_true->GE,eq_false_iff->G6,not_eq_true->He,not_false->Hf,false_or->HC,bne_false->Ib,false_and->Ig,true_and->IJ,not_eq_true'->IY,or_eq_false_iff->I0
open Int renaming emod_lt_of_pos->Gn,emod_nonneg->Gq,le_refl->GW,add_zero->GX,toNat_natCast->Hm,ofNat->H9,lt_irrefl->IF,zero_add->IN
open Array renaming length_toList->Gy,forIn_toList->Ic,size_append->Iv,getElem?_toList->ID,append_assoc->IS,getElem?_eq_some_iff->IZ,getElem?_eq_getElem->Jb,toArray_toList->Jc
open PySem.W renaming instObj->Jr,findIn->Js,emptyDict->Jt,keepIn->Ju,nsIn->Jv,mg_of->Jw,Frag->Zf
open PySem renaming Value->Jx,Builtin->Jy,hashInt->Jz,Program->JB,World->JC,Heap->JD,Addr->JG,intKind->JH,Shared->JJ,Obj->JK,Around->JL,cLine->JM,wpAny->JN,model->JP,wpAny_bind->JR,wpAny_specialOf->JU,wpAny_call_entry->JV,wpAny_pure->JX,wpAny_rule->JY,wpAny_isInstance->JZ,wpAny_holding->J1,wpAny_truthy_bool->J2,wpAny_seqItems->J3,sysModules->J4,tupleKind->J5,mainGlobals->J6,bootBuiltins->J7,Scope->J8,eval->Ka,Pos->Kb,backTo->Kc,starEach->Kd,Stmt->Ke,wpAny_mono->Kf,compareOp->Kg,behindInMarks->Kh,standAt->Ki,holding->Kj,wpAny_execs_nil->Kk,assignEach->Kl,PassesOwn->Km,wpAny_passesOwn->Kn,pyNext->Ko,letOwnedTupleGo->Kp,rawInt->Kq,wpAny_pyIter_tuple->Kr,foldedSetIterable->Ks,binaryOp->Kt,getMethod->Ku,attributeBase->Kv,backToKw->Kw,keywordEach->Kx,FuncData->Ky,codeAny_mono->Kz,wpAny_Call_Name_kw->KA,Keyword->KB,NameKind->KC,wpAny_field->KE,wpAny_newObj_type->KF,typeIs_str->KG,sliceBounds->KH,call_meets->KI,atKey->KJ,tupleKind_room_in1->KL,relabel->KM,numAt->KO,PyData->KP,strIterType->KQ,wpAny_pyIter_enum->KR,IsPair->KS,wpAny_setField_rec->KU,wpAny_onRaise->KW,wpAny_updateSeq_pair->KY,wpAny_letGo->KZ,argBest->K0
open PyProof.Rows renaming AllBare->J9,envOfC->KD
set_option hygiene false in
local macro_rules|`(tactic|trace_state)=>`(tactic|(first|exact Or.inl rfl|exact Or.inr (Or.inl rfl)|exact Or.inr (Or.inr rfl)))
set_option hygiene false in
local macro_rules|`(tactic|array_mem_dec)=>`(tactic|(exact⟨rfl,rfl,rfl,⋯,rfl,⋯,⋯⟩))
set_option hygiene false in
local macro_rules|`(tactic|subst_vars)=>`(tactic|(first|exact .inl rfl|exact .inr rfl|assumption))
set_option hygiene false in
local macro_rules|`(tactic|subst_eqs)=>`(tactic|(intro _ _ _ _ _ _ us hl;first|(obtain⟨_,rfl⟩:=ln1 hl;rfl)|(obtain⟨_,_,rfl⟩:=ln2 hl;rfl)|(obtain⟨_,_,_,rfl⟩:=ln3 hl;rfl)|(obtain⟨_,_,_,_,rfl⟩:=ln4 hl;rfl)|(obtain⟨_,_,_,_,_,rfl⟩:=ln5 hl;rfl)))
set_option hygiene false in
local macro_rules|`(⋯)=>`(by decide +kernel)|`(∅)=>`(by omega)|`(↥_)=>`(by decide)|`(⇑_)=>`(by simp)|`(⇑$x:num)=>`(mC (.int $x))|`(⇑$x:str)=>`(mC (.str $x))|`(↥$x:num)=>`(Oj $x)|`(↥$x:ident)=>`(($x).heap.objs.size)
set_option hygiene false in
local macro_rules|`(tactic|ac_nf)=>`(tactic|(obtain ⟨o,ρ,rfl,R,S,h⟩:=h;refine ⟨o,ρ,rfl,R,S,Ps.bd h λp x vx e1 R1 r1 h1=>?_⟩))
namespace L2
open PySem
noncomputable abbrev PKy:=Int×List Int
noncomputable def fY (b:Bool)(v u:Jx):List Jx:=match b with
 |false=>[v,u]
 |true=>[u,v]
noncomputable def dF (ks:List Int):Int:=reduceHash (Jy.Tuple.tupleHashOf (ks.map Jz))
noncomputable def kO (b:Bool)(k:PKy):Int:=match b with
 |false=>reduceHash (Jy.Tuple.tupleHashOf [Jz k.1,dF k.2])
 |true=>reduceHash (Jy.Tuple.tupleHashOf [dF k.2,Jz k.1])
section
variable {prog:JB}{w:JC}
noncomputable def IsPk (prog:JB)(w:JC)(b:Bool)(h:JD)(k:PKy)(a:JG):Prop:=
 ∃o items n c v,h.get? a=some o/\o.cls=.type "tuple"/\o.data=.seq items n/\IsTupleKey (JH prog w) h k.2 c/\Jx.isInt k.1 v=true/\items.toList=fY b v (.ref c)
theorem IsPk.typeIs {b:Bool}{s:JJ}{k:PKy}{a:JG}(x:IsPk prog w b s.heap k a):s.TypeIs (.ref a) "tuple":=let ⟨o,_,_,_,_,ho,hc,_⟩:=x;⟨o,ho,hc⟩
theorem IsPk.inj {b:Bool}(hx:IsPk prog w b h x a)(hy:IsPk prog w b h y a):x=y:=by
 obtain⟨o,items,n,c,v,ho,_,hd,hk,hv,hi⟩:=hx;obtain⟨o',items',n',c',v',ho',_,hd',hk',hv',hi'⟩:=hy;obtain rfl:o=o':=Option.some.inj (ho.symm.trans ho');rw[hd] at hd';injection hd' with h1 _
 subst h1;rw[hi] at hi';have e:v=v'/\c=c':=by
  cases b with
  |false=>injection hi' with e1 e2;injection e2 with e2 _;injection e2 with e2;exact⟨e1,e2⟩
  |true=>injection hi' with e1 e2;injection e2 with e2 _;injection e1 with e1;exact⟨e2,e1⟩
 obtain⟨rfl,rfl⟩:=e;exact Prod.ext (Jx.isInt_inj v _ _ hv hv') (hk.inj hk')
theorem IsPk.keeps {b:Bool}{es ep}(x:IsPk prog w b h k a)(ho:h.get? d=some o)(hd:o.data=.dict es ep)(hs:GD d h h'):IsPk prog w b h' k a:=by
 obtain⟨o',items,n,c,v,ho',hc,hd',hk,hv,hi⟩:=x;have hne:a≠d:=by
  rintro rfl
  obtain rfl:o'=o:=Option.some.inj (ho'.symm.trans ho);rw[hd] at hd';exact nomatch hd'
 exact⟨o',items,n,c,v,(hs.2 a hne).trans ho',hc,hd',hk.keeps ho hd hs,hv,hi⟩
variable {A:JL}{E:Jx->JJ->Prop}{s:JJ}
theorem jW {b:Bool}{Q:Int->JJ->Prop}(hu:A.units+1<JM)(hk:IsPk prog w b s.heap k a)(h:Q (kO b k) {s with toks:=s.toks+(k.2.length+3)}):
  JN (JP prog w) A (pyHash (.ref a)) Q E s:=by
 have hT:=hk.typeIs;obtain⟨o,items,n,c,v,ho,_,hd,hk,hv,hi⟩:=hk;obtain⟨i,ks⟩:=k;unfold pyHash
 first|unfold pyHashByItsType|skip
 first|refine JR (wpAny_cRoomFor_or (.inr (Nat.lt_of_succ_lt hu)) ?_)|skip
 refine JR (JU hT F.slot_tuple_hash.lookup ?_);show JN _ _ (if (some (Jx.builtin "tuple.__hash__")==some Jx.none)=true then _ else _) Q E s;rw[if_neg (by rw[beq_builtin_none];exact FU)];refine JR (JU hT F.slot_tuple_hash.lookup ?_);show JN _ _ (callSpecialIfBoundUnlessNone? (.ref a) "__hash__" _>>=_) Q E s;refine JR (wpAny_callSpecialIfBoundUnlessNone?_slot hT F.slot_tuple_hash (JV F.slot_tuple_hash hT F.entry_tuple_hash ?_ (F.args_tuple_hash_1 _)));show JN _ _ (Jy.Tuple.tupleItemsOf (.ref a)>>=_) _ _ s;refine JR (wpAny_tupleItemsOf ho hd ?_);refine JR ?_;rw[<-Ic,hi];cases b with
 |false=>
  unfold fY;simp only[GH,GN];refine JR (JR ((JH prog w).pyHash (k:=i) hv ?_));refine JX (JR (JR (wpAny_pyHash_tuple (knd:=JH prog w) hu hk ?_)));refine JX (JX ?_);show JN _ _ (retInt (Jy.Tuple.tupleHashOf [Jz i,dF ks])) _ _ _;refine wpAny_ret_mkInt ?_;show JN _ _ (if (decide (-(2:Int) ^ 63<=Jy.Tuple.tupleHashOf [Jz i,dF ks]) && decide (Jy.Tuple.tupleHashOf [Jz i,dF ks]<2 ^ 63))=true then _ else _) Q E _;unfold kO reduceHash at h;by_cases hr:(decide (-(2:Int) ^ 63<=Jy.Tuple.tupleHashOf [Jz i,dF ks]) && decide (Jy.Tuple.tupleHashOf [Jz i,dF ks]<2 ^ 63))=true
  ·rw[if_pos hr];simp only at h;rw[if_pos hr] at h;exact JX (by simpa [Hu,Hh,Hv] using h)
  ·rw[if_neg hr];simp only at h;rw[if_neg hr] at h;exact JR (JY (JX (by simpa [Hu,Hh,Hv] using h)))
 |true=>
  unfold fY;simp only[GH,GN];refine JR (JR (wpAny_pyHash_tuple (knd:=JH prog w) hu hk ?_));refine JX (JR (JR ((JH prog w).pyHash (k:=i) hv ?_)));refine JX (JX ?_);show JN _ _ (retInt (Jy.Tuple.tupleHashOf [dF ks,Jz i])) _ _ _;refine wpAny_ret_mkInt ?_;show JN _ _ (if (decide (-(2:Int) ^ 63<=Jy.Tuple.tupleHashOf [dF ks,Jz i]) && decide (Jy.Tuple.tupleHashOf [dF ks,Jz i]<2 ^ 63))=true then _ else _) Q E _;unfold kO reduceHash at h;by_cases hr:(decide (-(2:Int) ^ 63<=Jy.Tuple.tupleHashOf [dF ks,Jz i]) && decide (Jy.Tuple.tupleHashOf [dF ks,Jz i]<2 ^ 63))=true
  ·rw[if_pos hr];simp only at h;rw[if_pos hr] at h;exact JX (by simpa [Hu,Hh,Hv] using h)
  ·rw[if_neg hr];simp only at h;rw[if_neg hr] at h;exact JR (JY (JX (by simpa [Hu,Hh,Hv] using h)))
theorem q9 {b:Bool}{P:Fin->JJ->Prop}(hu:A.units<JM)(hx:IsPk prog w b s.heap x a)(hy:IsPk prog w b s.heap y c)(h:P (.done (.ret (.bool (decide (x=y))))) s):
  JN (JP prog w) A (Jy.«tuple.__eq__» ⟨[.ref a,.ref c],[]⟩) P E s:=by
 have hTb:=hy.typeIs;obtain⟨oa,xs,na,ca,va,hoa,_,hda,hka,hva,hia⟩:=hx;obtain⟨ob,ys,nb,cb,vb,hob,_,hdb,hkb,hvb,hib⟩:=hy;obtain⟨i,ks⟩:=x;obtain⟨j,ls⟩:=y;show JN _ _ (isInstance (.ref c) (.type "tuple")>>=_) _ _ s;refine JR (JZ hTb isSubtype_tuple_tuple ?_);simp only[Gv,GE,if_false];refine JR (wpAny_tupleItemsOf hoa hda ?_);refine JR (wpAny_tupleItemsOf hob hdb ?_);refine JR ?_;have hsz:(xs.size==ys.size)=true:=by
  have e1:xs.size=2:=by rw[<-Gy,hia];cases b<;>rfl
  have e2:ys.size=2:=by rw[<-Gy,hib];cases b<;>rfl
  rw[e1,e2];rfl
 have dd:decide ((i,ks)=(j,ls))=(decide (i=j) && decide (ks=ls)):=by
  rw[Gz];simp
 rw[dd] at h;rw[hia,hib];have ki: ∀ {A:JL}{Q:Bool->JJ->Prop},Q (decide (i=j)) s->JN (JP prog w) A (eqBool va vb) Q E s:=λ{A Q} q=>(JH prog w).eqBool (a:=i) (b:=j) hva hvb q;have kt: ∀ {Q:Bool->JJ->Prop},Q (decide (ks=ls)) s->JN (JP prog w) A (eqBool (.ref ca) (.ref cb)) Q E s:=λ{Q} q=>wpAny_eqBool_tuple (knd:=JH prog w) hu hka hkb q;generalize decide (i=j)=b1 at *;generalize decide (ks=ls)=b2 at *;cases b with
 |false=>
  unfold fY;simp only[Hw,Ie,GH,GN];refine JR (JR (ki ?_));cases b1 with
  |false=>exact JR (JX (JX (JX (JX h))))
  |true=>
   refine JX (JR (JR (kt ?_)));cases b2 with
   |false=>exact JR (JX (JX (JX (JX h))))
   |true=>
    refine JX (JX (JX ?_));show P (.done (.ret (.bool (xs.size==ys.size)))) s;rw[hsz];exact h
 |true=>
  unfold fY;simp only[Hw,Ie,GH,GN];refine JR (JR (kt ?_));cases b2 with
  |false=>rw[Bool.and_false] at h;exact JR (JX (JX (JX (JX h))))
  |true=>
   refine JX (JR (JR (ki ?_)));cases b1 with
   |false=>exact JR (JX (JX (JX (JX h))))
   |true=>
    refine JX (JX (JX ?_));show P (.done (.ret (.bool (xs.size==ys.size)))) s;rw[hsz];exact h
theorem gD {b:Bool}{Q:Bool->JJ->Prop}(hu:A.units+1<JM)(hx:IsPk prog w b s.heap x a)(hy:IsPk prog w b s.heap y c)(h:Q (decide (x=y)) s):
  JN (JP prog w) A (eqBool (.ref a) (.ref c)) Q E s:=by
 unfold eqBool
 try with_reducible refine J1 ?_
 show JN _ _ (if (Jx.ref a==Jx.ref c)=true then _ else _) Q E s;by_cases hab:(Jx.ref a==Jx.ref c)=true
 ·rw[if_pos hab];have e:a=c:=by have:=eq_of_beq hab;injection this
  subst e;obtain rfl:=hx.inj hy;exact JR (JY (JX (by simpa using h)))
 ·rw[if_neg hab]
  exact JR (wpAny_richCompare_same_room (op:=.Eq) hx.typeIs hy.typeIs F.slot_tuple_eq
   (JV F.slot_tuple_eq hx.typeIs F.entry_tuple_eq (q9 hu hx hy ⟨_,rfl,(λe=>nomatch e),J2 h⟩) (F.args_tuple_eq_2 _ _)) (Nat.lt_of_succ_lt hu))
theorem ku {b:Bool}{Q:Bool->JJ->Prop}(hk:IsPk prog w b s.heap k a)(h:Q true s):JN (JP prog w) A (eqIsQuiet 8 (.ref a)) Q E s:=by
 have hT:=hk.typeIs;obtain⟨o,items,n,c,v,ho,_,hd,hk,hv,hi⟩:=hk;unfold eqIsQuiet;refine JR (JU hT F.slot_tuple_eq.lookup ?_);show JN _ _ (isInstance (.ref a) (.type "tuple")>>=_) _ _ s;refine JR (JZ hT isSubtype_tuple_tuple ?_);simp only[Gv,GE,if_false];refine JR (J3 ho hd ?_);refine JR ?_;show JN _ _ (forIn items _ _) _ _ s;rw[<-Ic,hi];have qv:eqIsQuiet 7 v=pure true:=eqIsQuiet_byValue _ ((JH prog w).byValue _ _ hv);have hTc:=hk.typeIs;obtain⟨oc,ic,nc,hoc,_,hdc,hic⟩:=hk;have qc: ∀ {Q:Bool->JJ->Prop},Q true s->JN (JP prog w) A (eqIsQuiet 7 (.ref c)) Q E s:=by
  intro Q h;unfold eqIsQuiet;refine JR (JU hTc F.slot_tuple_eq.lookup ?_);show JN _ _ (isInstance (.ref c) (.type "tuple")>>=_) _ _ s;refine JR (JZ hTc isSubtype_tuple_tuple ?_);simp only[Gv,GE,if_false];refine JR (J3 hoc hdc ?_);refine JR ?_;show JN _ _ (forIn ic _ _) _ _ s;rw[<-Ic];refine wpAny_forIn_list _ (λrest r s'=>r.1=none/\s'=s/\ ∀v∈rest,carriedByValue v=true) _ ?_ ?_ _ _ ⟨rfl,rfl,hic.byValue⟩
  ·rintro v rest r s' ⟨hr,rfl,hall⟩
   rw[eqIsQuiet_byValue _ (hall v FI)];refine JR (JX ?_);simp only[Gv,GE,if_false];exact JX ⟨rfl,rfl,λu hu'=>hall u (FV _ hu')⟩
  ·rintro⟨r1,r2⟩ s' ⟨hr,rfl,_⟩
   simp only at hr;subst hr;exact JX h
 cases b with
 |false=>
  unfold fY;simp only[GH,GN];refine JR ?_;rw[qv];refine JR (JX ?_);simp only[Gv,GE,if_false];refine JX (JR (JR (qc ?_)));simp only[Gv,GE,if_false];exact JX (JX (JX h))
 |true=>
  unfold fY;simp only[GH,GN];refine JR (JR (qc ?_));simp only[Gv,GE,if_false];refine JX (JR ?_);rw[qv];refine JR (JX ?_);simp only[Gv,GE,if_false];exact JX (JX (JX h))
noncomputable def kN (prog:JB)(w:JC)(b:Bool):HeapKind prog w PKy where
 is:=IsPk prog w b
 hash:=kO b
 draws:=λk=>k.2.length+3
 room:=λA=>A.units+1<JM
 inj:=λhx hy=>hx.inj hy
 keeps:=λx ho hd hs=>x.keeps ho hd hs
 pyHash:=λhu hk h=>jW hu hk h
 eqBool:=λhu hx hy h=>gD hu hx hy h
 quiet:=λhk h=>ku hk h
end
end L2
namespace L2
open PySem PySem.Spec PyProof.Rows
noncomputable abbrev Key:=Sum Int Str
noncomputable def MV:Key->Jx->Bool
 |.inl k,v=>Jx.isInt k v
 |.inr x,v=>Jx.isStrOf x v
noncomputable def keyH (w:JC):Key->Int
 |.inl k=>Jz k
 |.inr x=>hashStr w x
theorem bO: ∀ {k:Key}{v:Jx},MV k v=true->(∃i t,k=Sum.inl i/\v=Jx.int i t)\/(∃x t,k=Sum.inr x/\v=Jx.str x t)
 |.inl i,v,h=>by
  obtain⟨t,e⟩:=Jx.isInt_shape (k:=i) (v:=v) h;exact .inl ⟨i,t,rfl,e⟩
 |.inr x,v,h=>by
  obtain⟨t,e⟩:=Jx.isStrOf_shape (x:=x) (v:=v) h;exact .inr ⟨x,t,rfl,e⟩
theorem u0 (i:Int)(t:Tok):MV (.inl i) (.int i t)=true:=by simp [MV,Jx.isInt]
theorem uZ (x:Str)(t:Tok):MV (.inr x) (.str x t)=true:=by simp [MV,Jx.isStrOf]
theorem Dd (a b:Int):decide ((Sum.inl a:Key)=Sum.inl b)=(a==b):=by
 by_cases e:a=b
 ·subst e;simp
 ·have h: ¬(Sum.inl a:Key)=Sum.inl b:=λq=>e (Sum.inl.inj q);rw[decide_eq_false h];exact (beq_eq_false_iff_ne.mpr e).symm
theorem Da (a b:Str):decide ((Sum.inr a:Key)=Sum.inr b)=decide (a=b):=by
 by_cases e:a=b
 ·subst e;simp
 ·have h: ¬(Sum.inr a:Key)=Sum.inr b:=λq=>e (Sum.inr.inj q);rw[decide_eq_false h,decide_eq_false e]
theorem Dc (a:Int)(b:Str):decide ((Sum.inl a:Key)=Sum.inr b)=false:=decide_eq_false (λq=>nomatch q)
theorem Db (a:Str)(b:Int):decide ((Sum.inr a:Key)=Sum.inl b)=false:=decide_eq_false (λq=>nomatch q)
noncomputable def bX (prog:JB)(w:JC):PySem.KeyKind prog w Key where
 is:=MV
 hash:=keyH w
 inj:=λv a b ha hb=>by
  rcases bO ha with⟨i,t,rfl,rfl⟩|⟨x,t,rfl,rfl⟩
  ·rcases bO hb with⟨j,u,rfl,e⟩|⟨y,u,rfl,e⟩
   ·injection e with e1 _;rw[e1]
   ·exact nomatch e
  ·rcases bO hb with⟨j,u,rfl,e⟩|⟨y,u,rfl,e⟩
   ·exact nomatch e
   ·injection e with e1 _;rw[e1]
 byValue:=λk v h=>by
  rcases bO h with⟨i,t,rfl,rfl⟩|⟨x,t,rfl,rfl⟩<;>rfl
 pyHash:=λhv h=>by
  rcases bO hv with⟨i,t,rfl,rfl⟩|⟨x,t,rfl,rfl⟩
  ·exact wpAny_pyHash_int h
  ·exact wpAny_pyHash_str h
 eqBool:=λhu hv h=>by
  rcases bO hu with⟨i,t,rfl,rfl⟩|⟨x,t,rfl,rfl⟩
  ·rcases bO hv with⟨j,u,rfl,rfl⟩|⟨y,u,rfl,rfl⟩
   ·rw[Dd] at h;exact wpAny_eqBool_int h
   ·rw[Dc] at h;exact SeqAt.EqAt.int_str i t y u _ _ _ _ h
  ·rcases bO hv with⟨j,u,rfl,rfl⟩|⟨y,u,rfl,rfl⟩
   ·rw[Db] at h;exact SeqAt.EqAt.str_int x t j u _ _ _ _ h
   ·rw[Da] at h;exact wpAny_eqBool_str h
 «strs»:=λk x t v h=>by
  rcases bO h with⟨i,u,rfl,e⟩|⟨y,u,rfl,e⟩
  ·exact nomatch e
  ·injection e with e1 _
   subst e1;cases v<;>rfl
theorem pN (prog:JB)(w:JC)(i:Int)(t:Tok):(bX prog w).is (.inl i) (.int i t)=true:=u0 i t
theorem pM (prog:JB)(w:JC)(x:Str)(t:Tok):(bX prog w).is (.inr x) (.str x t)=true:=uZ x t
section
inductive V where
 |non|bl (b:Bool)|int (i:Int)|str (x:Str)|byt (b:Array UInt8)|flt (b:UInt64)|ref (a:JG)|ty (n:String)
 deriving DecidableEq
noncomputable def RelV:V->Jx->Prop
 |.non,u=>u=Jx.none
 |.bl b,u=>u=Jx.bool b
 |.int i,u=> ∃t,u=Jx.int i t
 |.str x,u=> ∃t,u=Jx.str x t
 |.byt b,u=> ∃t,u=Jx.bytes b t
 |.flt b,u=> ∃t,u=Jx.float b t
 |.ref a,u=>u=Jx.ref a
 |.ty n,u=>u=Jx.type n
noncomputable abbrev Vals:List V->List Jx->Prop:=Paired RelV
theorem Vals.length (r:Vals xs us):xs.length=us.length:=Paired.length r
theorem Vals.get: ∀ {xs:List V}{us:List Jx}{i:Nat}{x:V},Vals xs us->xs[i]?=some x-> ∃u,us[i]?=some u/\RelV x u
 |_,_,_,_,.nil,e=>by simp at e
 |_,_,0,_,.cons r _,e=>by simp at e;subst e;exact⟨_,rfl,r⟩
 |_,_,i+1,x,.cons _ t,e=>by
  obtain⟨u,h1,h2⟩:=Vals.get (i:=i) (x:=x) t (by simpa using e);exact⟨u,by simpa using h1,h2⟩
theorem Vals.set (r:RelV x u): ∀ {xs:List V}{us:List Jx} (i:Nat),Vals xs us->Vals (xs.set i x) (us.set i u)
 |_,_,_,.nil=>.nil
 |_,_,0,.cons _ t=>.cons r t
 |_,_,i+1,.cons q t=>.cons q (Vals.set r i t)
theorem Vals.append: ∀ {xs ys:List V}{us ws:List Jx},Vals xs us->Vals ys ws->Vals (xs++ys) (us++ws)
 |_,_,_,_,.nil,s=>s
 |_,_,_,_,.cons r t,s=>.cons r (Vals.append t s)
theorem Vals.take: ∀ {xs:List V}{us:List Jx} (n:Nat),Vals xs us->Vals (xs.take n) (us.take n)
 |_,_,0,_=>.nil
 |_,_,_+1,.nil=>.nil
 |_,_,n+1,.cons r t=>.cons r (Vals.take n t)
theorem Vals.drop: ∀ {xs:List V}{us:List Jx} (n:Nat),Vals xs us->Vals (xs.drop n) (us.drop n)
 |_,_,0,r=>r
 |_,_,_+1,.nil=>.nil
 |_,_,n+1,.cons _ t=>Vals.drop n t
noncomputable def RelO:Option V->Option Jx->Prop
 |some v,some u=>RelV v u
 |none,none=>True
 |_,_=>False
noncomputable def KV {κ:Type}:List (κ×V)->List (κ×Jx)->Prop:=Paired λ(p:κ×V) (q:κ×Jx)=>p.1=q.1/\RelV p.2 q.2
noncomputable def kV:Key->V
 |.inl i=>.int i
 |.inr x=>.str x
inductive HO where
 |lst (xs:List V)
 |tup (xs:List V)
 |dK (kvs:List (Key×V))|dT (kvs:List (List Key×V))|dN (b:Bool)(xs:List (PKy×JG×V))(ep:Nat)
 |set (S:Int->Bool)(n:Nat)
 |ins (C dx:JG)(fs:List (Str×V))
 |own (x:JG)
 |xd (fs:List (Str×V))
 |met (f x:JG)
 |rng (lo hi:Int)
 |frz (o:JK)(u:HO)
 |tbl (ps:Array Jx)
 |ext (φ:JD->Prop)
noncomputable abbrev Hp:=JG->Option HO
noncomputable def upd (H:Hp)(a:JG)(o:HO):Hp:=λb=>if b=a then some o else H b
theorem ao :upd H a o a=some o:=by unfold upd;rw[if_pos rfl]
theorem ag (h:b≠a):upd H a o b=H b:=by unfold upd;rw[if_neg h]
theorem Eo {H:Hp}{a b:JG}{o u:HO}(h:H a=some o)(h':H b=some u)(d:o≠u):a≠b:=by
 intro e;subst e;rw[h] at h';exact d (Option.some.inj h')
theorem bj {H:Hp}{a b:JG}{o:HO}(h:H a=some o)(h':H b=none):a≠b:=by
 intro e;subst e;rw[h] at h';cases h'
noncomputable def IsTupD (h:JD)(a:JG)(its:Array Jx):Prop:=IsTup h a its/\ ∃o,h.get? a=some o/\o.dict=none
theorem IsTupD.new (h:JD)(its:Array Jx):IsTupD (h.push {cls:=.type "tuple",data:=.seq its}) h.objs.size its:=⟨IsTup.new _ _,_,FX _ rfl,rfl⟩
section
variable (P:JB)(w:JC)
noncomputable def ObjOk (H:Hp)(h:JD)(a:JG):HO->Prop
 |.lst xs=>xs.length<=sizeLine/\ ∃ (its:List Jx) (n:Nat),Vals xs its/\h.get? a=some {cls:=.type "list",data:=.seq its.toArray n}
 |.tup xs=>xs.length<=sizeLine/\ ∃its:List Jx,Vals xs its/\IsTupD h a its.toArray
 |.dK kvs=>kvs.length<=sizeLine/\(a==J4)=false/\ ∃vs,KV kvs vs/\h.DictOf (bX P w) a vs
 |.dT kvs=>kvs.length<=sizeLine/\(a==J4)=false/\ ∃xs:List (List Key×JG×Jx),
  Paired (λ(p:List Key×V) (q:List Key×JG×Jx)=>p.1=q.1/\H q.2.1=some (.tup (p.1.map kV))/\RelV p.2 q.2.2) kvs xs/\
  ∃o es ep,h.get? a=some o/\o.ExactDict/\o.data=.dict es ep/\es.toList=xs.map (entryOfKey (J5 (bX P w)))/\(xs.map (·.1)).Nodup
 |.dN b xs ep=>xs.length<=sizeLine/\(a==J4)=false/\ ∃ys:List (PKy×JG×Jx),Paired (λ(p:PKy×JG×V) (q:PKy×JG×Jx)=>p.1=q.1/\p.2.1=q.2.1/\RelV p.2.2 q.2.2) xs ys/\
  ∃o es,h.get? a=some o/\o.ExactDict/\o.data=.dict es ep/\es.toList=ys.map (λy=>(⟨kO b y.1,.ref y.2.1,y.2.2⟩:DictEntry))/\(ys.map (·.1)).Nodup
 |.set S n=>h.SetOf (JH P w) a S n
 |.ins C dx fs=>H dx=some (.own a)/\fs.length<=1000/\dx≠a/\h.get? a=some (Jr C dx)/\
  ∃mA,h.Ns1 dx mA/\(∀f,RelO (fs.lookup f) (mA f))/\PySem.Within mA (fs.map (·.1))
 |.own _=> ∃o,h.get? a=some o
 |.xd fs=> ∃mA,h.Ns1 a mA/\ ∀f,RelO (fs.lookup f) (mA f)
 |.rng lo hi=> ∃t u v,h.get? a=some {cls:=.type "range",data:=.fields #[.int lo t,.int hi u,.int 1 v]}
 |.frz o u=>h.get? a=some o/\ObjOk H h a u
 |.tbl ps=>h.get? a=some {cls:=.none,data:=.fields ps}
 |.met f x=>h.get? a=some (PySem.W.methodObj (.ref f) (.ref x))
 |.ext φ=>φ h/\(∃o,h.get? a=some o)/\ ∀h1 h2:JD,φ h1->(∀o,h1.get? a=some o->h2.get? a=some o)->φ h2
noncomputable def HOk (H:Hp)(h:JD):Prop:= ∀a o,H a=some o->ObjOk P w H h a o
end
section
variable {P:JB}{w:JC}{H H':Hp}{h h':JD}{a:JG}{o:HO}
theorem ObjOk.lt (x:ObjOk P w H h a o):a<h.objs.size:=by
 cases o with
 |lst xs=>obtain⟨_,_,_,_,e⟩:=x;exact FJ e
 |tup xs=>obtain⟨_,_,_,p⟩:=x;exact p.1.lt
 |dK kvs=>obtain⟨_,_,_,_,o,_,_,e,_⟩:=x;exact FJ e
 |dT kvs=>obtain⟨_,_,_,_,o,_,_,e,_⟩:=x;exact FJ e
 |dN b xs ep=>obtain⟨_,_,_,_,o,_,e,_⟩:=x;exact FJ e
 |set S n=>obtain⟨o,_,_,_,e,_⟩:=x;exact FJ e
 |ins C dx fs=>obtain⟨_,_,_,e,_⟩:=x;exact FJ e
 |own y=>obtain⟨_,e⟩:=x;exact FJ e
 |xd fs=>obtain⟨_,⟨_,_,_,e,_⟩,_⟩:=x;exact FJ e
 |rng lo hi=>obtain⟨_,_,_,e⟩:=x;exact FJ e
 |frz ob u=>obtain⟨e,_⟩:=x;exact FJ e
 |tbl ps=>exact FJ (show h.get? a=some _ from x)
 |met f y=>exact FJ (show h.get? a=some _ from x)
 |ext φ=>obtain⟨_,⟨_,e⟩,_⟩:=x;exact FJ e
theorem Paired.mapP {α β:Type}{F G:α->β->Prop}: ∀ {l₁:List α}{l₂:List β},Paired F l₁ l₂->(∀a b,F a b->G a b)->Paired G l₁ l₂
 |_,_,.nil,_=>.nil
 |_,_,.cons r t,f=>.cons (f _ _ r) (Paired.mapP t f)
theorem ObjOk.stay (x:ObjOk P w H h a o)(k:∀b u,(b=a\/H b=some (.own a))->h.get? b=some u->h'.get? b=some u)
  (ho: ∀b,H b=some (.own a)->H' b=some (.own a))(ht: ∀b xs,H b=some (.tup xs)->H' b=some (.tup xs)):ObjOk P w H' h' a o:=by
 induction o with
 |lst xs=>obtain⟨z,its,n,r,e⟩:=x;exact⟨z,its,n,r,k _ _ (.inl rfl) e⟩
 |tup xs=>obtain⟨z,its,r,⟨ob,e,c⟩,o2,e2,c2⟩:=x;exact⟨z,its,r,⟨ob,k _ _ (.inl rfl) e,c⟩,o2,k _ _ (.inl rfl) e2,c2⟩
 |dK kvs=>obtain⟨z,y,vs,r,ob,es,ep,e,c⟩:=x;exact⟨z,y,vs,r,ob,es,ep,k _ _ (.inl rfl) e,c⟩
 |dT kvs=>
  obtain⟨z,y,xs,r,ob,es,ep,e,c⟩:=x;exact⟨z,y,xs,Paired.mapP r λp q z=>⟨z.1,ht _ _ z.2.1,z.2.2⟩,ob,es,ep,k _ _ (.inl rfl) e,c⟩
 |dN b xs ep=>obtain⟨z,y,ys,r,ob,es,e,c⟩:=x;exact⟨z,y,ys,r,ob,es,k _ _ (.inl rfl) e,c⟩
 |set S n=>obtain⟨ob,es,ep,t,e,c⟩:=x;exact⟨ob,es,ep,t,k _ _ (.inl rfl) e,c⟩
 |ins C dx fs=>
  obtain⟨d,z,ne,e,mA,⟨od,es,ep,e2,c⟩,r⟩:=x;exact⟨ho _ d,z,ne,k _ _ (.inl rfl) e,mA,⟨od,es,ep,k _ _ (.inr d) e2,c⟩,r⟩
 |own y=>obtain⟨ob,e⟩:=x;exact⟨ob,k _ _ (.inl rfl) e⟩
 |xd fs=>obtain⟨mA,⟨od,es,ep,e,c⟩,r⟩:=x;exact⟨mA,⟨od,es,ep,k _ _ (.inl rfl) e,c⟩,r⟩
 |rng lo hi=>obtain⟨t,u,v,e⟩:=x;exact⟨t,u,v,k _ _ (.inl rfl) e⟩
 |frz ob u ih=>obtain⟨e,q⟩:=x;exact⟨k _ _ (.inl rfl) e,ih q⟩
 |tbl ps=>
  have e:h.get? a=some {cls:=.none,data:=.fields ps}:=x;show h'.get? a=some {cls:=.none,data:=.fields ps};exact k a _ (.inl rfl) e
 |met f y=>
  have e:h.get? a=some (PySem.W.methodObj (.ref f) (.ref y)):=x;show h'.get? a=some (PySem.W.methodObj (.ref f) (.ref y));exact k a _ (.inl rfl) e
 |ext φ=>obtain⟨p,⟨o,e⟩,st⟩:=x;exact⟨st _ _ p λo q=>k _ _ (.inl rfl) q,⟨o,k _ _ (.inl rfl) e⟩,st⟩
theorem HOk.lt (x:HOk P w H h)(e:H a=some o):a<h.objs.size:=(x a o e).lt
theorem HOk.fresh (x:HOk P w H h)(e:h.objs.size<=a):H a=none:=by
 cases q:H a with
 |none=>rfl
 |some u=>exact absurd (F8 (x.lt q) e) (GZ _)
theorem HOk.kept (x:HOk P w H h)(k:∀b u,h.get? b=some u->h'.get? b=some u):HOk P w H h':=λa o e=>
 (x a o e).stay (λb u _ q=>k b u q) (λ_ q=>q) λ_ _ q=>q
theorem HOk.laid (x:HOk P w H h)(k:∀b u,h.get? b=some u->h'.get? b=some u)(hp:h.objs.size<=a)(new:ObjOk P w (upd H a o) h' a o):HOk P w (upd H a o) h':=λb u e=>by
 have hn:=x.fresh hp;by_cases hb:b=a
 ·subst hb;rw[ao] at e;cases e;exact new
 ·rw[ag hb] at e;exact (x b u e).stay (λc v _ q=>k c v q) (λc q=>by rw[ag (bj q hn)];exact q) λc xs q=>by rw[ag (bj q hn)];exact q
end
noncomputable def Rd (H:Hp)(a:JG)(u:HO):Prop:=H a=some u\/ ∃o,H a=some (.frz o u)
theorem Rd.ok {w:JC}(r:Rd H a u)(x:HOk P w H h):ObjOk P w H h a u:=by
 rcases r with r|⟨o,r⟩
 ·exact x a u r
 ·obtain⟨_,q⟩:=x a _ r;exact q
noncomputable def Mut:Option HO->Prop
 |some (.lst _)=>True
 |some (.dK _)=>True
 |some (.dT _)=>True
 |some (.dN _ _ _)=>True
 |some (.set _ _)=>True
 |some (.ins _ _ _)=>True
 |some (.ext _)=>True
 |_=>False
section
variable {P:JB}{w:JC}{H:Hp}{h h':JD}{x e:JG}{o':HO}
theorem HOk.write (ok:HOk P w H h)(mu:Mut (H x))(he:e=x\/H e=some (.own x))(k:∀b u,b≠e->h.get? b=some u->h'.get? b=some u)(heo: ∃u,h'.get? e=some u)
  (new:ObjOk P w (upd H x o') h' x o'):HOk P w (upd H x o') h':=λb u q=>by
 have nown: ∀c y,H c=some (.own y)->c≠x:=λc y r z=>by subst z;rw[r] at mu;exact mu
 have ntup: ∀c xs,H c=some (.tup xs)->c≠x:=λc xs r z=>by subst z;rw[r] at mu;exact mu
 by_cases hb:b=x
 ·subst hb;rw[ao] at q;cases q;exact new
 ·rw[ag hb] at q;by_cases hbe:b=e
  ·have q':H b=some (.own x):=by
    rcases he with z|z
    ·exact absurd (hbe.trans z) hb
    ·rw[hbe];exact z
   rw[q] at q';cases q';obtain⟨v,hv⟩:=heo;exact⟨v,by rw[hbe];exact hv⟩
  ·refine (ok b u q).stay (λc v hc r=>k c v ?_ r) (λc r=>by rw[ag (nown c b r)];exact r) λc xs r=>by rw[ag (ntup c xs r)];exact r
   rcases hc with rfl|hc
   ·exact hbe
   ·rintro rfl
    rcases he with z|z
    ·exact nown c b hc z
    ·rw[hc] at z;cases z;exact hb rfl
end
structure Un (fs ex:List JG)(H H':Hp)(h h':JD):Prop where
 keep: ∀b o,h.get? b=some o->H b=none->b ∉ fs->b ∉ ex->h'.get? b=some o
 slot: ∀b o,h.get? b=some o->H b=none->b∈fs->b ∉ ex-> ∃sl,h'.get? b=some {o with slots:=sl}
 free: ∀b o,h.get? b=some o->H b=none->b ∉ ex->H' b=none
 there: ∀b o,h.get? b=some o->b ∉ ex-> ∃o',h'.get? b=some o'
 tups: ∀b xs,H b=some (.tup xs)->H' b=some (.tup xs)
 frzs: ∀b o u,H b=some (.frz o u)->H' b=some (.frz o u)
 tbls: ∀b ps,H b=some (.tbl ps)-> ∃more,H' b=some (.tbl (ps++more))
section
variable {fs ex:List JG}{H H1:Hp}{h h1 h':JD}{a x e:JG}{o:HO}
theorem Un.any (u:Un fs ex H H1 h h1)(q:h.get? b=some ob)(n:H b=none)(hx:b ∉ ex): ∃sl,h1.get? b=some {ob with slots:=sl}:=by
 by_cases hb:b∈fs
 ·exact u.slot b ob q n hb hx
 ·exact⟨ob.slots,u.keep b ob q n hb hx⟩
theorem Un.kept (k:∀b u,h.get? b=some u->h'.get? b=some u):Un fs ex H H h h':=
 ⟨λb ob q _ _ _=>k b ob q,λb ob q _ _ _=>⟨ob.slots,k b ob q⟩,λ_ _ _ n _=>n,λb ob q _=>⟨ob,k b ob q⟩,λ_ _ q=>q,λ_ _ _ q=>q,λ_ ps q=>⟨#[],by rw[q];simp⟩⟩
theorem Un.refl:Un fs ex H H h h:=Un.kept λ_ _ q=>q
theorem Un.laid (k:∀b u,h.get? b=some u->h'.get? b=some u)(hp:h.objs.size<=a)(hn:H a=none):Un fs ex H (upd H a o) h h' where
 keep:=λb u q _ _ _=>k b u q
 slot:=λb u q _ _ _=>⟨u.slots,k b u q⟩
 free:=λb u q n _=>by rw[ag (F5 (F8 (FJ q) hp))];exact n
 there:=λb u q _=>⟨u,k b u q⟩
 tups:=λb xs q=>by rw[ag (bj q hn)];exact q
 frzs:=λb u xs q=>by rw[ag (bj q hn)];exact q
 tbls:=λb ps q=>⟨#[],by rw[ag (bj q hn),q];simp⟩
theorem Un.write (mu:Mut (H x))(he:e=x\/H e=some (.own x))(k:∀b u,b≠e->h.get? b=some u->h'.get? b=some u)(heo: ∃u,h'.get? e=some u):Un fs ex H (upd H x o) h h':=by
 have hx: ∀b,H b=none->b≠x:=λb n z=>by subst z;rw[n] at mu;exact mu
 have hb: ∀b,H b=none->b≠e:=λb n z=>by
  subst z;rcases he with r|r
  ·exact hx b n r
  ·rw[n] at r;cases r
 have hm: ∀b u,H b=some u-> ¬Mut (some u)->b≠x:=λb u q nm z=>by subst z;rw[q] at mu;exact nm mu
 refine⟨λb u q n _ _=>k b u (hb b n) q,λb u q n _ _=>⟨u.slots,k b u (hb b n) q⟩,λb u q n _=>by rw[ag (hx b n)];exact n,λb u q _=>?_,
  λb xs q=>by rw[ag (hm b _ q λz=>z)];exact q,λb u xs q=>by rw[ag (hm b _ q λz=>z)];exact q,λb ps q=>⟨#[],by rw[ag (hm b _ q λz=>z),q];simp⟩⟩
 by_cases hbe:b=e
 ·subst hbe;exact heo
 ·exact⟨u,k b u hbe q⟩
end
noncomputable def trk (h:JD)(H:Hp):List JG:=(List.range h.objs.size).filter λa=>(H a).isSome
noncomputable def Mn (h:JD)(H:Hp):JD:=PySem.W.hideAll h (trk h H)
theorem vc (h:JD)(H:Hp):(Mn h H).objs.size=h.objs.size:=PySem.W.hideAll_size _ _
theorem yc (e:h.get? b=some o)(n:H b=none):(Mn h H).get? b=some o:=
 PySem.W.hideAll_get _ e λhm=>by
  have q:(H b).isSome=true:=(Hy.mp hm).2;rw[n] at q;simp at q
theorem zH (e:(Mn h H).get? b=some o):h.get? b=some o/\H b=none:=by
 have e':h.get? b=some o:=PySem.W.of_hideAll (trk h H) e;refine⟨e',?_⟩;cases q:H b with
 |none=>rfl
 |some x=>
  have hm:b∈trk h H:=Hy.mpr ⟨GQ.mpr (FJ e'),by simp [q]⟩;have z:(Mn h H).get? b=none:=PySem.W.hideAll_none (trk h H) hm;rw[z] at e;cases e
noncomputable def AN (g h:JD)(L:JG):List (JG×JK):=(List.range h.objs.size).filterMap λa=>if a=L\/(g.get? a).isSome=true then none else (h.get? a).map λo=>(a,o)
noncomputable def rest (g h:JD)(L d:JG):List (JG×JK):=(AN g h L).filter λp=>decide (p.1≠d)
end
section
structure Mod (K:Zf)(mg:Str->Option Jx)(base:JD):Prop where
 kin:K.In base
 glob:base.Ns J6 mg
 blt: ∃mb,base.Ns builtinsNs mb/\ ∀x:Str,x≠ "__name__"->mb x=J7 x
 nolimit:base.NoLimit
structure Cx where
 prog:JB
 w:JC
 K:Zf
 mg:Str->Option Jx
 base:JD
 A:JL
 N:List Str
 s₀:JJ
 H₀:Hp
 env:Env
 outer:List Env
 stack:List Env
 ex:List JG
 fn:Str->Bool
 calm:Bool
 pn:List (JG×JK)
 xe:Jx->JJ->Prop
noncomputable def frs (l:List Env):List JG:=l.filterMap (·.frame)
noncomputable abbrev Cx.fs (X:Cx):List JG:=frs X.outer
noncomputable def Vis (sc:J8)(x:Str):Prop:=sc.names.lookup x=some .local \/sc.names.lookup x=some .cell\/sc.names.lookup x=some .free
noncomputable def Loc (sc:J8)(x:Str):Prop:=sc.names.lookup x=some .local \/sc.names.lookup x=some .cell
noncomputable def Look (env:Env)(h:JD)(m:Str->Option Jx)(x:Str)(u:Jx):Prop:=
 (env.kindOf x=some .local /\m x=some u)\/((env.kindOf x=some .cell\/env.kindOf x=some .free)/\ ∃c,env.cells.lookup x=some c/\h.IsCell c (some u))
structure Cx.Ok (X:Cx):Prop where
 mod:Mod X.K X.mg X.base
 kind:X.env.scope.kind=.function
 glob:X.env.globals=J6
 blt:X.env.builtins=builtinsNs
 above:↥X.s₀<=X.env.locals
 inj: ∀x y c,X.env.cells.lookup x=some c->X.env.cells.lookup y=some c->x=y
 has: ∀x,(X.env.kindOf x=some .cell\/X.env.kindOf x=some .free)-> ∃c,X.env.cells.lookup x=some c
 cab: ∀x c,X.fn x=true->X.env.cells.lookup x=some c->↥X.s₀<=c
 hd:X.calm=true->X.A.handled=none
 frames:X.A.frames=some X.stack
 stk:X.stack=X.outer\/(X.stack=X.env::X.outer/\X.env.frame=some X.env.locals)
 exf: ∀b∈X.ex,b≠X.env.locals/\ ∀x c,X.env.cells.lookup x=some c->c≠b
 bs: ∀b o,X.base.get? b=some o->X.s₀.heap.get? b=some o/\X.H₀ b=none
 bsz:X.base.objs.size<=↥X.s₀
 noex: ∀b o,X.base.get? b=some o->b ∉ X.ex
 exfs: ∀b∈X.ex,b ∉ X.fs
 funs:X.s₀.heap.FunFrames X.base X.outer
 frf: ∀b∈X.fs,X.H₀ b=none
structure Inv (X:Cx)(pins:List (JG×JK))(σ:List (Option V))(H:Hp)(s:JJ):Prop where
 ok:X.Ok
 os:s.os=X.s₀.os
 bare:J9 s.gens
 base:Un X.fs X.ex X.H₀ H X.s₀.heap s.heap
 loc: ∃m,s.heap.Ns X.env.locals m/\ ∀ (i:Nat) (x:Str) (v:V),X.N[i]?=some x->σ[i]?=some (some v)->Vis X.env.scope x-> ∃u,RelV v u/\Look X.env s.heap m x u
 cell: ∀x c,X.env.cells.lookup x=some c-> ∃v,s.heap.IsCell c v
 free:H X.env.locals=none
 freeC: ∀x c,X.env.cells.lookup x=some c->H c=none
 pin: ∀p∈X.pn++pins,s.heap.get? p.1=some p.2/\H p.1=none/\p.1≠X.env.locals/\p.1 ∉ X.fs/\ ∀v,p.2.data≠.cell v
 hok:HOk X.prog X.w H s.heap
 len:σ.length=X.N.length
section
variable {X:Cx}{pins:List (JG×JK)}{σ:List (Option V)}{H H':Hp}{s:JJ}{h':JD}
theorem Cx.Ok.nofr (ok:X.Ok)(e:X.base.get? b=some o):b ∉ X.fs:=λhb=>by
 have:=(ok.funs.mem hb).1;rw[e] at this;cases this
theorem Inv.bs (I:Inv X pins σ H s): ∀b o,X.base.get? b=some o->s.heap.get? b=some o/\H b=none:=λb o e=>
 ⟨I.base.keep b o (I.ok.bs b o e).1 (I.ok.bs b o e).2 (I.ok.nofr e) (I.ok.noex b o e),I.base.free b o (I.ok.bs b o e).1 (I.ok.bs b o e).2 (I.ok.noex b o e)⟩
theorem Inv.bk (I:Inv X pins σ H s): ∀b o,X.base.get? b=some o->s.heap.get? b=some o:=λb o e=>(I.bs b o e).1
theorem Inv.mod (I:Inv X pins σ H s):Mod X.K X.mg X.base:=I.ok.mod
theorem Inv.kIn (I:Inv X pins σ H s):X.K.In s.heap:=I.ok.mod.kin.keeps I.bk
theorem Inv.fr (I:Inv X pins σ H s): ∃m,Fr X.base X.env.locals s.heap m:=
 let ⟨m,hn,_⟩:=I.loc
 ⟨m,hn,I.bk,F6 I.ok.bsz I.ok.above⟩
theorem Inv.lt (I:Inv X pins σ H s):X.env.locals<↥s:=let ⟨_,hn,_⟩:=I.loc;hn.lt
theorem Inv.sz (I:Inv X pins σ H s):↥X.s₀<=↥s:=F6 I.ok.above (Hz I.lt)
theorem Inv.nofs (I:Inv X pins σ H s)(h:↥s<=a):a ∉ X.fs:=λhb=>by
 obtain⟨_,o,ho,_⟩:=I.ok.funs.mem hb;exact absurd (F8 (FJ ho) (F6 I.sz h)) (GZ _)
theorem Inv.cne (I:Inv X pins σ H s): ∀x c,X.env.cells.lookup x=some c->c≠X.env.locals:=λx c e z=>by
 obtain⟨v,o,ho,hd⟩:=I.cell x c e;obtain⟨m,⟨o',es,ep,ho',hd',_⟩,_⟩:=I.loc;rw[z,ho'] at ho;cases ho;rw[hd'] at hd;cases hd
theorem Inv.funs (I:Inv X pins σ H s):s.heap.FunFrames X.base X.outer:=by
 have all: ∀ (l:List Env),(∀b∈frs l,b∈X.fs)->X.s₀.heap.FunFrames X.base l->s.heap.FunFrames X.base l:=by
  intro l
  induction l with
  |nil=>intro _ _;trivial
  |cons env r ih=>
   intro hs hl;obtain⟨hk,⟨L,o,hf,hn,ho,hd⟩,hr⟩:=hl;have hL:L∈X.fs:=hs L (by unfold frs;rw[Hi,hf];exact FI);obtain⟨sl,e⟩:=I.base.slot L o ho (I.ok.frf L hL) hL λz=>I.ok.exfs L z hL;exact⟨hk,⟨L,_,hf,hn,e,hd⟩,ih (λb hb=>hs b (by unfold frs;rw[Hi,hf];exact FV _ hb)) hr⟩
 exact all X.outer (λ_ hb=>hb) I.ok.funs
theorem Inv.stack (I:Inv X pins σ H s):s.heap.FunFrames X.base X.stack:=by
 rcases I.ok.stk with e|⟨e,hf⟩
 ·rw[e];exact I.funs
 ·rw[e];obtain⟨m,hn,_⟩:=I.loc;refine .cons (by rw[I.ok.kind];decide) hf hn ?_ I.funs;exact IR (F6 I.ok.bsz I.ok.above)
theorem Inv.stkSub (I:Inv X pins σ H s): ∀b∈frs X.stack,b∈X.env.locals::X.fs:=λb hb=>by
 rcases I.ok.stk with e|⟨e,hf⟩
 ·rw[e] at hb;exact FV _ hb
 ·rw[e] at hb;unfold frs at hb;rw[Hi,hf] at hb;exact hb
theorem Inv.stkFree (I:Inv X pins σ H s): ∀b∈frs X.stack,H b=none:=λb hb=>by
 rcases FC.mp (I.stkSub b hb) with e|hb
 ·rw[e];exact I.free
 ·obtain⟨_,o,ho,_⟩:=I.ok.funs.mem hb;exact I.base.free b o ho (I.ok.frf b hb) λz=>I.ok.exfs b z hb
theorem Inv.step {g':Array GenState}{t':Nat}{d':Drawn}{ch:List JG}(I:Inv X pins σ H s)
  (hch: ∀b∈ch,(b∈X.ex\/↥X.s₀<=b)/\b≠X.env.locals/\(∀x c,X.env.cells.lookup x=some c->c≠b)/\ ∀p∈X.pn++pins,p.1≠b)
  (keep: ∀b o,b≠X.env.locals->b ∉ X.fs->b ∉ ch->s.heap.get? b=some o->H b=none->h'.get? b=some o)
  (slot: ∀b o,b≠X.env.locals->b∈X.fs->b ∉ ch->s.heap.get? b=some o->H b=none-> ∃sl,h'.get? b=some {o with slots:=sl})(free: ∀b o,b ∉ ch->s.heap.get? b=some o->H b=none->H' b=none)
  (there: ∀b o,b ∉ ch->s.heap.get? b=some o-> ∃o',h'.get? b=some o')
  (tups: ∀b xs,H b=some (.tup xs)->H' b=some (.tup xs))(frzs: ∀b o u,H b=some (.frz o u)->H' b=some (.frz o u))(tbls: ∀b ps,H b=some (.tbl ps)-> ∃more,H' b=some (.tbl (ps++more)))
  (ns: ∀m,s.heap.Ns X.env.locals m->h'.Ns X.env.locals m)(hok:HOk X.prog X.w H' h')(hg:J9 g'):
  Inv X pins σ H' {s with heap:=h',gens:=g',drawn:=d',toks:=t'}:=by
 have neL: ∀b o,X.s₀.heap.get? b=some o->b≠X.env.locals:=λb o e=>F5 (F8 (FJ e) I.ok.above);have neC: ∀b o,X.s₀.heap.get? b=some o->b ∉ X.ex->b ∉ ch:=λb o e hx hb=>by
  rcases (hch b hb).1 with z|z
  ·exact hx z
  ·exact absurd (F8 (FJ e) z) (GZ _)
 have cellK: ∀x c,X.env.cells.lookup x=some c-> ∀v,s.heap.IsCell c v->h'.IsCell c v:=λx c e v ⟨o,ho,hd⟩=>by
  have nch:c ∉ ch:=λz=>(hch c z).2.2.1 x c e rfl;by_cases hc:c∈X.fs
  ·obtain⟨sl,q⟩:=slot c o (I.cne x c e) hc nch ho (I.freeC x c e);exact⟨_,q,hd⟩
  ·exact⟨o,keep c o (I.cne x c e) hc nch ho (I.freeC x c e),hd⟩
 refine⟨I.ok,I.os,hg,⟨λb o e n hb hx=>?_,λb o e n hb hx=>?_,λb o e n hx=>?_,λb o e hx=>?_,λb xs e=>tups b xs (I.base.tups b xs e),λb o xs e=>frzs b o xs (I.base.frzs b o xs e),λb ps e=>?_⟩,?_,λx c e=>?_,?_,λx c e=>?_,λp hp=>?_,hok,I.len⟩
 ·exact keep b o (neL b o e) hb (neC b o e hx) (I.base.keep b o e n hb hx) (I.base.free b o e n hx)
 ·obtain⟨sl,e1⟩:=I.base.slot b o e n hb hx;obtain⟨sl',e2⟩:=slot b _ (neL b o e) hb (neC b o e hx) e1 (I.base.free b o e n hx);exact⟨sl',e2⟩
 ·obtain⟨o',e1⟩:=I.base.there b o e hx;exact free b o' (neC b o e hx) e1 (I.base.free b o e n hx)
 ·obtain⟨o',e1⟩:=I.base.there b o e hx;exact there b o' (neC b o e hx) e1
 ·obtain⟨m1,e1⟩:=I.base.tbls b ps e;obtain⟨m2,e2⟩:=tbls b _ e1;exact⟨m1++m2,by rw[e2,IS]⟩
 ·obtain⟨m,hn,hl⟩:=I.loc;refine⟨m,ns m hn,λi x v e1 e2 e3=>?_⟩;obtain⟨u,r,l⟩:=hl i x v e1 e2 e3;refine⟨u,r,?_⟩;rcases l with l|⟨k,c,e,z⟩
  ·exact .inl l
  ·exact .inr ⟨k,c,e,cellK x c e _ z⟩
 ·obtain⟨v,z⟩:=I.cell x c e;exact⟨v,cellK x c e v z⟩
 ·obtain⟨m,⟨o,_,_,ho,_⟩,_⟩:=I.loc;exact free _ o (λz=>(hch _ z).2.1 rfl) ho I.free
 ·obtain⟨v,o,ho,hd⟩:=I.cell x c e;exact free c o (λz=>(hch c z).2.2.1 x c e rfl) ho (I.freeC x c e)
 ·obtain⟨e,n,ne,nf,d⟩:=I.pin p hp;have nch:p.1 ∉ ch:=λz=>(hch p.1 z).2.2.2 p hp rfl;exact⟨keep p.1 p.2 ne nf nch e n,free p.1 p.2 nch e n,ne,nf,d⟩
theorem Inv.un {t':Nat}(I:Inv X pins σ H s)(u:Un X.fs [] H H' s.heap h')(hok:HOk X.prog X.w H' h'):Inv X pins σ H' {s with heap:=h',toks:=t'}:=by
 obtain⟨m,⟨o,es,ep,ho,r⟩,_⟩:=id I.loc;obtain⟨sl,hL⟩:=u.any ho I.free ⇑_
 exact I.step (g':=s.gens) (d':=s.drawn) (ch:=[]) (λ_ z=>nomatch z) (λb o _ hb _ e n=>u.keep b o e n hb ⇑_) (λb o _ hb _ e n=>u.slot b o e n hb ⇑_) (λb o _ e n=>u.free b o e n ⇑_) (λb o _ e=>u.there b o e ⇑_) u.tups u.frzs u.tbls (λm' hm=>by
  obtain⟨o',es',ep',ho',r'⟩:=hm;rw[ho] at ho';cases ho'
  exact⟨_,es',ep',hL,r'⟩) hok I.bare
theorem Inv.call {t':Nat}(I:Inv X pins σ H s)(u:Un (frs X.stack) ch H H' s.heap h')(hok:HOk X.prog X.w H' h')(hg:J9 g')
  (hch: ∀b∈ch,(b∈X.ex\/↥X.s₀<=b)/\b≠X.env.locals/\(∀x c,X.env.cells.lookup x=some c->c≠b)/\ ∀p∈X.pn++pins,p.1≠b):
  Inv X pins σ H' {s with heap:=h',gens:=g',drawn:=d',toks:=t'}:=by
 obtain⟨m,⟨o,es,ep,ho,r⟩,_⟩:=id I.loc;obtain⟨sl,hL⟩:=u.any ho I.free λz=>(hch _ z).2.1 rfl
 exact I.step (ch:=ch) hch (λb o hL hb hc e n=>u.keep b o e n (λz=>(FC.mp (I.stkSub b z)).elim hL hb) hc) (λb o _ _ hc e n=>u.any e n hc) (λb o hc e n=>u.free b o e n hc) (λb o hc e=>u.there b o e hc) u.tups u.frzs u.tbls (λm' hm=>by
  obtain⟨o',es',ep',ho',r'⟩:=hm;rw[ho] at ho';cases ho'
  exact⟨_,es',ep',hL,r'⟩) hok hg
theorem Inv.turned {t':Nat}(I:Inv X pins σ H s)(k:∀b o,b≠it->s.heap.get? b=some o->h'.get? b=some o)(hn:H it=none)(hL:it≠X.env.locals)
  (h1:it∈X.ex\/↥X.s₀<=it)(h2: ∀x c,X.env.cells.lookup x=some c->c≠it)(h3: ∀p∈X.pn++pins,p.1≠it):Inv X pins σ H {s with heap:=h',toks:=t'}:=by
 have nit: ∀b u,H b=some u->b≠it:=λb u e z=>by rw[z,hn] at e;cases e
 refine I.step (g':=s.gens) (d':=s.drawn) (ch:=[it]) (λb hb=>?_) (λb o _ _ hc e _=>k b o (λz=>hc (by simp [z])) e) (λb o _ _ hc e _=>⟨o.slots,k b o (λz=>hc (by simp [z])) e⟩) (λ_ _ _ _ n=>n)
  (λb o hc e=>⟨o,k b o (λz=>hc (by simp [z])) e⟩) (λ_ _ e=>e) (λ_ _ _ e=>e) (λb ps e=>⟨#[],by rw[e];simp⟩) (λm hm=>?_) (λb u e=>?_) I.bare
 ·have e:b=it:=by simpa using hb
  subst e;exact⟨h1,hL,h2,h3⟩
 ·obtain⟨o,es,ep,ho,r⟩:=hm;exact⟨o,es,ep,k _ o (Ne.symm hL) ho,r⟩
 ·refine (I.hok b u e).stay (λc v hc q=>k c v ?_ q) (λ_ q=>q) λ_ _ q=>q;rcases hc with z|z
  ·rw[z];exact nit b u e
  ·exact nit c _ z
theorem Inv.tok (I:Inv X pins σ H s)(t:Nat):Inv X pins σ H {s with toks:=t}:=I.un (h':=s.heap) (t':=t) Un.refl I.hok
theorem Inv.kept {t':Nat}(I:Inv X pins σ H s)(k:∀b u,s.heap.get? b=some u->h'.get? b=some u):Inv X pins σ H {s with heap:=h',toks:=t'}:=I.un (Un.kept k) (I.hok.kept k)
theorem Inv.laid {t':Nat}(I:Inv X pins σ H s)(k:∀b u,s.heap.get? b=some u->h'.get? b=some u)(hp:↥s<=a)(new:ObjOk X.prog X.w (upd H a o) h' a o):
 Inv X pins σ (upd H a o) {s with heap:=h',toks:=t'}:=I.un (Un.laid k hp (I.hok.fresh hp)) (I.hok.laid k hp new)
theorem Inv.write {t':Nat}(I:Inv X pins σ H s)(mu:Mut (H x))(he:e=x\/H e=some (.own x))(k:∀b u,b≠e->s.heap.get? b=some u->h'.get? b=some u)(heo: ∃u,h'.get? e=some u)
 (new:ObjOk X.prog X.w (upd H x o) h' x o):Inv X pins σ (upd H x o) {s with heap:=h',toks:=t'}:=I.un (Un.write mu he k heo) (I.hok.write mu he k heo new)
theorem Inv.weak (I:Inv X pins σ H s)(hl:σ'.length=σ.length)(w:∀ (i:Nat) v,σ'[i]?=some (some v)->σ[i]?=some (some v)):Inv X pins σ' H s:=
 ⟨I.ok,I.os,I.bare,I.base,let ⟨m,hn,hl'⟩:=I.loc;⟨m,hn,λi x v e1 e2 e3=>hl' i x v e1 (w i v e2) e3⟩,I.cell,I.free,I.freeC,I.pin,I.hok,hl.trans I.len⟩
theorem Inv.pins_of (I:Inv X pins σ H s)(h:∀p∈pins',s.heap.get? p.1=some p.2/\H p.1=none/\p.1≠X.env.locals/\p.1 ∉ X.fs/\ ∀v,p.2.data≠.cell v):Inv X pins' σ H s:=
 ⟨I.ok,I.os,I.bare,I.base,I.loc,I.cell,I.free,I.freeC,λp hp=>(Gw.mp hp).elim (λz=>I.pin p (Hj _ z)) (h p),I.hok,I.len⟩
theorem pL {N:List Str}(hN:N.Nodup){i j:Nat}{x:Str}(a:N[i]?=some x)(b:N[j]?=some x):i=j:=by
 obtain⟨h1,e1⟩:=FO.mp a;obtain⟨h2,e2⟩:=FO.mp b;exact (List.getElem_inj hN).mp (e1.trans e2.symm)
theorem uo {M:Model}{E:Jx->JJ->Prop}{i:Nat}{x:Str}{Q:Unit->JJ->Prop}(I:Inv X pins σ H s)(hN:X.N.Nodup)(hi:X.N[i]?=some x)(hx:Loc X.env.scope x)(r:RelV v u)
  (h:∀s',Inv X pins (σ.set i (some v)) H s'->(∃a,GD a s.heap s'.heap/\(a=X.env.locals\/X.env.cells.lookup x=some a))->Q () s')(hf:X.fn x=true\/X.env.scope.names.lookup x=some .local :=by subst_vars):JN M A (storeName X.env x u) Q E s:=by
 obtain⟨m,hn,hl⟩:=id I.loc;have hcls:(X.env.scope.kind==.class||(X.env.scope.kind==.module && X.env.locals !=X.env.globals))=false:=by rw[I.ok.kind];rfl
 have hiσ:i<σ.length:=by rw[I.len];exact (FO.mp hi).1
 have cne:=I.cne;have tracked: ∀ {a:JG}{h':JD},(∃o,s.heap.get? a=some o/\H a=none)->GD a s.heap h'->HOk X.prog X.w H h':=λ{a h'} ha hs b ob e=>by
  obtain⟨_,_,hfree⟩:=ha;refine (I.hok b ob e).stay (λc w' hc q=>(hs.2 c ?_).trans q) (λ_ q=>q) λ_ _ q=>q
  rintro rfl
  rcases hc with rfl|hc
  ·rw[hfree] at e;cases e
  ·rw[hfree] at hc;cases hc
 rcases hx with hk|hk
 ·refine wpAny_storeName_local hk hn (λh' hn' hs=>?_) hcls;obtain⟨oL,_,_,hoL,_⟩:=id hn;refine h _ ⟨I.ok,I.os,I.bare,⟨λb o e n hb hx=>?_,λb o e n hb hx=>?_,I.base.free,λb o e hx=>?_,I.base.tups,I.base.frzs,I.base.tbls⟩,⟨_,hn',λj y v' e1 e2 e3=>?_⟩,λy c e=>?_,I.free,I.freeC,λp hp=>?_,tracked ⟨oL,hoL,I.free⟩ hs,by simpa using I.len⟩ ⟨_,hs,.inl rfl⟩
  ·exact (hs.2 b (F5 (F8 (FJ e) I.ok.above))).trans (I.base.keep b o e n hb hx)
  ·obtain⟨sl,e1⟩:=I.base.slot b o e n hb hx;exact⟨sl,(hs.2 b (F5 (F8 (FJ e) I.ok.above))).trans e1⟩
  ·obtain⟨o',e1⟩:=I.base.there b o e hx;exact⟨o',(hs.2 b (F5 (F8 (FJ e) I.ok.above))).trans e1⟩
  ·by_cases hj:j=i
   ·subst hj;rw[hi] at e1;cases e1;rw[G7 hiσ] at e2;cases e2;exact⟨u,r,.inl ⟨hk,⇑_⟩⟩
   ·rw[FR (Ne.symm hj)] at e2;obtain⟨u',r',q⟩:=hl j y v' e1 e2 e3;refine⟨u',r',?_⟩;rcases q with⟨k,e⟩|⟨k,c,e,z⟩
    ·refine .inl ⟨k,?_⟩;have:y≠x:=λe=>hj (pL hN e1 (e▸hi));simp [this,e]
    ·exact .inr ⟨k,c,e,z.sameBut hs (cne y c e)⟩
  ·obtain⟨w',z⟩:=I.cell y c e;exact⟨w',z.sameBut hs (cne y c e)⟩
  ·obtain⟨e,n,ne,nf,d⟩:=I.pin p hp;exact⟨(hs.2 p.1 ne).trans e,n,ne,nf,d⟩
 ·have hfn:X.fn x=true:=by
   rcases hf with z|z
   ·exact z
   ·rw[z] at hk;cases hk
  obtain⟨c,hc⟩:=I.ok.has x (.inl hk);obtain⟨w',z⟩:=I.cell x c hc;refine wpAny_storeName_cell I.ok.kind hk hc z (λh' hc' hs=>?_);obtain⟨oc,hoc,hocd⟩:=id z;refine h {s with heap:=h'} ⟨I.ok,I.os,I.bare,⟨λb o e n hb hx=>?_,λb o e n hb hx=>?_,I.base.free,λb o e hx=>?_,I.base.tups,I.base.frzs,I.base.tbls⟩,⟨m,hn.sameBut hs (Ne.symm (cne x c hc)),λj y v' e1 e2 e3=>?_⟩,λy c' e=>?_,I.free,I.freeC,λp hp=>?_,tracked ⟨oc,hoc,I.freeC x c hc⟩ hs,by simpa using I.len⟩ ⟨c,hs,.inr hc⟩
  ·exact (hs.2 b (F5 (F8 (FJ e) (I.ok.cab x c hfn hc)))).trans (I.base.keep b o e n hb hx)
  ·obtain⟨sl,e1⟩:=I.base.slot b o e n hb hx;exact⟨sl,(hs.2 b (F5 (F8 (FJ e) (I.ok.cab x c hfn hc)))).trans e1⟩
  ·obtain⟨o',e1⟩:=I.base.there b o e hx;exact⟨o',(hs.2 b (F5 (F8 (FJ e) (I.ok.cab x c hfn hc)))).trans e1⟩
  ·by_cases hj:j=i
   ·subst hj;rw[hi] at e1;cases e1;rw[G7 hiσ] at e2;cases e2;exact⟨u,r,.inr ⟨.inl hk,c,hc,hc'⟩⟩
   ·rw[FR (Ne.symm hj)] at e2;obtain⟨u',r',q⟩:=hl j y v' e1 e2 e3;refine⟨u',r',?_⟩;rcases q with q|⟨k,c',e,z'⟩
    ·exact .inl q
    ·refine .inr ⟨k,c',e,z'.sameBut hs ?_⟩
     rintro rfl
     exact hj (pL hN e1 (I.ok.inj _ _ _ e hc▸hi))
  ·by_cases hcc:c'=c
   ·subst hcc;exact⟨_,hc'⟩
   ·obtain⟨w2,z2⟩:=I.cell y c' e;exact⟨w2,z2.sameBut hs hcc⟩
  ·obtain⟨e,n,ne,nf,d⟩:=I.pin p hp;refine⟨(hs.2 p.1 ?_).trans e,n,ne,nf,d⟩;intro q;rw[q,hoc] at e;have q':oc=p.2:=Option.some.inj e;exact d w' (by rw[<-q'];exact hocd)
theorem o4 {M:Model}{E:Jx->JJ->Prop}{i:Nat}{x:Str}{Q:Unit->JJ->Prop}(I:Inv X pins σ H s)(hN:X.N.Nodup)(hi:X.N[i]?=some x)(hx:Loc X.env.scope x)(r:RelV v u)
  (h:∀s',Inv X pins (σ.set i (some v)) H s'->Q () s')(hf:X.fn x=true\/X.env.scope.names.lookup x=some .local :=by subst_vars):JN M A (storeName X.env x u) Q E s:=
 uo I hN hi hx r (λs' I' _=>h s' I') hf
theorem Inv.call' (I:Inv X pins σ H s)(ho:s'.os=s.os)(u:Un (frs X.stack) ch H H' s.heap s'.heap)(hok:HOk X.prog X.w H' s'.heap)(hg:J9 s'.gens)
  (hch: ∀b∈ch,(b∈X.ex\/↥X.s₀<=b)/\b≠X.env.locals/\(∀x c,X.env.cells.lookup x=some c->c≠b)/\ ∀p∈X.pn++pins,p.1≠b):Inv X pins σ H' s':=by
 obtain⟨h',g',d',t',o'⟩:=s';have e:o'=s.os:=ho;subst e;exact I.call (g':=g') (t':=t') (d':=d') u hok hg hch
end
noncomputable abbrev XK:=Jx->Option JG->Hp->Prop
noncomputable abbrev St:=List (Option V)
noncomputable abbrev VK:=V->Hp->Prop
noncomputable abbrev TE:=St->Hp->VK->Prop
noncomputable abbrev TT:=St->Hp->(Bool->Hp->Prop)->Prop
noncomputable abbrev TA:=St->Hp->(List V->Hp->Prop)->Prop
structure K8 where
 nx:St->Hp->Prop
 rt:VK
 bk:St->Hp->Prop:=λ_ _=>False
 ct:St->Hp->Prop:=λ_ _=>False
noncomputable abbrev TS:=K8->St->Hp->Prop
noncomputable def EP (X:Cx)(pins:List (JG×JK))(σ:St)(Q:VK)(u:Jx)(s':JJ):Prop:= ∃v H',Inv X pins σ H' s'/\RelV v u/\Q v H'
noncomputable def TP (X:Cx)(pins:List (JG×JK))(σ:St)(Q:Bool->Hp->Prop)(b:Bool)(s':JJ):Prop:= ∃H',Inv X pins σ H' s'/\Q b H'
noncomputable def AP (X:Cx)(pins:List (JG×JK))(σ:St)(Q:List V->Hp->Prop)(us:List Jx)(s':JJ):Prop:= ∃vs H',Inv X pins σ H' s'/\Vals vs us/\Q vs H'
noncomputable def SP (X:Cx)(pins:List (JG×JK))(D:K8)(f:Flow)(s':JJ):Prop:=
 match f with
 |.next=> ∃σ' H',Inv X pins σ' H' s'/\D.nx σ' H'
 |.brk=> ∃σ' H',Inv X pins σ' H' s'/\D.bk σ' H'
 |.cont=> ∃σ' H',Inv X pins σ' H' s'/\D.ct σ' H'
 |.ret u=> ∃v σ' H',Inv X pins σ' H' s'/\RelV v u/\D.rt v H'
noncomputable def PE (X:Cx)(e:Expr)(t:TE):Prop:=
 ∀ (pins:List (JG×JK)) (s:JJ) (σ:St) (H:Hp) (Q:VK),Inv X pins σ H s->t σ H Q->JN (JP X.prog X.w) X.A (Ka e X.env) (EP X pins σ Q) X.xe s
noncomputable def PT (X:Cx)(e:Expr)(t:TT):Prop:=
 ∀ (pins:List (JG×JK)) (s:JJ) (σ:St) (H:Hp) (Q:Bool->Hp->Prop),Inv X pins σ H s->t σ H Q->JN (JP X.prog X.w) X.A (isTrue e X.env (Ka e X.env)) (TP X pins σ Q) X.xe s
noncomputable def PW (X:Cx)(e:Expr)(t:TT):Prop:=
 ∀ (whole:Sem Jx) (pins:List (JG×JK)) (s:JJ) (σ:St) (H:Hp) (Q:Bool->Hp->Prop),Inv X pins σ H s->t σ H Q->JN (JP X.prog X.w) X.A (isTrue e X.env whole) (TP X pins σ Q) X.xe s
theorem PW.pt (h:PW X e t):PT X e t:=h _
noncomputable def PA (X:Cx)(es:List Expr)(t:TA):Prop:=
 ∀ (pos:Kb) (pins:List (JG×JK)) (s:JJ) (σ:St) (H:Hp) (Q:List V->Hp->Prop),Inv X pins σ H s->t σ H Q->JN (JP X.prog X.w) X.A (spliced (Kc pos (Kd es X.env))) (AP X pins σ Q) X.xe s
noncomputable def PS (X:Cx)(st:Ke)(t:TS):Prop:=
 ∀ (pins:List (JG×JK)) (s:JJ) (σ:St) (H:Hp) (D:K8),Inv X pins σ H s->t D σ H->JN (JP X.prog X.w) X.A (exec st X.env) (SP X pins D) X.xe s
noncomputable def PSs (X:Cx)(st:List Ke)(t:TS):Prop:=
 ∀ (pins:List (JG×JK)) (s:JJ) (σ:St) (H:Hp) (D:K8),Inv X pins σ H s->t D σ H->JN (JP X.prog X.w) X.A (execs st X.env) (SP X pins D) X.xe s
theorem thn {α:Type}{t:Sem α}{Q Q':α->JJ->Prop}{M:Model}{E:Jx->JJ->Prop}(h:JN M A t Q E s)(hQ: ∀a s,Q a s->Q' a s):JN M A t Q' E s:=Kf h hQ λ_ _ x=>x
end
section
section
variable {X:Cx}
theorem bin (ha:PE X a ta)(hb:PE X b tb){R:V->V->Hp->Prop}(I:Inv X pins σ H s)(h:ta σ H λx H1=>tb σ H1 λy H2=>R x y H2)
  {α:Type}{Q:α->JJ->Prop}{f:Jx->Jx->Sem α}
  (hf: ∀v u s2 x y H2,Inv X pins σ H2 s2->RelV x v->RelV y u->R x y H2->JN (JP X.prog X.w) X.A (f v u) Q X.xe s2):
  JN (JP X.prog X.w) X.A (Ka a X.env) (λv s₁=>JN (JP X.prog X.w) X.A (Ka b X.env) (λu s₂=>JN (JP X.prog X.w) X.A (f v u) Q X.xe s₂) X.xe s₁) X.xe s:=by
 refine thn (ha pins s σ H _ I h) λv s1 qz=>?_;obtain⟨x,H1,I1,r1,q1⟩:=qz;refine thn (hb pins s1 σ H1 _ I1 q1) λu s2 qz=>?_;obtain⟨y,H2,I2,r2,q2⟩:=qz;exact hf v u s2 x y H2 I2 r1 r2 q2
noncomputable def P9 (i:Nat):TE:=λσ H Q=> ∃v,σ[i]?=some (some v)/\Q v H
noncomputable def tC (v:V):TE:=λ_ H Q=>Q v H
theorem BK {i:Nat}{x:Str}(hN:X.N[i]?=some x)(hv:Vis X.env.scope x)(hd:(x==("__debug__":Str))=false:=by decide)(hcd:(x==("__classdict__":Str))=false:=by decide):PE X (.Name x pos) (P9 i):=by
 intro pins s σ H Q I h;obtain⟨v,e,h⟩:=h;obtain⟨m,hn,hl⟩:=I.loc;obtain⟨u,r,l⟩:=hl i x v hN e hv;have fin:EP X pins σ Q u s:=⟨v,H,I,r,h⟩
 rcases l with⟨hk,hm⟩|⟨hk,c,hc,hcell⟩
 ·exact wpAny_Name (wpAny_loadName_local I.ok.kind hk hn hm fin) hd
 ·rcases hk with hk|hk
  ·exact wpAny_Name (wpAny_loadName_cell I.ok.kind hk hc hcell fin) hd
  ·exact wpAny_Name (wpAny_loadName_free I.ok.kind hk hc hcell fin hcd) hd
theorem Ou {i j pos}:PE X (.Constant (.int i) j pos) (tC (.int i)):=λ_ _ _ H _ I h=>wpAny_Constant_int ⟨.int i,H,I.tok _,⟨_,rfl⟩,h⟩
theorem Os {b j pos}:PE X (.Constant (.bool b) j pos) (tC (.bl b)):=λ_ _ _ H _ I h=>Constant_bool ⟨.bl b,H,I,rfl,h⟩
theorem Ov {x j pos}:PE X (.Constant (.str x) j pos) (tC (.str x)):=λ_ _ _ H _ I h=>Calls.Constant_str ⟨.str x,H,I.tok _,⟨_,rfl⟩,h⟩
noncomputable def Gl (X:Cx)(x:Str):Prop:=X.env.kindOf x=some .globalImplicit
theorem jk {E:Jx->JJ->Prop}{x:Str}{Q:Jx->JJ->Prop}(I:Inv X pins σ H s)(hg:Gl X x)(hm:X.mg x=some u)(h:Q u s)
  (hd:(x==("__debug__":Str))=false:=by decide):JN (JP X.prog X.w) X.A (Ka (.Name x pos) X.env) Q E s:=
 Calls.Name_function_global I.ok.kind hg (Calls.loadGlobal_global (by rw[I.ok.glob];exact I.mod.glob.keeps I.bk) hm h) hd
theorem f8 {E:Jx->JJ->Prop}{x:Str}{Q:Jx->JJ->Prop}(I:Inv X pins σ H s)(hg:Gl X x)(hm:X.mg x=none)(hv:J7 x=some u)(h:Q u s)
  (hn:x≠ "__name__":=by decide)(hd:(x==("__debug__":Str))=false:=by decide):JN (JP X.prog X.w) X.A (Ka (.Name x pos) X.env) Q E s:=by
 obtain⟨mb,h1,h2⟩:=I.mod.blt;exact Calls.Name_function_global I.ok.kind hg (Calls.loadGlobal_builtin (by rw[I.ok.glob];exact I.mod.glob.keeps I.bk) hm (by rw[I.ok.blt];exact h1.keeps I.bk) ((h2 x hn).trans hv) h) hd
theorem cW {x:Str}(hg:Gl X x)(hm:X.mg x=some u)(r:RelV v u)(hd:(x==("__debug__":Str))=false:=by decide):PE X (.Name x pos) (tC v):=
 λ_ _ _ H _ I h=>jk I hg hm ⟨v,H,I,r,h⟩ hd
variable {a b:Expr}{ta tb:TE}{pos:Kb}
noncomputable def tB (t:TE):TT:=λσ H Q=>t σ H λx H1=> ∃c,x=.bl c/\Q c H1
theorem fW (h:PE X e t)(he: ∀whole,isTrue e X.env whole=(do let v<-whole;Ki e.pos;Kj [v] (truthy v)):=by intro _;rfl):PT X e (tB t):=by
 intro pins s σ H Q I hw;refine isTrue_plain (thn (h pins s σ H _ I hw) λv s1 qz=>?_) (he _);obtain⟨x,H1,I1,r1,q1⟩:=qz;obtain⟨d,rfl,q⟩:=q1;cases r1;exact J2 ⟨H1,I1,q⟩
variable {tA tB':TT}{rest:List Expr}
noncomputable def tAnd (t u:TT):TT:=λσ H Q=>t σ H λc H1=>if c=true then u σ H1 Q else Q false H1
noncomputable def tOr (t u:TT):TT:=λσ H Q=>t σ H λc H1=>if c=true then Q true H1 else u σ H1 Q
noncomputable def tNot (t:TT):TT:=λσ H Q=>t σ H λc H1=>Q (!c) H1
theorem sO (ha:PT X a tA):PW X (.BoolOp .And [a] pos) tA:=by
 intro wh pins s σ H Q I h;refine isTrue_and (thn (ha pins s σ H Q I h) λc s1 e=>?_);cases c with
 |true=>exact isTrue_and_nil e
 |false=>exact e
theorem qW (ha:PT X a tA):PW X (.BoolOp .Or [a] pos) tA:=by
 intro wh pins s σ H Q I h;refine isTrue_or (thn (ha pins s σ H Q I h) λc s1 e=>?_);cases c with
 |false=>exact isTrue_or_nil e
 |true=>exact e
theorem wu (ha:PT X a tA)(hb:PW X (.BoolOp .And (b::rest) pos) tB'):PW X (.BoolOp .And (a::b::rest) pos) (tAnd tA tB'):=by
 intro wh pins s σ H Q I h;refine isTrue_and (thn (ha pins s σ H _ I h) λc s1 qz=>?_);obtain⟨H1,I1,q1⟩:=qz;cases c with
 |true=>exact hb wh pins s1 σ H1 Q I1 q1
 |false=>exact⟨H1,I1,q1⟩
theorem wr (ha:PT X a tA)(hb:PW X (.BoolOp .Or (b::rest) pos) tB'):PW X (.BoolOp .Or (a::b::rest) pos) (tOr tA tB'):=by
 intro wh pins s σ H Q I h;refine isTrue_or (thn (ha pins s σ H _ I h) λc s1 qz=>?_);obtain⟨H1,I1,q1⟩:=qz;cases c with
 |true=>exact⟨H1,I1,q1⟩
 |false=>exact hb wh pins s1 σ H1 Q I1 q1
theorem qX (ha:PT X a tA):PT X (.UnaryOp .Not a pos) (tNot tA):=by
 intro pins s σ H Q I h;exact isTrue_not (ha pins s σ H (λc H1=>Q (!c) H1) I h)
noncomputable def tAndV (ta tb:TE):TE:=λσ H Q=>ta σ H λx H1=> ∃c,x=.bl c/\if c=true then tb σ H1 Q else Q (.bl false) H1
noncomputable def tNotV (ta:TE):TE:=λσ H Q=>ta σ H λx H1=> ∃c,x=.bl c/\Q (.bl (!c)) H1
theorem wI {op}(h:PE X a t):PE X (.BoolOp op [a] pos) t:=λpins s σ H Q I hw=>BoolOp_one (h pins s σ H Q I hw)
theorem wN (ha:PE X a ta)(hb:PE X (.BoolOp .And (b::rest) pos) tb):PE X (.BoolOp .And (a::b::rest) pos) (tAndV ta tb):=by
 intro pins s σ H Q I h;refine BoolOp_and (thn (ha pins s σ H _ I h) λv s1 qz=>?_);obtain⟨x,H1,I1,r1,q1⟩:=qz;obtain⟨c,rfl,q1⟩:=q1;cases r1;refine J2 ?_;cases c with
 |true=>exact hb pins s1 σ H1 Q I1 q1
 |false=>exact⟨.bl false,H1,I1,rfl,q1⟩
theorem BM (ha:PE X a ta):PE X (.UnaryOp .Not a pos) (tNotV ta):=by
 intro pins s σ H Q I h;refine UnaryOp_ (thn (ha pins s σ H _ I h) λv s1 qz=>?_);obtain⟨x,H1,I1,r1,q1⟩:=qz;obtain⟨c,rfl,q1⟩:=q1;cases r1;exact not_of (J2 ⟨.bl (!c),H1,I1,rfl,q1⟩)
noncomputable def tIf (t:TT)(ta tb:TE):TE:=λσ H Q=>t σ H λc H1=>if c=true then ta σ H1 Q else tb σ H1 Q
theorem wK (hc:PT X c tA)(ha:PE X a ta)(hb:PE X b tb):PE X (.IfExp c a b pos) (tIf tA ta tb):=by
 intro pins s σ H Q I h;refine wpAny_IfExp (thn (hc pins s σ H _ I h) λd s1 qz=>?_);obtain⟨H1,I1,q1⟩:=qz;cases d with
 |true=>exact ha pins s1 σ H1 Q I1 q1
 |false=>exact hb pins s1 σ H1 Q I1 q1
end
end
section
noncomputable def SqL (K:Zf)(H:Hp)(a:JG)(xs:List V):Prop:=
 Rd H a (.lst xs)\/
  ∃ (o:JK) (its:Array Jx) (n:Nat),K.lookup a=some o/\o.cls=.type "list"/\o.dict=none/\o.data=.seq its n/\its.size<=sizeLine/\Vals xs its.toList
noncomputable def SqT (K:Zf)(H:Hp)(a:JG)(xs:List V):Prop:=
 Rd H a (.tup xs)\/
  ∃ (o:JK) (its:Array Jx) (n:Nat),K.lookup a=some o/\o.cls=.type "tuple"/\o.data=.seq its n/\its.size<=sizeLine/\Vals xs its.toList
noncomputable def absV:Jx->Option V
 |.none=>some .non
 |.bool b=>some (.bl b)
 |.int i _=>some (.int i)
 |.str x _=>some (.str x)
 |.bytes b _=>some (.byt b)
 |.float b _=>some (.flt b)
 |.ref a=>some (.ref a)
 |.type n=>some (.ty n)
 |_=>none
theorem RelV.abs (r:RelV x u):absV u=some x:=by
 cases x with
 |non=>cases r;rfl
 |bl _=>cases r;rfl
 |int _=>obtain⟨t,rfl⟩:=r;rfl
 |str _=>obtain⟨t,rfl⟩:=r;rfl
 |byt _=>obtain⟨t,rfl⟩:=r;rfl
 |flt _=>obtain⟨t,rfl⟩:=r;rfl
 |ref _=>cases r;rfl
 |ty _=>cases r;rfl
theorem RelV.inj (r:RelV x u)(q:RelV y u):x=y:=Option.some.inj (r.abs.symm.trans q.abs)
theorem Vals.inj: ∀ {xs ys:List V}{us:List Jx},Vals xs us->Vals ys us->xs=ys
 :=by
 intro xs ys us h
 induction h generalizing ys with
 |nil=>intro g;cases g;rfl
 |cons r t ih=>
  intro g;cases g with
  |cons r' t'=>rw[r.inj r',ih t']
section
variable {X:Cx}{pins:List (JG×JK)}{σ:St}{H:Hp}{s:JJ}{a:JG}{xs ys:List V}
theorem SqL.of {K:Zf}(h:H a=some (.lst xs)):SqL K H a xs:=.inl (.inl h)
theorem SqT.of {K:Zf}(h:H a=some (.tup xs)):SqT K H a xs:=.inl (.inl h)
theorem Inv.list (I:Inv X pins σ H s)(h:SqL X.K H a xs): ∃its:List Jx,Vals xs its/\PlainL s.heap a its.toArray/\xs.length<=sizeLine:=by
 rcases h with h|⟨o,its,n,hk,hc,hd,hs,hz,r⟩
 ·obtain⟨z,its,n,r,e⟩:=h.ok I.hok;exact⟨its,r,⟨_,n,e,rfl,rfl,rfl⟩,z⟩
 ·refine⟨its.toList,r,⟨o,n,I.kIn a o hk,hc,hd,by simpa using hs⟩,?_⟩;have e:=r.length;simp only[Gy] at e;omega
theorem Inv.tuple (I:Inv X pins σ H s)(h:SqT X.K H a xs): ∃its:List Jx,Vals xs its/\IsTup s.heap a its.toArray/\xs.length<=sizeLine:=by
 rcases h with h|⟨o,its,n,hk,hc,hs,hz,r⟩
 ·obtain⟨z,its,r,p⟩:=h.ok I.hok;exact⟨its,r,p.1,z⟩
 ·refine⟨its.toList,r,⟨o,I.kIn a o hk,hc,n,by simpa using hs⟩,?_⟩;have e:=r.length;simp only[Gy] at e;omega
theorem Inv.list_inj (I:Inv X pins σ H s)(h:SqL X.K H a xs)(h':SqL X.K H a ys):xs=ys:=by
 obtain⟨its,r,⟨o,n,e,_,_,d⟩,_⟩:=I.list h;obtain⟨its',r',⟨o',n',e',_,_,d'⟩,_⟩:=I.list h';rw[e] at e';cases e';rw[d] at d';injection d' with d1 _
 have:its=its':=by simpa using congrArg Array.toList d1
 subst this;exact r.inj r'
theorem Inv.tuple_inj (I:Inv X pins σ H s)(h:SqT X.K H a xs)(h':SqT X.K H a ys):xs=ys:=by
 obtain⟨its,r,⟨o,e,_,n,d⟩,_⟩:=I.tuple h;obtain⟨its',r',⟨o',e',_,n',d'⟩,_⟩:=I.tuple h';rw[e] at e';cases e';rw[d] at d';injection d' with d1 _
 have:its=its':=by simpa using congrArg Array.toList d1
 subst this;exact r.inj r'
end
noncomputable abbrev Cx.wish (X:Cx)(E:Jx->JJ->Prop):Cx:={X with xe:=E}
noncomputable abbrev Cx.nox (X:Cx):Cx:=X.wish λ_ _=>False
theorem Cx.Ok.wish {X:Cx}(ok:X.Ok)(E:Jx->JJ->Prop):(X.wish E).Ok:=
 ⟨ok.mod,ok.kind,ok.glob,ok.blt,ok.above,ok.inj,ok.has,ok.cab,ok.hd,ok.frames,ok.stk,ok.exf,ok.bs,ok.bsz,ok.noex,ok.exfs,ok.funs,ok.frf⟩
theorem Cx.Ok.unwish {X:Cx}{E:Jx->JJ->Prop}(ok:(X.wish E).Ok):X.Ok:=
 ⟨ok.mod,ok.kind,ok.glob,ok.blt,ok.above,ok.inj,ok.has,ok.cab,ok.hd,ok.frames,ok.stk,ok.exf,ok.bs,ok.bsz,ok.noex,ok.exfs,ok.funs,ok.frf⟩
section
variable {X:Cx}{pins:List (JG×JK)}{σ:St}{H:Hp}{s:JJ}{E:Jx->JJ->Prop}
theorem Inv.wish (I:Inv X pins σ H s)(E:Jx->JJ->Prop):Inv (X.wish E) pins σ H s:=⟨I.ok.wish E,I.os,I.bare,I.base,I.loc,I.cell,I.free,I.freeC,I.pin,I.hok,I.len⟩
theorem Inv.unwish (I:Inv (X.wish E) pins σ H s):Inv X pins σ H s:=⟨I.ok.unwish,I.os,I.bare,I.base,I.loc,I.cell,I.free,I.freeC,I.pin,I.hok,I.len⟩
theorem SP.unwish (h:SP (X.wish E) pins D f s'):SP X pins D f s':=by
 cases f with
 |next=>obtain⟨σ',H',I,q⟩:=h;exact⟨σ',H',I.unwish,q⟩
 |brk=>obtain⟨σ',H',I,q⟩:=h;exact⟨σ',H',I.unwish,q⟩
 |cont=>obtain⟨σ',H',I,q⟩:=h;exact⟨σ',H',I.unwish,q⟩
 |ret u=>obtain⟨v,σ',H',I,r,q⟩:=h;exact⟨v,σ',H',I.unwish,r,q⟩
theorem PSs.nox {st:List Ke}(h:PSs X.nox st t):PSs X st t:=λpins s σ H D I hw=>
 Kf (h pins s σ H D (I.wish _) hw) (λ_ _ q=>q.unwish) λ_ _ z=>False.elim z
end
section
variable {X:Cx}{st:Ke}{rest:List Ke}{t u:TS}{e:Expr}{te:TE}{pos:Kb}
noncomputable def tNext:TS:=λD σ H=>D.nx σ H
noncomputable def tSeq (t u:TS):TS:=λD σ H=>t {D with nx:=u D} σ H
theorem OC:PSs X [] tNext:=λ_ _ σ H _ I h=>Kk ⟨σ,H,I,h⟩
theorem av (h1:PS X st t)(h2:PSs X rest u):PSs X (st::rest) (tSeq t u):=by
 intro pins s σ H D I h;refine wpAny_execs_cons (thn (h1 pins s σ H {D with nx:=u D} I h) λf s1 q=>?_);cases f with
 |next=>
  obtain⟨σ',H',I',q⟩:=q;exact h2 pins s1 σ' H' D I' q
 |ret v=>exact q
 |brk=>exact q
 |cont=>exact q
theorem aJ (h1:PS X st t):PSs X [st] t:=by
 intro pins s σ H D I h;refine wpAny_execs_cons (thn (h1 pins s σ H D I h) λf s1 q=>?_);cases f with
 |next=>exact Kk q
 |ret v=>exact q
 |brk=>exact q
 |cont=>exact q
theorem Inv.quiet (I:Inv X pins σ H s):interactive X.env=false:=by simp [interactive,I.ok.kind]
noncomputable def tDrop (te:TE):TS:=λD σ H=>te σ H λ_ H1=>D.nx σ H1
theorem nV (he:PE X e te)(hs:swapsWith e none pos.line X.env=pure false:=by rfl):PS X (.Expr e pos) (tDrop te):=by
 intro pins s σ H D I h;exact wpAny_Expr_any (thn (he pins s σ H _ I h) λv s1 ⟨x,H1,I1,r1,q1⟩=>⟨σ,H1,I1,q1⟩) I.quiet hs
noncomputable def tRet (te:TE):TS:=λD σ H=>te σ H D.rt
theorem cx (he:PE X e te):PS X (.Return (some e) pos) (tRet te):=by
 intro pins s σ H D I h;exact wpAny_Return_some (thn (he pins s σ H _ I h) λv s1 ⟨x,H1,I1,r1,q1⟩=>⟨x,σ,H1,I1,r1,q1⟩)
noncomputable def tIfS (c:TT)(t u:TS):TS:=λD σ H=>c σ H λb H1=>if b=true then t D σ H1 else u D σ H1
theorem gG (hc:PT X c tc)(ha:PSs X a t)(hb:PSs X b u):PS X (.If c a b pos) (tIfS tc t u):=by
 intro pins s σ H D I h;refine wpAny_If (thn (hc pins s σ H _ I h) λd s1 qz=>?_);obtain⟨H1,I1,q1⟩:=qz;cases d with
 |true=>exact ha pins s1 σ H1 D I1 q1
 |false=>exact hb pins s1 σ H1 D I1 q1
noncomputable def Bh:TS:=λ_ _ _=>False
theorem uy :PSs X sts Bh:=λ_ _ _ _ _ _ h=>h.elim
end
noncomputable abbrev TG:=V->St->Hp->(St->Hp->Prop)->Prop
noncomputable abbrev TGs:=List V->St->Hp->(St->Hp->Prop)->Prop
noncomputable def PG (X:Cx)(target:Expr)(t:TG):Prop:=
 ∀ (pins:List (JG×JK)) (s:JJ) (σ:St) (H:Hp) (v:V) (u:Jx) (Q:St->Hp->Prop),Inv X pins σ H s->RelV v u->t v σ H Q->
   JN (JP X.prog X.w) X.A (assign target X.env u) (λ_ s'=> ∃σ' H',Inv X pins σ' H' s'/\Q σ' H') X.xe s
noncomputable def PGs (X:Cx)(ts:List Expr)(t:TGs):Prop:=
 ∀ (pins:List (JG×JK)) (s:JJ) (σ:St) (H:Hp) (vs:List V) (us:List Jx) (Q:St->Hp->Prop),Inv X pins σ H s->Vals vs us->t vs σ H Q->
   JN (JP X.prog X.w) X.A (assignInOrder ((Kl ts X.env).map (·.2)) us) (λ_ s'=> ∃σ' H',Inv X pins σ' H' s'/\Q σ' H') X.xe s
noncomputable abbrev Lm:=V->V->V->Hp->(Hp->Prop)->Prop
noncomputable def PSet (X:Cx)(t:Lm):Prop:=
 ∀ (pins:List (JG×JK)) (s:JJ) (σ:St) (H:Hp) (o i v:V) (ov iv u:Jx) (Q:Hp->Prop),Inv X pins σ H s->RelV o ov->RelV i iv->RelV v u->t o i v H Q->
   JN (JP X.prog X.w) X.A (setItem ov iv u) (λ_ s'=> ∃H',Inv X pins σ H' s'/\Q H') X.xe s
section
variable {X:Cx}{pos:Kb}
noncomputable def Mj (i:Nat):TG:=λv σ H Q=>Q (σ.set i (some v)) H
theorem aD {i:Nat}{x:Str}(hN:X.N.Nodup)(hi:X.N[i]?=some x)(hx:Loc X.env.scope x)(hf:X.fn x=true\/X.env.scope.names.lookup x=some .local :=by subst_vars):PG X (.Name x pos) (Mj i):=by
 intro pins s σ H v u Q I r h;exact wpAny_assign_Name (o4 I hN hi hx r (λs' I'=>⟨_,H,I',h⟩) hf)
noncomputable def gNil:TGs:=λvs σ H Q=>vs=[]/\Q σ H
noncomputable def Mi (t:TG)(u:TGs):TGs:=λvs σ H Q=> ∃v r,vs=v::r/\t v σ H λσ' H'=>u r σ' H' Q
theorem fZ:PGs X [] gNil:=by
 intro pins s σ H vs us Q I r h;obtain⟨e,h⟩:=h;subst e;cases r;exact assignInOrder_nil ⟨σ,H,I,h⟩
theorem bw (h1:PG X e t)(h2:PGs X es u)
  (hs:(Kl (e::es) X.env).map (·.2)=assign e X.env::(Kl es X.env).map (·.2):=by rfl):PGs X (e::es) (Mi t u):=by
 intro pins s σ H vs us Q I r h;obtain⟨v,vr,e1,h⟩:=h;subst e1;cases r with
 |cons r rr=>
  rw[hs];refine assignInOrder_cons (thn (h1 pins s σ H _ _ _ I r h) λ_ s1 qz=>?_);obtain⟨σ1,H1,I1,q1⟩:=qz;exact h2 pins s1 σ1 H1 _ _ Q I1 rr q1
noncomputable def gTup (K:Zf)(n:Nat)(t:TGs):TG:=λv σ H Q=> ∃a xs,v=.ref a/\SqT K H a xs/\xs.length=n/\t xs σ H Q
theorem iN {k:Nat}{n:Nat}(hc:X.calm=true)(h:PGs X es t)
  (hn:(Kl es X.env).length=n:=by rfl)(hst:(Kl es X.env).findIdx? (·.1)=none:=by rfl):PG X (.Tuple es k pos) (gTup X.K n t):=by
 intro pins s σ H v u Q I r hw;obtain⟨a,xs,e1,hq,hl,hw⟩:=hw;subst e1;cases r;obtain⟨its,rv,ht,hz⟩:=I.tuple hq;refine assign_Tuple_tuple (I.ok.hd hc) ht (by simp [hn,<-hl,rv.length]) hst λh' hx=>?_;have I1:Inv X pins σ H {s with heap:=h'}:=I.kept (t':=s.toks) λb o e=>hx b o (F5 (FJ e)) e;exact h pins _ σ H xs _ Q I1 (by simpa using rv) hw
noncomputable def gSub (to ti:TE)(t:Lm):TG:=λv σ H Q=>to σ H λo H1=>ti σ H1 λi H2=>t o i v H2 λH3=>Q σ H3
theorem wH (ho:PE X o to)(hi:PE X i ti)(hs:PSet X t)
  (ha: ∀v,assign (.Subscript o i pos) X.env v=(do
   let ov<-Kj [v] (Ka o X.env);let iv<-Kj [v,ov] (Ka i X.env)
   Ki pos
   Kj [v,ov,iv] (setItem ov iv v)
   release [v,ov,iv] []):=by intro _;rfl):PG X (.Subscript o i pos) (gSub to ti t):=by
 intro pins s σ H v u Q I r h;rw[ha];refine JR (J1 (thn (ho pins s σ H _ I h) λov s1 qz=>?_));obtain⟨x,H1,I1,r1,q1⟩:=qz;refine JR (J1 (thn (hi pins s1 σ H1 _ I1 q1) λiv s2 qz=>?_));obtain⟨y,H2,I2,r2,q2⟩:=qz;refine JR (wpAny_standAt (JR (J1 (thn (hs pins s2 σ H2 x y v ov iv u _ I2 r1 r2 r q2) λ_ s3 qz=>?_))));obtain⟨H3,I3,q3⟩:=qz;exact wpAny_release ⟨σ,H3,I3,q3⟩
noncomputable def tAsg (te:TE)(g:TG):TS:=λD σ H=>te σ H λx H1=>g x σ H1 D.nx
theorem qZ (he:PE X e te)(hg:PG X tg g)(hs:swapsWithSole [tg] e pos.line X.env=pure false:=by rfl)(hw:swappedStores [tg] e X.env=pure none:=by rfl)
  (h1:(Kl [tg] X.env).map (·.2)=[assign tg X.env]:=by rfl):PS X (.Assign [tg] e pos) (tAsg te g):=by
 intro pins s σ H D I h;refine wpAny_Assign_stores (thn (he pins s σ H _ I h) λv s1 qz=>?_) hs hw;obtain⟨x,H1,I1,r1,q1⟩:=qz;rw[h1];exact thn (hg pins s1 σ H1 x v _ I1 r1 q1) λ_ s2 q=>q
theorem de {i:Nat}{x:Str}(hN:X.N.Nodup)(hi:X.N[i]?=some x)(hx:Loc X.env.scope x)(he:PE X e te)(hs:swapsWith e (some (.Name x pos')) pos.line X.env=pure false:=by rfl)(hf:X.fn x=true\/X.env.scope.names.lookup x=some .local :=by subst_vars):
  PS X (.Assign [.Name x pos'] e pos) (tAsg te (Mj i)):=by
 intro pins s σ H D I h;refine wpAny_Assign_Name (thn (he pins s σ H _ I h) λv s1 qz=>?_) hs;obtain⟨y,H1,I1,r1,q1⟩:=qz;exact o4 I1 hN hi hx r1 (λs2 I2=>⟨_,H1,I2,q1⟩) hf
end
section
variable {X:Cx}{pos:Kb}
noncomputable def Bd (c:TT)(tb:TS):TS:=λD σ H=> ∃W:Nat->St->Hp->Prop,(∃m,W m σ H)/\ ∀m σ H,W m σ H->
 c σ H λb H1=>if b=true then∃N:St->Hp->Prop,(∀σ' H',N σ' H'-> ∃m',m'<m/\W m' σ' H')/\tb {D with nx:=N,ct:=N,bk:=D.nx} σ H1 else D.nx σ H1
theorem kL (hp:Km (JP X.prog X.w) X.A X.env X.xe)(hc:PT X c tc)(hb:PSs X body tb):PS X (.While c body [] pos) (Bd tc tb):=by
 intro pins s σ H D I h;obtain⟨W,⟨m0,w0⟩,turn⟩:=h;refine wpAny_While (codeAny_whileLoop (λn s'=> ∃σ' H',Inv X pins σ' H' s'/\W n σ' H') ?_ m0 ⟨σ,H,I,w0⟩)
 rintro n s1 ⟨σ1,H1,I1,w1⟩
 refine Kn hp (thn (hc pins s1 σ1 H1 _ I1 (turn n σ1 H1 w1)) λb s2 qz=>?_);obtain⟨H2,I2,q2⟩:=qz;cases b with
 |true=>
  obtain⟨N,hN,q2⟩:=q2;rw[if_pos rfl];refine Kn hp (thn (hb pins s2 σ1 H2 _ I2 q2) λf s3 q3=>?_);cases f with
  |next=>
   obtain⟨σ3,H3,I3,n3⟩:=q3;obtain⟨m',hm,w3⟩:=hN σ3 H3 n3;exact⟨m',hm,σ3,H3,I3,w3⟩
  |cont=>
   obtain⟨σ3,H3,I3,n3⟩:=q3;obtain⟨m',hm,w3⟩:=hN σ3 H3 n3;exact⟨m',hm,σ3,H3,I3,w3⟩
  |brk=>exact q3
  |ret v=>exact q3
 |false=>
  rw[if_neg FU];exact Kk ⟨σ1,H2,I2,q2⟩
end
structure It where
 go:Nat->Hp->Prop
 yld:Nat->Hp->V->Hp->Prop
 stop:Nat->Hp->Prop
noncomputable def Lc (X:Cx)(pins:List (JG×JK))(H:Hp)(b:JG):Prop:=
 H b=none/\b≠X.env.locals/\b ∉ X.fs/\(b∈X.ex\/↥X.s₀<=b)/\(∀x c,X.env.cells.lookup x=some c->c≠b)/\ ∀p∈X.pn++pins,p.1≠b
theorem Inv.fpOk (I:Inv X pins σ H s)(hb:↥s<=b)(hn:H' b=none):Lc X pins H' b:=by
 refine⟨hn,Hk (F8 I.lt hb),I.nofs hb,.inr (F6 I.sz hb),λx c e z=>?_,λp hp z=>?_⟩
 ·obtain⟨v,q⟩:=I.cell x c e;exact absurd (F8 q.lt (by rw[z];exact hb)) (GZ _)
 ·exact absurd (F8 (FJ (I.pin p hp).1) (by rw[z];exact hb)) (GZ _)
structure Lo (P:JB)(w:JC)(K:Zf)(tg:Expr)(J:It)(fp:List JG)(it:JG)(tn:Nat->JD->Prop):Prop where
 mem:it∈fp
 obj: ∀i h,tn i h-> ∀b∈fp,∃o,h.get? b=some o/\ ∀v,o.data≠.cell v
 keep: ∀i h h',tn i h->(∀b∈fp,∀o,h.get? b=some o->h'.get? b=some o)->tn i h'
 item: ∀ (X:Cx),X.prog=P->X.w=w->X.K=K->X.calm=true-> ∀ (i:Nat) (pins:List (JG×JK)) (s:JJ) (σ:St) (H:Hp) (E:Jx->JJ->Prop),Inv X pins σ H s->(∀b∈fp,Lc X pins H b)->tn i s.heap->J.go i H->
  JN (JP P w) X.A (Ko (.ref it)) (λr s1=> ∃u,r=some u/\
   JN (JP P w) X.A (Kp tg (.ref it) u) (λ_ s2=> ∃x H',Inv X pins σ H' s2/\RelV x u/\J.yld i H x H'/\tn (i+1) s2.heap/\ ∀b∈fp,H' b=none) E s1) E s
 done: ∀ (X:Cx),X.prog=P->X.w=w->X.K=K->X.calm=true-> ∀ (i:Nat) (pins:List (JG×JK)) (s:JJ) (σ:St) (H:Hp) (E:Jx->JJ->Prop),Inv X pins σ H s->(∀b∈fp,Lc X pins H b)->tn i s.heap->J.stop i H->
  JN (JP P w) X.A (Ko (.ref it)) (λr s1=>r=none/\Inv X pins σ H s1) E s
 self: ∀ (A:JL) (i:Nat) (s:JJ) (Q:Jx->JJ->Prop) (E:Jx->JJ->Prop),tn i s.heap->Q (.ref it) s->JN (JP P w) A (pyIter (.ref it)) Q E s
noncomputable abbrev TI:=St->Hp->(It->Hp->Prop)->Prop
noncomputable def PIE (X:Cx)(pins:List (JG×JK))(σ:St)(tg:Expr)(R:It->Hp->Prop)(itv:Jx)(s2:JJ):Prop:=
 ∃ (it:JG) (fp:List JG) (tn:Nat->JD->Prop) (J:It) (H':Hp),itv=.ref it/\Inv X pins σ H' s2/\Lo X.prog X.w X.K tg J fp it tn/\tn 0 s2.heap/\(∀b∈fp,Lc X pins H' b)/\R J H'
noncomputable def PI (X:Cx)(tg iter:Expr)(wi:TI):Prop:=
 ∀ (pins:List (JG×JK)) (s:JJ) (σ:St) (H:Hp) (R:It->Hp->Prop),Inv X pins σ H s->wi σ H R->
   JN (JP X.prog X.w) X.A (Ka iter X.env) (λv s1=>JN (JP X.prog X.w) X.A (pyIter v) (PIE X pins σ tg R) X.xe s1) X.xe s
theorem tU {M:Model}{E:Jx->JJ->Prop}{Q:Unit->JJ->Prop}(ho:s.heap.get? it=some o)(hc:o.cls=.type n)(hd:o.data=.fields vs)
  (hn:["enumerate", "zip", "dict_itemiterator", "dict_reverseitemiterator", "odict_iterator", "itertools.zip_longest", "itertools.pairwise"].contains n=false)(hQ:Q () s):JN M A (Kp tg (.ref it) u) Q E s:=by
 unfold Kp;cases tg<;>first
  |exact JX hQ
  |(cases u<;>first
   |exact JX hQ
   |(refine JR (wpAny_load ho ?_)
     rw[hc,hd];show JN M A (if (["enumerate", "zip", "dict_itemiterator", "dict_reverseitemiterator", "odict_iterator", "itertools.zip_longest", "itertools.pairwise"].contains n && vs[0]?==some (Kq _))=true then _ else _) Q E s;rw[if_neg (by intro h;rw[hn,Ig] at h;cases h)]
     exact JX hQ))
noncomputable def Itl (K:Zf)(a:JG):It:=
 ⟨λi H=> ∃xs x,SqL K H a xs/\xs[i]?=some x,λi H x H'=>H'=H/\ ∀xs,SqL K H a xs->xs[i]?=some x,λi H=> ∃xs,SqL K H a xs/\xs.length<=i⟩
noncomputable def Itt (K:Zf)(a:JG):It:=
 ⟨λi H=> ∃xs x,SqT K H a xs/\xs[i]?=some x,λi H x H'=>H'=H/\ ∀xs,SqT K H a xs->xs[i]?=some x,λi H=> ∃xs,SqT K H a xs/\xs.length<=i⟩
noncomputable def Itr (lo:Int)(n:Nat):It:=⟨λi _=>i<n,λi H x H'=>H'=H/\x=.int (lo+i),λi _=>n<=i⟩
theorem ul {P:JB}{w:JC}{K:Zf}{tg:Expr}(a it:JG):Lo P w K tg (Itl K a) [it] it (λi h=>h.IsListIter it a i) where
 mem:=⇑_
 obj:=λi h st b hb=>by
  have e:b=it:=by simpa using hb
  subst e;obtain⟨o,e,c,d⟩:=st;exact⟨o,e,λv z=>by rw[d] at z;cases z⟩
 keep:=λi h h' st k=>st.at λo e=>k it ⇑_ o e
 item:=by
  intro X hP hw hK hc i pins s σ H E I hf st hg;subst hP hw hK;obtain⟨xs,x,hq,hx⟩:=hg;obtain⟨its,rv,p,hz⟩:=I.list hq;obtain⟨u,hu,ru⟩:=rv.get hx;obtain⟨f0,f1,f2,f3,f4,f5⟩:=hf it ⇑_;refine wpAny_pyNext_list_item st p.isList (x:=u) (by simpa using hu) λh' st' sb=>?_;have I1:Inv X pins σ H {s with heap:=h'}:=I.turned (t':=s.toks) (λb o hb e=>(sb.2 b hb).trans e) f0 f1 f3 f4 f5;obtain⟨o,e,c,d⟩:=id st';exact⟨u,rfl,tU (s:={s with heap:=h'}) e c d ↥_ ⟨x,H,I1,ru,⟨rfl,λys hy=>by rw[I.list_inj hy hq];exact hx⟩,st',λb hb=>(hf b hb).1⟩⟩
 done:=by
  intro X hP hw hK hc i pins s σ H E I hf st hg;subst hP hw hK;obtain⟨xs,hq,hx⟩:=hg;obtain⟨its,rv,p,hz⟩:=I.list hq;obtain⟨f0,f1,f2,f3,f4,f5⟩:=hf it ⇑_;have hl:=rv.length;exact wpAny_pyNext_list_end (I.ok.hd hc) st p.isList (by simp;omega) λh' eb=>⟨rfl,I.turned (t':=s.toks) (λb o hb e=>eb b o hb e) f0 f1 f3 f4 f5⟩
 self:=λ_ _ _ _ _ st h=>wpAny_pyIter_listiter st h
theorem qB {P:JB}{w:JC}{K:Zf}{tg:Expr}(a it:JG):Lo P w K tg (Itt K a) [it] it (λi h=>h.IsTupleIter it a i) where
 mem:=⇑_
 obj:=λi h st b hb=>by
  have e:b=it:=by simpa using hb
  subst e;obtain⟨o,e,c,d⟩:=st;exact⟨o,e,λv z=>by rw[d] at z;cases z⟩
 keep:=λi h h' st k=>st.at λo e=>k it ⇑_ o e
 item:=by
  intro X hP hw hK hc i pins s σ H E I hf st hg;subst hP hw hK;obtain⟨xs,x,hq,hx⟩:=hg;obtain⟨its,rv,p,hz⟩:=I.tuple hq;obtain⟨u,hu,ru⟩:=rv.get hx;obtain⟨f0,f1,f2,f3,f4,f5⟩:=hf it ⇑_;refine wpAny_pyNext_tuple_item st (show s.heap.IsTuple a its.toArray from p) (x:=u) (by simpa using hu) λh' st' sb=>?_;have I1:Inv X pins σ H {s with heap:=h'}:=I.turned (t':=s.toks) (λb o hb e=>(sb.2 b hb).trans e) f0 f1 f3 f4 f5;obtain⟨o,e,c,d⟩:=id st';exact⟨u,rfl,tU (s:={s with heap:=h'}) e c d ↥_ ⟨x,H,I1,ru,⟨rfl,λys hy=>by rw[I.tuple_inj hy hq];exact hx⟩,st',λb hb=>(hf b hb).1⟩⟩
 done:=by
  intro X hP hw hK hc i pins s σ H E I hf st hg;subst hP hw hK;obtain⟨xs,hq,hx⟩:=hg;obtain⟨its,rv,p,hz⟩:=I.tuple hq;obtain⟨f0,f1,f2,f3,f4,f5⟩:=hf it ⇑_;have hl:=rv.length;exact wpAny_pyNext_tuple_end (I.ok.hd hc) st (show s.heap.IsTuple a its.toArray from p) (by simp;omega) λh' eb=>⟨rfl,I.turned (t':=s.toks) (λb o hb e=>eb b o hb e) f0 f1 f3 f4 f5⟩
 self:=λ_ _ _ _ _ st h=>wpAny_pyIter_tupleiter st h
theorem qC {P:JB}{w:JC}{K:Zf}{tg:Expr}(it:JG)(lo:Int)(n:Nat):Lo P w K tg (Itr lo n) [it] it (λi h=>IsRangeIter h it (lo+(i:Nat) * 1) ((n:Int) - (i:Nat)) 1) where
 mem:=⇑_
 obj:=λi h st b hb=>by
  have e:b=it:=by simpa using hb
  subst e
  exact⟨_,st,λv z=>by
   have z':Data.fields _=Data.cell v:=z
   cases z'⟩
 keep:=λi h h' st k=>k it ⇑_ _ st
 item:=by
  intro X hP hw hK hc i pins s σ H E I hf st hg;subst hP hw hK;obtain⟨f0,f1,f2,f3,f4,f5⟩:=hf it ⇑_;have W:=Walks.range (prog:=X.prog) (w:=X.w) (I.ok.hd hc) it lo 1 n;refine W.item i s _ _ hg st λv h' tk hv st' kk=>?_;obtain⟨t,rfl⟩:=hv;have I1:Inv X pins σ H {s with heap:=h',toks:=tk}:=I.turned (λb o hb e=>kk b o (by simpa using hb) e) f0 f1 f3 f4 f5;refine⟨_,rfl,tU (s:={s with heap:=h',toks:=tk}) (n:= "range_iterator") st' rfl rfl ↥_ ⟨.int (lo+i),H,I1,⟨t,?_⟩,⟨rfl,rfl⟩,st',λb hb=>(hf b hb).1⟩⟩;rw[Int.mul_one]
 done:=by
  intro X hP hw hK hc i pins s σ H E I hf st hg;subst hP hw hK;obtain⟨f0,f1,f2,f3,f4,f5⟩:=hf it ⇑_;exact wpAny_pyNext_range_end (I.ok.hd hc) st (by have:n<=i:=hg;omega) λh' eb=>⟨rfl,I.turned (t':=s.toks) (λb o hb e=>eb b o hb e) f0 f1 f3 f4 f5⟩
 self:=λ_ _ _ _ _ st h=>wpAny_pyIter_rangeiter st h
end
section
section
variable {X:Cx}{tg:Expr}
noncomputable def iList (K:Zf)(tl:TE):TI:=λσ H R=>tl σ H λx H1=> ∃a,x=.ref a/\(∃xs,SqL K H1 a xs)/\R (Itl K a) H1
noncomputable def iTup (K:Zf)(tl:TE):TI:=λσ H R=>tl σ H λx H1=> ∃a,x=.ref a/\(∃xs,SqT K H1 a xs)/\R (Itt K a) H1
theorem zt (hl:PE X l tl):PI X tg l (iList X.K tl):=by
 intro pins s σ H R I h;refine thn (hl pins s σ H _ I h) λv s1 qz=>?_;obtain⟨x,H1,I1,r1,q1⟩:=qz;obtain⟨a,e,⟨xs,hq⟩,q⟩:=q1;subst e;cases r1;obtain⟨its,rv,p,hz⟩:=I1.list hq;refine wpAny_pyIter_list p.isList ?_;refine⟨↥s1,[↥s1],_,_,H1,rfl,I1.kept (t':=s1.toks) λb o e=>FD _ e,ul a _,⟨_,FX _ rfl,rfl,rfl⟩,λb hb=>?_,q⟩;have e:b=↥s1:=by simpa using hb
 subst e;exact I1.fpOk (Fy _) (I1.hok.fresh (Fy _))
theorem BJ (hl:PE X l tl):PI X tg l (iTup X.K tl):=by
 intro pins s σ H R I h;refine thn (hl pins s σ H _ I h) λv s1 qz=>?_;obtain⟨x,H1,I1,r1,q1⟩:=qz;obtain⟨a,e,⟨xs,hq⟩,q⟩:=q1;subst e;cases r1;obtain⟨its,rv,p,hz⟩:=I1.tuple hq;refine Kr (show s1.heap.IsTuple a its.toArray from p) ?_;refine⟨↥s1,[↥s1],_,_,H1,rfl,I1.kept (t':=s1.toks) λb o e=>FD _ e,qB a _,⟨_,FX _ rfl,rfl,rfl⟩,λb hb=>?_,q⟩;have e:b=↥s1:=by simpa using hb
 subst e;exact I1.fpOk (Fy _) (I1.hok.fresh (Fy _))
theorem pC {R:It->Hp->Prop}{E:Jx->JJ->Prop}{lo hi:Int}{tk:Nat}(I:Inv X pins σ H s)(h1: -(2 ^ 62)<=lo)(h2:lo<2 ^ 62)(h3: -(2 ^ 62)<=hi)(h4:hi<2 ^ 62)
  (q:R (Itr lo (hi - lo).toNat) H):JN (JP X.prog X.w) X.A (pyIter (.ref ↥s)) (PIE X pins σ tg R) E {s with heap:=s.heap.push {cls:=.type "range",data:=.fields #[.int lo t,.int hi u,.int 1 v]},toks:=tk}:=by
 refine wpAny_pyIter_range (IsRange.new ..) (small_one h1 h2 h3 h4) ?_;have I1:Inv X pins σ H {s with heap:=s.heap.push {cls:=.type "range",data:=.fields #[.int lo t,.int hi u,.int 1 v]},toks:=tk}:=I.kept λb o e=>FD _ e
 refine⟨(s.heap.push {cls:=.type "range",data:=.fields #[.int lo t,.int hi u,.int 1 v]}).objs.size,[(s.heap.push {cls:=.type "range",data:=.fields #[.int lo t,.int hi u,.int 1 v]}).objs.size],_,_,H,rfl,
  I1.kept (t':=tk) λb o e=>FD _ e,qC _ lo (hi - lo).toNat,?_,λb hb=>?_,q⟩
 ·have e1:lo+((0:Nat):Int) * 1=lo:=⇑_;have e2:(((hi - lo).toNat:Nat):Int) - ((0:Nat):Int)=Jy.Range.rangeSize lo hi 1:=by rw[rangeSize_one];split<;>omega
  show IsRangeIter _ _ (lo+((0:Nat):Int) * 1) ((((hi - lo).toNat:Nat):Int) - ((0:Nat):Int)) 1;rw[e1,e2];exact FX _ rfl
 ·have e:b=(s.heap.push {cls:=.type "range",data:=.fields #[.int lo t,.int hi u,.int 1 v]}).objs.size:=by simpa using hb
  subst e;exact I1.fpOk (Fy _) (I1.hok.fresh (Fy _))
noncomputable def iRng1 (ta:TA):TI:=λσ H R=>ta σ H λvs H1=> ∃j:Int,vs=[.int j]/\ -(2 ^ 62)<=j/\j<2 ^ 62/\R (Itr 0 j.toNat) H1
noncomputable def iRng2 (ta:TA):TI:=λσ H R=>ta σ H λvs H1=> ∃i j:Int,vs=[.int i,.int j]/\(-(2 ^ 62)<=i/\i<2 ^ 62/\ -(2 ^ 62)<=j/\j<2 ^ 62)/\R (Itr i (j - i).toNat) H1
theorem uD (hg:Gl X "range")(hm:X.mg "range"=none)(ha:PA X [a] ta)(hs:Kd [a] X.env=[(false,Ka a X.env)]:=by rfl):PI X tg (.Call (.Name "range" p) [a] [] pos) (iRng1 ta):=by
 intro pins s σ H R I h;refine Call_ (f8 I hg hm boot_range (PyProof.Rows.callWith_type1 (thn (ha pos pins s σ H _ I h) λus s1 qz=>?_) hs rfl));obtain⟨vs,H1,I1,r1,q1⟩:=qz;obtain⟨j,e,q1,q2,q⟩:=q1;subst e;cases r1 with
 |cons r rr=>
  cases rr;obtain⟨t,rfl⟩:=r;exact call_range_1 (pC I1 ∅ ∅ q1 q2 (by simpa using q))
theorem uC (hg:Gl X "range")(hm:X.mg "range"=none)(ha:PA X [a,b] ta)(hs:Kd [a,b] X.env=[(false,Ka a X.env),(false,Ka b X.env)]:=by rfl)(hs2:Kd [b] X.env=[(false,Ka b X.env)]:=by rfl):
  PI X tg (.Call (.Name "range" p) [a,b] [] pos) (iRng2 ta):=by
 intro pins s σ H R I h;refine Call_ (f8 I hg hm boot_range (PyProof.Rows.callWith_type1 (thn (ha pos pins s σ H _ I h) λus s1 qz=>?_) (by rw[hs,hs2]) (by rw[hs2];rfl)));obtain⟨vs,H1,I1,r1,q1⟩:=qz;obtain⟨i,j,e,⟨q1,q2,q3,q4⟩,q⟩:=q1;subst e;cases r1 with
 |cons r rr=>
  cases rr with
  |cons r' rr=>
   cases rr;obtain⟨t,rfl⟩:=r;obtain⟨t',rfl⟩:=r';exact call_range_2 (pC I1 q1 q2 q3 q4 q)
noncomputable def tFor (wi:TI)(g:TG)(tb:TS):TS:=λD σ H=>wi σ H λJ H1=> ∃W:Nat->Nat->St->Hp->Prop,(∃m,W 0 m σ H1)/\ ∀i m σ H,W i m σ H->
 (J.stop i H/\D.nx σ H)\/(J.go i H/\ ∃N:St->Hp->Prop,(∀σ' H',N σ' H'-> ∃m',m'<m/\W (i+1) m' σ' H')/\ ∀x H',J.yld i H x H'->g x σ H' λσ2 H2=>tb {D with nx:=N,ct:=N,bk:=D.nx} σ2 H2)
noncomputable def kP (fp:List JG)(h:JD):List (JG×JK):=fp.filterMap λb=>(h.get? b).map λo=>(b,o)
theorem iQ (hb:b∈fp)(e:h.get? b=some o):(b,o)∈kP fp h:=Ih.mpr ⟨b,hb,by rw[e];rfl⟩
theorem uJ (hp:p∈kP fp h):p.1∈fp/\h.get? p.1=some p.2:=by
 obtain⟨b,hb,e⟩:=Ih.mp hp;cases q:h.get? b with
 |none=>rw[q] at e;cases e
 |some o=>
  rw[q] at e;have e':(b,o)=p:=Option.some.inj e;subst e';exact⟨hb,q⟩
theorem Inv.pinned (I:Inv X pins σ H s)(hf: ∀b∈fp,Lc X pins H b)(ho: ∀b∈fp,∃o,s.heap.get? b=some o/\ ∀v,o.data≠.cell v):Inv X (pins++kP fp s.heap) σ H s:=
 I.pins_of λp hp=>(Gw.mp hp).elim (λz=>I.pin p (GA _ z)) λz=>by
  obtain⟨hb,e⟩:=uJ z;obtain⟨f0,f1,f2,_⟩:=hf p.1 hb;obtain⟨o,e',d⟩:=ho p.1 hb;rw[e] at e';cases e';exact⟨e,f0,f1,f2,d⟩
theorem Inv.unpinned (I:Inv X (pins++pl) σ H s):Inv X pins σ H s:=I.pins_of λp hp=>I.pin p (GA _ (Hj _ hp))
theorem BE (hp:Km (JP X.prog X.w) X.A X.env X.xe)(hc:X.calm=true)(hi:PI X tg iter wi)(hg:PG X tg g)(hb:PSs X body tb)
  (hs: ∀x,Ks iter X.env x=pure x:=by intro _;rfl):PS X (.For tg iter body [] pos) (tFor wi g tb):=by
 intro pins s σ H D I h;refine wpAny_For (thn (hi pins s σ H _ I h) λv s1 h1=>thn h1 λitv s2 h2=>?_) hs;obtain⟨it,fp,tn,J,H2,e,I2,T,st2,f2,W,⟨m0,w0⟩,turn⟩:=h2;subst e;have stat: ∀ {H':Hp},(∀b∈fp,H' b=none)-> ∀b∈fp,Lc X pins H' b:=λhn b hb=>⟨hn b hb,(f2 b hb).2⟩
 refine codeAny_forLoop_any (λn s'=> ∃i σ' H',Inv X pins σ' H' s'/\tn i s'.heap/\(∀b∈fp,H' b=none)/\W i n σ' H') ?_ m0 ⟨0,σ,H2,I2,st2,λb hb=>(f2 b hb).1,w0⟩
 rintro n s3 ⟨i,σ3,H3,I3,st3,fr3,w3⟩
 rcases turn i n σ3 H3 w3 with⟨stop,qn⟩|⟨go,N,hN,step⟩
 ·refine Kn hp (thn (T.done X rfl rfl rfl hc i pins s3 σ3 H3 X.xe I3 (stat fr3) st3 stop) λr s4 qz=>?_);obtain⟨hr,I4⟩:=qz;subst hr;exact Kk ⟨σ3,H3,I4,qn⟩
 ·refine Kn hp (thn (T.item X rfl rfl rfl hc i pins s3 σ3 H3 X.xe I3 (stat fr3) st3 go) λr s4 qz=>?_);obtain⟨u,hr,h4⟩:=qz;subst hr;refine Kn hp (thn h4 λ_ s5 qz=>?_);obtain⟨x,H5,I5,r5,y5,st5,fr5⟩:=qz;have I5':=I5.pinned (stat fr5) (T.obj _ _ st5);refine Kn hp (thn (hg _ s5 σ3 H5 x u _ I5' r5 (step x H5 y5)) λ_ s6 qz=>?_);obtain⟨σ6,H6,I6,q6⟩:=qz;refine Kn hp (thn (hb _ s6 σ6 H6 _ I6 q6) λf s7 q7=>?_);have again: ∀ {σ7:St}{H7:Hp},Inv X (pins++kP fp s5.heap) σ7 H7 s7->N σ7 H7-> ∃m,m<n/\ ∃i σ' H',Inv X pins σ' H' s7/\tn i s7.heap/\(∀b∈fp,H' b=none)/\W i m σ' H':=λ{σ7 H7} I7 n7=>by
   obtain⟨m',hm,w7⟩:=hN σ7 H7 n7;refine⟨m',hm,i+1,σ7,H7,I7.unpinned,T.keep _ _ _ st5 λb hb o e=>(I7.pin (b,o) (GA _ (GA _ (iQ hb e)))).1,λb hb=>?_,w7⟩;obtain⟨o,e,d⟩:=T.obj _ _ st5 b hb;exact (I7.pin (b,o) (GA _ (GA _ (iQ hb e)))).2.1
  cases f with
  |next=>obtain⟨σ7,H7,I7,n7⟩:=q7;exact again I7 n7
  |cont=>obtain⟨σ7,H7,I7,n7⟩:=q7;exact again I7 n7
  |brk=>obtain⟨σ7,H7,I7,q7⟩:=q7;exact⟨σ7,H7,I7.unpinned,q7⟩
  |ret v=>obtain⟨x7,σ7,H7,I7,r7,q7⟩:=q7;exact⟨x7,σ7,H7,I7.unpinned,r7,q7⟩
end
end
section
noncomputable abbrev R2:=V->V->Hp->VK->Prop
noncomputable def OpR (X:Cx)(f:Jx->Jx->Sem Jx)(r:R2):Prop:=
 ∀ (pins:List (JG×JK)) (s:JJ) (σ:St) (H:Hp) (x y:V) (v u:Jx) (Q:VK),Inv X pins σ H s->RelV x v->RelV y u->r x y H Q->
   JN (JP X.prog X.w) X.A (f v u) (EP X pins σ Q) X.xe s
noncomputable def UnR (X:Cx)(f:Jx->Sem Jx)(r:V->Hp->VK->Prop):Prop:=
 ∀ (pins:List (JG×JK)) (s:JJ) (σ:St) (H:Hp) (x:V) (v:Jx) (Q:VK),Inv X pins σ H s->RelV x v->r x H Q->
   JN (JP X.prog X.w) X.A (f v) (EP X pins σ Q) X.xe s
noncomputable def CallR (X:Cx)(f:Jx)(r:List V->Hp->VK->Prop):Prop:=
 ∀ (pins:List (JG×JK)) (s:JJ) (σ:St) (H:Hp) (xs:List V) (us:List Jx) (Q:VK),Inv X pins σ H s->Vals xs us->r xs H Q->
   JN (JP X.prog X.w) X.A (call f us) (EP X pins σ Q) X.xe s
noncomputable def tOp (r:R2)(ta tb:TE):TE:=λσ H Q=>ta σ H λx H1=>tb σ H1 λy H2=>r x y H2 Q
noncomputable def tUn (r:V->Hp->VK->Prop)(ta:TE):TE:=λσ H Q=>ta σ H λx H1=>r x H1 Q
noncomputable def rI (C:Int->Int->Prop)(g:Int->Int->V):R2:=λx y H Q=> ∃i j,x=.int i/\y=.int j/\C i j/\Q (g i j) H
noncomputable def rI0 (g:Int->Int->V):R2:=λx y H Q=> ∃i j,x=.int i/\y=.int j/\Q (g i j) H
noncomputable def rU (g:Int->V):V->Hp->VK->Prop:=λx H Q=> ∃i,x=.int i/\Q (g i) H
section
variable {X:Cx}{a b:Expr}{ta tb:TE}{pos:Kb}
theorem Lx (ha:PE X a ta)(hb:PE X b tb){R:V->V->Hp->Prop}(I:Inv X pins σ H s)
  (h:ta σ H λx H1=>tb σ H1 λy H2=>R x y H2){Q:Jx->JJ->Prop}{f:Jx->Jx->Sem Jx}
  (hf: ∀v u s2 x y H2,Inv X pins σ H2 s2->RelV x v->RelV y u->R x y H2->JN (JP X.prog X.w) X.A (f v u) Q X.xe s2):
  JN (JP X.prog X.w) X.A (Ka a X.env) (λv s₁=>JN (JP X.prog X.w) X.A (Ka b X.env) (λu s₂=>JN (JP X.prog X.w) X.A (f v u) Q X.xe s₂) X.xe s₁) X.xe s:=by
 refine thn (ha pins s σ H _ I h) λv s1 qz=>?_;obtain⟨x,H1,I1,r1,q1⟩:=qz;refine thn (hb pins s1 σ H1 _ I1 q1) λu s2 qz=>?_;obtain⟨y,H2,I2,r2,q2⟩:=qz;exact hf v u s2 x y H2 I2 r1 r2 q2
theorem sU (ho:OpR X (Kt op) r)(ha:PE X a ta)(hb:PE X b tb):PE X (.BinOp a op b pos) (tOp r ta tb):=by
 intro pins s σ H Q I h;exact wpAny_BinOp (Lx ha hb I h λv u s2 x y H2 I2 rx ry q=>ho pins s2 σ H2 x y v u Q I2 rx ry q)
theorem D6 {r:V->Hp->VK->Prop}(ho:UnR X (unaryOp op) r)(ha:PE X a ta):PE X (.UnaryOp op a pos) (tUn r ta):=by
 intro pins s σ H Q I h;exact UnaryOp_ (thn (ha pins s σ H _ I h) λv s1 ⟨x,H1,I1,r1,q1⟩=>ho pins s1 σ H1 x v Q I1 r1 q1)
theorem opI {f:Jx->Jx->Sem Jx}{C:Int->Int->Prop}{g:Int->Int->Int}
  (rule: ∀ (i j:Int) (t u:Tok) (s:JJ) (Q:Jx->JJ->Prop) (E:Jx->JJ->Prop),C i j->Q (.int (g i j) s.toks) {s with toks:=s.toks+1}->JN (JP X.prog X.w) X.A (f (.int i t) (.int j u)) Q E s):
  OpR X f (rI C λi j=>.int (g i j)):=by
 intro pins s σ H x y v u Q I rx ry h;obtain⟨i,j,rfl,rfl,hc,q⟩:=h;obtain⟨t,rfl⟩:=rx;obtain⟨t',rfl⟩:=ry;exact rule i j t t' s _ _ hc ⟨.int (g i j),H,I.tok _,⟨_,rfl⟩,q⟩
theorem opI0 {f:Jx->Jx->Sem Jx}{g:Int->Int->Int}
  (rule: ∀ (i j:Int) (t u:Tok) (s:JJ) (Q:Jx->JJ->Prop) (E:Jx->JJ->Prop),Q (.int (g i j) s.toks) {s with toks:=s.toks+1}->JN (JP X.prog X.w) X.A (f (.int i t) (.int j u)) Q E s):
  OpR X f (rI0 λi j=>.int (g i j)):=by
 intro pins s σ H x y v u Q I rx ry h;obtain⟨i,j,rfl,rfl,q⟩:=h;obtain⟨t,rfl⟩:=rx;obtain⟨t',rfl⟩:=ry;exact rule i j t t' s _ _ ⟨.int (g i j),H,I.tok _,⟨_,rfl⟩,q⟩
theorem NY {f:Jx->Jx->Sem Jx}{g:Int->Int->Bool}
  (rule: ∀ (i j:Int) (t u:Tok) (s:JJ) (Q:Jx->JJ->Prop) (E:Jx->JJ->Prop),Q (.bool (g i j)) s->JN (JP X.prog X.w) X.A (f (.int i t) (.int j u)) Q E s):
  OpR X f (rI0 λi j=>.bl (g i j)):=by
 intro pins s σ H x y v u Q I rx ry h;obtain⟨i,j,rfl,rfl,q⟩:=h;obtain⟨t,rfl⟩:=rx;obtain⟨t',rfl⟩:=ry;exact rule i j t t' s _ _ ⟨.bl (g i j),H,I,rfl,q⟩
noncomputable def K3 (i j:Int):Prop:=0<=j/\j<=1000000/\i.natAbs<2 ^ 64
noncomputable def CMul (i j:Int):Prop:=(-(2 ^ 64)<i/\i<2 ^ 64)\/(-(2 ^ 64)<j/\j<2 ^ 64)
theorem CMul.ok {i j:Int}(h:CMul i j):IntMulOk i j:=by
 rcases h with⟨h1,h2⟩|⟨h1,h2⟩
 ·exact .of_left (intBits_le_64 h1 h2)
 ·exact .of_right (intBits_le_64 h1 h2)
theorem N4:OpR X (Kt .Add) (rI0 λi j=>.int (i+j)):=opI0 λ_ _ _ _ _ _ _ q=>add_int q
theorem B1:OpR X (Kt .Sub) (rI0 λi j=>.int (i - j)):=opI0 λ_ _ _ _ _ _ _ q=>sub_int q
theorem B6:OpR X (Kt .Mod) (rI (λ_ j=>0<j) λi j=>.int (i % j)):=opI λi j _ _ _ _ _ hc q=>by
 have h1:(0:Int)<j:=hc;exact mod_int' ∅ (by rw[Int.fmod_eq_emod_of_nonneg i ∅];exact q)
theorem B3:OpR X (Kt .Pow) (rI K3 λi j=>.int (i ^ j.toNat)):=opI λ_ _ _ _ _ _ _ hc q=>pow_int_small hc.1 hc.2.1 hc.2.2 q
theorem unI {f:Jx->Sem Jx}{g:Int->Int}
  (rule: ∀ (i:Int) (t:Tok) (s:JJ) (Q:Jx->JJ->Prop) (E:Jx->JJ->Prop),Q (.int (g i) s.toks) {s with toks:=s.toks+1}->JN (JP X.prog X.w) X.A (f (.int i t)) Q E s):
  UnR X f (rU λi=>.int (g i)):=by
 intro pins s σ H x v Q I rx h;obtain⟨i,rfl,q⟩:=h;obtain⟨t,rfl⟩:=rx;exact rule i t s _ _ ⟨.int (g i),H,I.tok _,⟨_,rfl⟩,q⟩
theorem Ba:UnR X (unaryOp .USub) (rU λi=>.int (-i)):=unI λ_ _ _ _ _ q=>neg_int q
end
noncomputable def Pn:V->V->Bool
 |.non,.non=>true|.non,.int _=>true|.int _,.non=>true|.non,.bl _=>true|.bl _,.non=>true|.non,.str _=>true|.str _,.non=>true
 |.int _,.int _=>true|.bl _,.bl _=>true|.str _,.str _=>true|.byt _,.byt _=>true
 |.int _,.str _=>true|.str _,.int _=>true|.bl _,.str _=>true|.str _,.bl _=>true
 |_,_=>false
noncomputable def rEq:R2:=λx y H Q=>Pn x y=true/\Q (.bl (decide (x=y))) H
noncomputable def rNe:R2:=λx y H Q=>Pn x y=true/\Q (.bl (!decide (x=y))) H
theorem tZ {i j:Int}:decide (V.int i=V.int j)=(i==j):=by
 rw[Gz];simp
theorem yv {i j:Bool}:decide (V.bl i=V.bl j)=(i==j):=by
 rw[Gz];simp
theorem tY {i j:Str}:decide (V.str i=V.str j)=(i==j):=by
 rw[Gz];simp
theorem t4 :decide (V.byt i=V.byt j)=(i.toList==j.toList):=by
 rw[Gz];cases i;cases j;simp
section
variable {X:Cx}{a b c:Expr}{ta tb tc:TE}{pos:Kb}
theorem aU {k k':Bool}(I:Inv X pins σ H s)(q:Q (.bl k) H)(e:k=k'):EP X pins σ Q (.bool k') s:=by
 subst e;exact⟨.bl k,H,I,rfl,q⟩
theorem Oa:OpR X (Kg .Eq) rEq:=by
 intro pins s σ H x y v u Q I rx ry h;obtain⟨hs,q⟩:=h;cases x with
 |non=>
  cases rx;cases y with
  |non=>cases ry;exact PySem.EqNone.eq_none_none (aU I q ⇑_)
  |bl j=>cases ry;exact PySem.EqNone.eq_none_bool (aU I q ⇑_)
  |int j=>obtain⟨t',rfl⟩:=ry;exact PySem.EqNone.eq_none_int (aU I q ⇑_)
  |str j=>obtain⟨t',rfl⟩:=ry;exact PySem.EqNone.eq_none_str (aU I q ⇑_)
  |_=>exact absurd (show false=true from hs) FU
 |bl i=>
  cases rx;cases y with
  |non=>cases ry;exact PySem.EqNone.eq_bool_none (aU I q ⇑_)
  |bl j=>cases ry;exact eq_bool (aU I q yv)
  |str j=>obtain⟨t',rfl⟩:=ry;exact PySem.EqMixed.eq_bool_str (aU I q ⇑_)
  |_=>exact absurd (show false=true from hs) FU
 |int i=>
  obtain⟨t,rfl⟩:=rx;cases y with
  |non=>cases ry;exact PySem.EqNone.eq_int_none (aU I q ⇑_)
  |int j=>obtain⟨t',rfl⟩:=ry;exact eq_int (aU I q tZ)
  |str j=>obtain⟨t',rfl⟩:=ry;exact PySem.EqMixed.eq_int_str (aU I q ⇑_)
  |_=>exact absurd (show false=true from hs) FU
 |str i=>
  obtain⟨t,rfl⟩:=rx;cases y with
  |non=>cases ry;exact PySem.EqNone.eq_str_none (aU I q ⇑_)
  |bl j=>cases ry;exact PySem.EqMixed.eq_str_bool (aU I q ⇑_)
  |int j=>obtain⟨t',rfl⟩:=ry;exact PySem.EqMixed.eq_str_int (aU I q ⇑_)
  |str j=>obtain⟨t',rfl⟩:=ry;exact eq_str (aU I q tY)
  |_=>exact absurd (show false=true from hs) FU
 |byt i=>
  obtain⟨t,rfl⟩:=rx;cases y with
  |byt j=>obtain⟨t',rfl⟩:=ry;exact PySem.W.eq_bytes (aU I q t4)
  |_=>exact absurd (show false=true from hs) FU
 |_=>cases y<;>exact absurd (show false=true from hs) FU
theorem Og:OpR X (Kg .NotEq) rNe:=by
 intro pins s σ H x y v u Q I rx ry h;obtain⟨hs,q⟩:=h;cases x with
 |non=>
  cases rx;cases y with
  |non=>cases ry;exact PySem.EqNone.ne_none_none (aU I q ⇑_)
  |bl j=>cases ry;exact PySem.EqNone.ne_none_bool (aU I q ⇑_)
  |int j=>obtain⟨t',rfl⟩:=ry;exact PySem.EqNone.ne_none_int (aU I q ⇑_)
  |str j=>obtain⟨t',rfl⟩:=ry;exact PySem.EqNone.ne_none_str (aU I q ⇑_)
  |_=>exact absurd (show false=true from hs) FU
 |bl i=>
  cases rx;cases y with
  |non=>cases ry;exact PySem.EqNone.ne_bool_none (aU I q ⇑_)
  |bl j=>cases ry;exact ne_bool (aU I q (congrArg not yv))
  |str j=>obtain⟨t',rfl⟩:=ry;exact PySem.EqMixed.ne_bool_str (aU I q ⇑_)
  |_=>exact absurd (show false=true from hs) FU
 |int i=>
  obtain⟨t,rfl⟩:=rx;cases y with
  |non=>cases ry;exact PySem.EqNone.ne_int_none (aU I q ⇑_)
  |int j=>obtain⟨t',rfl⟩:=ry;exact ne_int (aU I q (congrArg not tZ))
  |str j=>obtain⟨t',rfl⟩:=ry;exact PySem.EqMixed.ne_int_str (aU I q ⇑_)
  |_=>exact absurd (show false=true from hs) FU
 |str i=>
  obtain⟨t,rfl⟩:=rx;cases y with
  |non=>cases ry;exact PySem.EqNone.ne_str_none (aU I q ⇑_)
  |bl j=>cases ry;exact PySem.EqMixed.ne_str_bool (aU I q ⇑_)
  |int j=>obtain⟨t',rfl⟩:=ry;exact PySem.EqMixed.ne_str_int (aU I q ⇑_)
  |str j=>obtain⟨t',rfl⟩:=ry;exact ne_str (aU I q (congrArg not tY))
  |_=>exact absurd (show false=true from hs) FU
 |byt i=>
  obtain⟨t,rfl⟩:=rx;cases y with
  |byt j=>obtain⟨t',rfl⟩:=ry;exact PySem.W.ne_bytes (aU I q (congrArg not t4))
  |_=>exact absurd (show false=true from hs) FU
 |_=>cases y<;>exact absurd (show false=true from hs) FU
theorem wU:OpR X (Kg .Lt) (rI0 λi j=>.bl (decide (i<j))):=NY λ_ _ _ _ _ _ _ q=>lt_int q
theorem Eg:OpR X (Kg .LtE) (rI0 λi j=>.bl (decide (i<=j))):=NY λ_ _ _ _ _ _ _ q=>le_int q
theorem mS:OpR X (Kg .Gt) (rI0 λi j=>.bl (decide (j<i))):=NY λ_ _ _ _ _ _ _ q=>gt_int q
theorem Eh:OpR X (Kg .GtE) (rI0 λi j=>.bl (decide (j<=i))):=NY λ_ _ _ _ _ _ _ q=>ge_int q
theorem Od:OpR X (Kg .In) (λx y H Q=> ∃i j,x=.str i/\y=.str j/\Q (.bl (!(Jy.Str.occurrences j i 0 j.length 1).isEmpty)) H):=by
 intro pins s σ H x y v u Q I rx ry h;obtain⟨i,j,rfl,rfl,q⟩:=h;obtain⟨t,rfl⟩:=rx;obtain⟨t',rfl⟩:=ry;exact in_str (aU I q rfl)
theorem OpR.or {f:Jx->Jx->Sem Jx}(h:OpR X f r)(h':OpR X f r'):OpR X f (λx y H Q=>r x y H Q\/r' x y H Q):=by
 intro pins s σ H x y v u Q I rx ry q;rcases q with q|q
 ·exact h pins s σ H x y v u Q I rx ry q
 ·exact h' pins s σ H x y v u Q I rx ry q
theorem dZ (b:Expr)(h:op≠.In:=by decide)(h2:op≠.NotIn:=by decide):Kh op b=false:=by
 have e1:(op==CmpOp.In)=false:=by cases op<;>first|rfl|exact absurd rfl h
 have e2:(op==CmpOp.NotIn)=false:=by cases op<;>first|rfl|exact absurd rfl h2
 cases b<;>simp [Kh,e1,e2]
theorem im (ho:OpR X (Kg op) r)(ha:PE X a ta)(hb:PE X b tb)(hm:Kh op b=false):PE X (.Compare a [op] [b] pos) (tOp r ta tb):=by
 intro pins s σ H Q I h;exact wpAny_Compare1 (Lx ha hb I h λv u s2 x y H2 I2 rx ry q=>ho pins s2 σ H2 x y v u Q I2 rx ry q) hm
noncomputable def P8 (t:TE):TT:=λσ H Q=>t σ H λx H'=> ∃k,x=.bl k/\Q k H'
theorem dh (ho:OpR X (Kg op) r)(ha:PE X a ta)(hb:PE X b tb)(hm:Kh op b=false):PT X (.Compare a [op] [b] pos) (P8 (tOp r ta tb)):=by
 intro pins s σ H Q I h
 refine wpAny_isTrue_Compare1 (thn (ha pins s σ H _ I h) λv s1 ⟨x,H1,I1,r1,q1⟩=>thn (hb pins s1 σ H1 _ I1 q1) λu s2 ⟨y,H2,I2,r2,q2⟩=>
  thn (ho pins s2 σ H2 x y v u _ I2 r1 r2 q2) λc s3 ⟨z,H3,I3,r3,k,e,q3⟩=>?_) hm
 subst e;cases r3;exact J2 ⟨H3,I3,q3⟩
noncomputable def vT (r r':R2)(ta tb tc:TE):TE:=λσ H Q=>ta σ H λx H1=>tb σ H1 λy H2=>r x y H2 λz H3=> ∃k,z=.bl k/\
 (if k=true then tc σ H3 λw' H4=>r' y w' H4 Q else Q (.bl false) H3)
theorem ww (ho:OpR X (Kg op) r)(ho':OpR X (Kg op') r')(ha:PE X a ta)(hb:PE X b tb)(hc:PE X c tc)
  (hm:lastMarks [op,op'] [b,c]=false:=by with_unfolding_all rfl):PT X (.Compare a [op,op'] [b,c] pos) (P8 (vT r r' ta tb tc)):=by
 intro pins s σ H Q I h
 refine isTrue_chain (thn (ha pins s σ H _ I h) λv s1 ⟨x,H1,I1,r1,q1⟩=>test_link (thn (hb pins s1 σ H1 _ I1 q1) λu s2 ⟨y,H2,I2,r2,q2⟩=>
  thn (ho pins s2 σ H2 x y v u _ I2 r1 r2 q2) λd s3 ⟨z,H3,I3,r3,k,e,q3⟩=>?_)) hm
 subst e;cases r3;refine J2 ?_;cases k with
 |false=>
  obtain⟨k',e',q'⟩:=q3;cases e';exact ite_ff ⟨H3,I3,q'⟩
 |true=>
  refine ite_tt (test_last (thn (hc pins s3 σ H3 _ I3 q3) λw' s4 ⟨z',H4,I4,r4,q4⟩=>thn (ho' pins s4 σ H4 y z' u w' _ I4 r2 r4 q4) λd' s5 qz=>?_));obtain⟨z2,H5,I5,r5,k2,e2,q5⟩:=qz;subst e2;cases r5;exact J2 ⟨H5,I5,q5⟩
theorem hV:(sizeLine:Nat)<2 ^ 63:=by rw[sizeLine_eq];decide
theorem N5:OpR X (Kt .Add) (λx y H Q=> ∃i j,x=.str i/\y=.str j/\i.length+j.length<=sizeLine/\Q (.str (i++j)) H):=by
 intro pins s σ H x y v u Q I rx ry h;obtain⟨i,j,rfl,rfl,hz,q⟩:=h;obtain⟨t,rfl⟩:=rx;obtain⟨t',rfl⟩:=ry;exact add_str (λt' tk=>⟨.str (i++j),H,I.tok _,⟨_,rfl⟩,q⟩) hz
theorem Ql (r:Vals [x] us): ∃u,us=[u]/\RelV x u:=by
 cases r with
 |cons r1 r2=>cases r2;exact⟨_,rfl,r1⟩
theorem yF:CallR X (.builtin "abs") (λxs H Q=> ∃i,xs=[.int i]/\Q (.int (if i<0 then -i else i)) H):=by
 intro pins s σ H xs us Q I r h;obtain⟨i,rfl,q⟩:=h;obtain⟨u,rfl,t,rfl⟩:=Ql r;exact call_abs_int λu tk=>⟨.int (if i<0 then -i else i),H,I.tok _,⟨_,rfl⟩,q⟩
theorem LD:CallR X (.type "int") (λxs H Q=>(∃i,xs=[.int i]/\Q (.int i) H)\/ ∃k,xs=[.bl k]/\Q (.int (if k then 1 else 0)) H):=by
 intro pins s σ H xs us Q I r h;rcases h with⟨i,rfl,q⟩|⟨k,rfl,q⟩
 ·obtain⟨u,rfl,t,rfl⟩:=Ql r;exact call_int_int ⟨.int i,H,I,⟨_,rfl⟩,q⟩
 ·obtain⟨u,rfl,r1⟩:=Ql r;cases r1;exact call_int_bool ⟨.int (if k then 1 else 0),H,I.tok _,⟨_,rfl⟩,q⟩
theorem LG:CallR X (.type "str") (λxs H Q=> ∃i,xs=[.int i]/\i.natAbs.log2<1920/\Q (.str (toString i)) H):=by
 intro pins s σ H xs us Q I r h;obtain⟨i,rfl,hz,q⟩:=h;obtain⟨u,rfl,t,rfl⟩:=Ql r;exact PySem.P.str_of_int hz ⟨.str _,H,I.tok _,⟨_,rfl⟩,q⟩
end
end
section
structure ObjM (h:JD)(x dx C:JG)(mA:Str->Option Jx):Prop where
 obj:h.get? x=some (Jr C dx)
 ns:h.Ns1 dx mA
 ne:dx≠x
theorem uW {h:JD}{dx:JG}{mA:Str->Option Jx}(n:h.Ns1 dx mA): ∃od,h.get? dx=some od/\ ∀name,PySem.W.lookIn name od=some (mA name):=by
 obtain⟨o,es,ep,ho,hd,hk,_,hm⟩:=n;refine⟨o,ho,λname=>?_⟩;have e:=hm name;unfold nsFind findBy at e;rw[<-Array.find?_toList] at e;unfold PySem.W.lookIn;rw[hd];dsimp only;split
 ·rename_i y q;rw[q] at e;exact congrArg some e
 ·rename_i q;rw[q] at e;have a:es.toList.any (·.refKey)=false:=by
   rw[IT];intro y hy;obtain⟨z,t,hkey⟩:=hk y (Array.mem_toList_iff.mp hy);simp [DictEntry.refKey,hkey]
  have a': ¬es.toList.any (·.refKey)=true:=by rw[a];exact FU
  rw[if_neg a'];exact congrArg some e
theorem ObjM.look {mA:Str->Option Jx}(I:ObjM h x dx C mA): ∃od,PySem.W.InstAt h x (Jr C dx) C (some od)/\ ∀name,PySem.W.lookIn name od=some (mA name):=
 let ⟨od,ho,hl⟩:=uW I.ns
 ⟨od,⟨I.obj,rfl,rfl,ho⟩,hl⟩
section
variable {prog:JB}{w:JC}{A:JL}{E:Jx->JJ->Prop}{s:JJ}{K:Zf}{x dx C f:JG}{mA:Str->Option Jx}{name:Str}{v:Jx}
theorem Aw {expr:Bool}{Q:Jx->JJ->Prop}(X:K.In s.heap)(I:ObjM s.heap x dx C mA)(hg:PySem.W.plainGet K C name=true)(hh:PySem.W.hasDictIn K C=true)
  (ha:Js K (.ref C) name=some none)(hv:mA name=some v)(hv':PySem.W.handedIn v=true)(h:Q v {s with toks:=s.toks+1}):
  JN (JP prog w) A (getAttr (.ref x) name expr) Q E s:=by
 obtain⟨od,J,hl⟩:=I.look;exact PySem.W.get_value X J (PySem.W.plainGet_of hg).1 (PySem.W.findObj_own hh ha rfl (by rw[hl,hv])) hv' h
theorem yf {Q:Jx×List Jx->JJ->Prop}(X:K.In s.heap)(I:ObjM s.heap x dx C mA)(hg:PySem.W.plainGet K C name=true)
  (hf:Js K (.ref C) name=some (some (.ref f)))(ht:PySem.W.isFn K (.ref f)=true)(hv:mA name=none)(h:Q (.ref f,[.ref x]) s):
  JN (JP prog w) A (Ku (.ref x) name pl) Q E s:=by
 obtain⟨od,J,hl⟩:=I.look;exact PySem.W.method_fn X J (PySem.W.plainGet_of hg).1 (PySem.W.plainGet_of hg).2 hf (beq_iff_eq.mp ht) (by show (PySem.W.lookIn name od).map (·.isSome)=some false;rw[hl,hv];rfl) h
theorem zc {ns:List Str}{Q:Unit->JJ->Prop}(X:K.In s.heap)(I:ObjM s.heap x dx C mA)
  (hs:Js K (.ref C) "__setattr__"=some (some (.builtin "object.__setattr__")))(hp:PySem.W.plainOver K C=true)(ht:PySem.W.takerIn K C name=some none)(hh:PySem.W.hasDictIn K C=true)
  (hw:PySem.Within mA ns)(hsz:ns.length<=sizeLine)
  (h:∀h',ObjM h' x dx C (λy=>if y=name then some v else mA y)->GD dx s.heap h'->Q () {s with heap:=h',toks:=s.toks+2}):
  JN (JP prog w) A (setAttr (.ref x) name v) Q E s:=by
 obtain⟨od,J,hl⟩:=I.look;refine PySem.W.set_plain X J hs (PySem.W.osa_open (s:={s with toks:=s.toks+1}) (r:=none) X J hp ht λb=>?_);obtain⟨cd,hc,hd'⟩:=PySem.W.any_some hh;have hx:s.heap.get? x=some ⟨.ref C,some dx,.plain,#[]⟩:=I.obj;refine JR (JX (JR (JR (wpAny_loadPart hx (JR (PySem.W.Looks.here (s:={s with toks:=s.toks+1}) (PySem.W.looks_clsIn X hc) ?_))))));rw[hd'];refine JX (a:=some dx) (JR (JX (JR ?_)));refine wpAny_nsSet1 (s:={s with toks:=s.toks+1}) I.ns λh' hn2 hs2=>?_;obtain⟨oD,esD,epD,hoD,hdD,hcD⟩:=hn2.count (PySem.Within.cons name v hw);refine JR (wpAny_lookBehind hoD (by rw[hdD];exact pastItsLine_dict (F6 hcD (by rw[FH];omega))) ?_);exact JX (h _ ⟨(hs2.2 _ (Ne.symm I.ne)).trans I.obj,hn2,I.ne⟩ hs2)
theorem xH {R:Result->JJ->Prop}(X:K.In s.heap)(hm:makesIn K C=true)
  (hi:Js K (.ref C) "__init__"=some (some (.ref f)))(hf:PySem.W.typeIn K (.ref f)=some (.type "function"))
  (h:codeAny (JP prog w) (A.under (.builtin "type.__call__" ⟨.ref C::vs,kw⟩)) (.call (.ref f) ⟨.ref (↥s+1)::vs,kw⟩) (PySem.W.InitBack (↥s+1) R)
    {s with heap:=(s.heap.push Jt).push (Jr C ↥s)}):
  codeAny (JP prog w) A (.call (.ref C) ⟨vs,kw⟩) R s:=by
 obtain⟨hh,g,d,t,os⟩:=s;exact PySem.W.make_core (PySem.W.makes_of X hm) (PySem.W.looks_findIn X hi) (λself=>PySem.W.bind_fn X self hf) (.inl rfl) h
end
noncomputable def OE (f:Str)(v:V):List (Str×V)->List (Str×V)
 |[]=>[(f,v)]
 |(g,x)::r=>if g=f then (g,v)::r else (g,x)::OE f v r
theorem cA (f g:Str)(v:V): ∀fs:List (Str×V),(OE f v fs).lookup g=if g=f then some v else fs.lookup g
 |[]=>by
  show GR g [(f,v)]=_;by_cases h:g=f
  ·have hb:(g==f)=true:=beq_iff_eq.mpr h;simp only[GR,hb,if_pos h]
  ·have hb:(g==f)=false:=beq_eq_false_iff_ne.mpr h;simp only[GR,hb,if_neg h]
 |(k,x)::r=>by
  have ih:=cA f g v r;rw[show OE f v ((k,x)::r)=(if k=f then (k,v)::r else (k,x)::OE f v r) from rfl];by_cases hk:k=f
  ·rw[if_pos hk];by_cases h:g=k
   ·have hb:(g==k)=true:=beq_iff_eq.mpr h;simp only[GR,hb,if_pos (h.trans hk)]
   ·have hb:(g==k)=false:=beq_eq_false_iff_ne.mpr h;simp only[GR,hb,if_neg (λe:g=f=>h (e.trans hk.symm))]
  ·rw[if_neg hk];by_cases h:g=k
   ·have hb:(g==k)=true:=beq_iff_eq.mpr h;simp only[GR,hb,if_neg (λe:g=f=>hk (h.symm.trans e))]
   ·have hb:(g==k)=false:=beq_eq_false_iff_ne.mpr h;simp only[GR,hb];exact ih
theorem jI (f:Str)(v:V): ∀fs:List (Str×V),f∈(OE f v fs).map (·.1)/\ ∀g,g∈fs.map (·.1)->g∈(OE f v fs).map (·.1)
 |[]=>⟨by simp [OE],λg h=>by simp at h⟩
 |(k,x)::r=>by
  obtain⟨i1,i2⟩:=jI f v r;rw[show OE f v ((k,x)::r)=(if k=f then (k,v)::r else (k,x)::OE f v r) from rfl];by_cases hk:k=f
  ·rw[if_pos hk];subst hk;exact⟨⇑_,λg h=>by simpa using h⟩
  ·rw[if_neg hk];refine⟨?_,λg h=>?_⟩
   ·rw[FK];exact FV _ i1
   ·rw[FK] at h ⊢;rcases FC.mp h with e|e
    ·exact FC.mpr (.inl e)
    ·exact FV _ (i2 g e)
theorem jT (f:Str)(v:V): ∀fs:List (Str×V),(OE f v fs).length<=fs.length+1
 |[]=>by simp [OE]
 |(k,x)::r=>by
  have ih:=jT f v r;rw[show OE f v ((k,x)::r)=(if k=f then (k,v)::r else (k,x)::OE f v r) from rfl];by_cases hk:k=f
  ·rw[if_pos hk,FH,FH];omega
  ·rw[if_neg hk,FH,FH];omega
theorem RelO.some_of (r:RelO (some v) o): ∃u,o=some u/\RelV v u:=by
 cases o with
 |none=>exact (show False from r).elim
 |some u=>exact⟨u,rfl,r⟩
theorem RelO.none_of (r:RelO none o):o=none:=by
 cases o with
 |none=>rfl
 |some u=>exact (show False from r).elim
theorem ve (r:RelV v u):PySem.W.handedIn u=true:=by
 cases v with
 |non=>cases (show u=Jx.none from r);rfl
 |bl b=>cases (show u=Jx.bool b from r);rfl
 |int i=>obtain⟨t,e⟩:=(show∃t,u=Jx.int i t from r);cases e;rfl
 |str x=>obtain⟨t,e⟩:=(show∃t,u=Jx.str x t from r);cases e;rfl
 |byt b=>obtain⟨t,e⟩:=(show∃t,u=Jx.bytes b t from r);cases e;rfl
 |flt b=>obtain⟨t,e⟩:=(show∃t,u=Jx.float b t from r);cases e;rfl
 |ref a=>cases (show u=Jx.ref a from r);rfl
 |ty n=>cases (show u=Jx.type n from r);rfl
section
variable {P:JB}{w:JC}{H:Hp}{h:JD}{a C dx:JG}{fs:List (Str×V)}
theorem oA (hok:HOk P w H h)(e:H a=some (.ins C dx fs)): ∃mA,ObjM h a dx C mA/\(∀f,RelO (fs.lookup f) (mA f))/\PySem.Within mA (fs.map (·.1))/\fs.length<=1000/\H dx=some (.own a):=by
 obtain⟨d,z,ne,ob,mA,n,r,q⟩:=(show ObjOk P w H h a (.ins C dx fs) from hok a _ e)
 exact⟨mA,⟨ob,n,ne⟩,r,q,z,d⟩
end
structure Cls (K:Zf)(C:JG):Prop where
 pg:PySem.W.plainGet K C Str.empty=true
 hd:PySem.W.hasDictIn K C=true
 po:PySem.W.plainOver K C=true
 sa:Js K (.ref C) "__setattr__"=some (some (.builtin "object.__setattr__"))
theorem Cls.get {K:Zf}(c:Cls K C)(f:Str):PySem.W.plainGet K C f=true:=c.pg
noncomputable def NoAttr (K:Zf)(C:JG)(f:Str):Prop:=Js K (.ref C) f=some none
theorem NoAttr.taker {K:Zf}{f:Str}(n:NoAttr K C f):PySem.W.takerIn K C f=some none:=by
 unfold PySem.W.takerIn;rw[show Js K (.ref C) f=some none from n];rfl
structure Ld (K:Zf)(C:JG)(m:Str)(f:JG):Prop where
 at_:Js K (.ref C) m=some (some (.ref f))
 fn:PySem.W.isFn K (.ref f)=true
 kp:Ju K (.ref f)=true
section
variable {X:Cx}{pins:List (JG×JK)}{σ:St}{H:Hp}{s:JJ}{a C dx:JG}{fs:List (Str×V)}{f:Str}{v:V}{A:JL}{E:Jx->JJ->Prop}
theorem lF {b:Bool}{Q:Jx->JJ->Prop}(I:Inv X pins σ H s)(e:H a=some (.ins C dx fs))(c:Cls X.K C)(n:NoAttr X.K C f)(l:fs.lookup f=some v)
  (h:∀u s',Inv X pins σ H s'->RelV v u->Q u s'):JN (JP X.prog X.w) A (getAttr (.ref a) f b) Q E s:=by
 obtain⟨mA,O,r,_,_,_⟩:=oA I.hok e;obtain⟨u,hu,ru⟩:=RelO.some_of (v:=v) (o:=mA f) (by rw[<-l];exact r f);exact Aw I.kIn O (c.get f) c.hd n hu (ve ru) (h u _ (I.tok _) ru)
theorem iT {m:Str}{Q:Jx×List Jx->JJ->Prop}(I:Inv X pins σ H s)(e:H a=some (.ins C dx fs))(c:Cls X.K C)(k:Ld X.K C m g)(l:fs.lookup m=none)
  (h:Q (.ref g,[.ref a]) s):JN (JP X.prog X.w) A (Ku (.ref a) m pl) Q E s:=by
 obtain⟨mA,O,r,_,_,_⟩:=oA I.hok e;have hn:mA m=none:=RelO.none_of (by rw[<-l];exact r m);exact yf I.kIn O (c.get m) k.at_ k.fn hn h
theorem kE {Q:Unit->JJ->Prop}(I:Inv X pins σ H s)(e:H a=some (.ins C dx fs))(c:Cls X.K C)(n:NoAttr X.K C f)(hl:fs.length<1000)(ry:RelV y u)
  (h:∀s',Inv X pins σ (upd H a (.ins C dx (OE f y fs))) s'->Q () s'):JN (JP X.prog X.w) A (setAttr (.ref a) f u) Q E s:=by
 obtain⟨mA,O,r,wi,_,ho⟩:=oA I.hok e;have hz:(fs.map (·.1)).length<=sizeLine:=by rw[Fx,sizeLine_eq];omega
 refine zc I.kIn O c.sa c.po n.taker c.hd wi hz λh' O' sb=>h _ ?_;have hd: ∃o,h'.get? dx=some o:=let ⟨o,_,_,e',_⟩:=O'.ns;⟨o,e'⟩;refine I.write (x:=a) (e:=dx) (by rw[e];exact True.intro) (.inr ho) (λb q hb z=>(sb.2 b hb).trans z) hd ?_;refine⟨by rw[ag O.ne];exact ho,?_,O.ne,O'.obj,_,O'.ns,λg=>?_,λg hg=>?_⟩
 ·have:=jT f y fs;omega
 ·show RelO ((OE f y fs).lookup g) (if g=f then some u else mA g);rw[cA];by_cases q:g=f
  ·rw[if_pos q,if_pos q];exact ry
  ·rw[if_neg q,if_neg q];exact r g
 ·by_cases q:g=f
  ·rw[q];exact (jI f y fs).1
  ·refine (jI f y fs).2 g (wi g λz=>hg ?_);show (if g=f then some u else mA g)=none;rw[if_neg q];exact z
theorem Inv.made (I:Inv X pins σ H s):Inv X pins σ (upd (upd H ↥s (.own (↥s+1))) (↥s+1) (.ins C ↥s []))
  {s with heap:=(s.heap.push Jt).push (Jr C ↥s)}:=by
 have e1:(s.heap.push Jt).get? ↥s=some Jt:=FX s.heap rfl;have e2:((s.heap.push Jt).push (Jr C ↥s)).get? (↥s+1)=some (Jr C ↥s):=by
  have:=FX (s.heap.push Jt) (o:=Jr C ↥s) rfl
  rwa[GB] at this
 have e3:(s.heap.push Jt).Ns ↥s (λ_=>none):=⟨Jt,#[],_,e1,rfl,(λe he=>absurd he ⇑_),λ_=>rfl⟩
 have I1:=I.laid (a:=↥s) (o:=.own (↥s+1)) (h':=s.heap.push Jt) (t':=s.toks) (λb u q=>FD _ q) (Fy _) ⟨_,e1⟩;refine I1.laid (a:=↥s+1) (o:=.ins C ↥s []) (t':=s.toks) (λb u q=>FD _ q) (G8 (GB _ _)) ?_;have ne:↥s≠↥s+1:=F5 (Ii _);refine⟨by rw[ag ne,ao],FY _,ne,e2,λ_=>none,(JD.Ns1.of_empty e3).at λo q=>FD _ q,λ_=>True.intro,λy hy=>absurd rfl hy⟩
theorem AM {w:JC}{f:Str}{Q:Jx->JJ->Prop}(hb:Kv e f env (Ka e env)=Ka e env)
  (h:JN (JP prog w) A (Ka e env) (λo s₁=>JN (JP prog w) A (getAttr o f true) Q E s₁) E s):JN (JP prog w) A (Ka (.Attribute e f pos) env) Q E s:=
 Attribute_any_ h (by rw[arm_eval_Attribute,hb])
end
noncomputable def tFld (K:Zf)(ta:TE)(f:Str):TE:=λσ H Q=>ta σ H λx H1=> ∃a C dx fs v,x=.ref a/\H1 a=some (.ins C dx fs)/\Cls K C/\NoAttr K C f/\fs.lookup f=some v/\Q v H1
noncomputable def sFld (K:Zf)(ta tv:TE)(f:Str):TS:=λD σ H=>tv σ H λy H1=>ta σ H1 λx H2=> ∃a C dx fs,x=.ref a/\H2 a=some (.ins C dx fs)/\Cls K C/\NoAttr K C f/\fs.length<1000/\
 D.nx σ (upd H2 a (.ins C dx (OE f y fs)))
noncomputable def InOp (X:Cx)(op:Operator)(rd:V->V->Hp->VK->Prop):Prop:=
 ∀ (pins:List (JG×JK)) (s:JJ) (σ:St) (H:Hp) (x y:V) (u v:Jx) (Q:VK),Inv X pins σ H s->RelV x u->RelV y v->rd x y H Q->JN (JP X.prog X.w) X.A (inplaceOp op u v) (EP X pins σ Q) X.xe s
noncomputable def zi (K:Zf)(ta tv:TE)(rd:V->V->Hp->VK->Prop)(f:Str):TS:=λD σ H=>ta σ H λx H1=> ∃a C dx fs v,x=.ref a/\H1 a=some (.ins C dx fs)/\Cls K C/\NoAttr K C f/\fs.lookup f=some v/\
 tv σ H1 λy H2=>rd v y H2 λz H3=> ∃dx' fs',H3 a=some (.ins C dx' fs')/\fs'.length<1000/\D.nx σ (upd H3 a (.ins C dx' (OE f z fs')))
section
variable {X:Cx}{o e value:Expr}{f:Str}{pos pos' tpos:Kb}{ta tv:TE}
theorem eV (he:PE X e ta)(hb:Kv e f X.env (Ka e X.env)=Ka e X.env):PE X (.Attribute e f pos) (tFld X.K ta f):=by
 intro pins s σ H Q I h;refine AM hb (thn (he pins s σ H _ I h) λu s1 qz=>?_);obtain⟨x,H1,I1,rx,a,C,dx,fs,v,ex,ea,c,n,l,q⟩:=qz;subst ex;obtain rfl:u=Jx.ref a:=rx;exact lF I1 ea c n l λu' s2 I2 ru=>⟨v,H1,I2,ru,q⟩
theorem qY (ha:PE X o ta)(hv:PE X value tv)(hs:swapsWith value (some (.Attribute o f pos')) pos.line X.env=pure false):PS X (.Assign [.Attribute o f pos'] value pos) (sFld X.K ta tv f):=by
 intro pins s σ H D I h;refine plainObj_wpAny_Assign_Attribute (thn (hv pins s σ H _ I h) λu s1 ⟨y,H1,I1,ry,q⟩=>thn (ha pins s1 σ H1 _ I1 q) λov s2 qz=>?_) hs;obtain⟨x,H2,I2,rx,a,C,dx,fs,ex,ea,c,n,l,q2⟩:=qz;subst ex;obtain rfl:ov=Jx.ref a:=rx;exact kE I2 ea c n l ry λs3 I3=>⟨σ,_,I3,q2⟩
theorem mO {rd:V->V->Hp->VK->Prop}(ha:PE X o ta)(hv:PE X value tv)(hop:InOp X op rd):PS X (.AugAssign (.Attribute o f tpos) op value pos) (zi X.K ta tv rd f):=by
 intro pins s σ H D I h;refine wpAny_AugAssign_AttributeAny (thn (ha pins s σ H _ I h) λov s1 qz=>?_);obtain⟨x,H1,I1,rx,a,C,dx,fs,v,ex,ea,c,n,l,q⟩:=qz;subst ex;obtain rfl:ov=Jx.ref a:=rx;refine lF I1 ea c n l λu s2 I2 ru=>thn (hv pins s2 σ H1 _ I2 q) λw3 s3 ⟨y,H2,I3,ry,q3⟩=>thn (hop pins s3 σ H2 v y u w3 _ I3 ru ry q3) λw4 s4 qz=>?_;obtain⟨z,H3,I4,rz,dx',fs',ea',l',q4⟩:=qz;exact kE I4 ea' c n l' rz λs5 I5=>⟨σ,_,I5,q4⟩
noncomputable def rAdd:V->V->Hp->VK->Prop:=λx y H Q=> ∃i j,x=.int i/\y=.int j/\Q (.int (i+j)) H
theorem ya:InOp X .Add rAdd:=by
 rintro pins s σ H x y u v Q I rx ry ⟨i,j,rfl,rfl,q⟩
 obtain⟨t,rfl⟩:=(show∃t,u=Jx.int i t from rx)
 obtain⟨t',rfl⟩:=(show∃t',v=Jx.int j t' from ry)
 exact PyProof.Rows.iadd_int ⟨.int (i+j),H,I.tok _,⟨_,rfl⟩,q⟩
theorem AZ {m:Str}{args:List Expr}{Q:Jx->JJ->Prop}(he:PE X e te)(I:Inv X pins σ H s)
  (h:te σ H λx H1=> ∃a C dx fs g,x=.ref a/\H1 a=some (.ins C dx fs)/\Cls X.K C/\Ld X.K C m g/\fs.lookup m=none/\
    ∀s1,Inv X pins σ H1 s1->JN (JP X.prog X.w) X.A (callWith pos (.ref g) [.ref a] (Kc pos (Kd args X.env)) (Kw pos (Kx [] X.env))) Q X.xe s1)
  (ht:Ka (.Call (.Attribute e m apos) args [] pos) X.env=(do
   let ov<-Ka e X.env
   Ki apos.atName
   let (f,first)<-Kj [ov] (Ku ov m pl)
   callWith pos f first (Kc pos (Kd args X.env)) (Kw pos (Kx [] X.env)))):
  JN (JP X.prog X.w) X.A (Ka (.Call (.Attribute e m apos) args [] pos) X.env) Q X.xe s:=by
 refine PySem.W.methodCall_KW (pl:=pl) (thn (he pins s σ H _ I h) λu s1 qz=>?_) ht;obtain⟨x,H1,I1,rx,a,C,dx,fs,g,ex,ea,c,k,l,q⟩:=qz;subst ex;obtain rfl:u=Jx.ref a:=rx;exact iT I1 ea c k l (q s1 I1)
end
end
section
structure Room (k:Nat)(A:JL):Prop where
 hd:A.handled=none
 dp:A.depth+3 * k+5<recursionLimit
 un:A.units+16 * k+200<JM
theorem Room.mono {j k:Nat}(r:Room k A)(h:j<=k):Room j A:=⟨r.hd,by have:=r.dp;omega,by have:=r.un;omega⟩
theorem Room.deeper {k:Nat}(r:Room (k+1) A)(env:Env):Room k (A.deeper env):=
 ⟨r.hd,by have:=r.dp;show A.depth+1+3 * k+5<_;omega,by have:=r.un;show A.units+3+16 * k+200<_;omega⟩
theorem rH {A:JL}{C:JG}{us:List Jx}{kw:List (Str×Jx)}:(A.under (.builtin "type.__call__" ⟨.ref C::us,kw⟩)).depth=A.depth+1:=by
 first|rfl|simp [JL.under,Code.weight,Code.isCreation,Code.isGuard,Code.isCaller,Code.frames,Code.isFrame,guardIds]
theorem rG {A:JL}{C:JG}{us:List Jx}{kw:List (Str×Jx)}:(A.under (.builtin "type.__call__" ⟨.ref C::us,kw⟩)).units=A.units+1:=by
 first|rfl|simp [JL.under,Code.cUnits,Code.frames,Code.isFrame]
theorem Room.make {k:Nat}(r:Room (k+1) A)(C:JG)(us:List Jx)(kw:List (Str×Jx)):Room k (A.under (.builtin "type.__call__" ⟨.ref C::us,kw⟩)):=
 ⟨r.hd,by have:=r.dp;rw[rH];omega,by have:=r.un;rw[rG];omega⟩
theorem Room.depth {k:Nat}(r:Room k A):A.depth<recursionLimit:=by have:=r.dp;omega
theorem Room.units {k:Nat}(r:Room k A):A.units+64<JM:=by have:=r.un;omega
noncomputable def P7:TA:=λ_ H Q=>Q [] H
noncomputable def P4 (ta:TE)(tr:TA):TA:=λσ H Q=>ta σ H λx H1=>tr σ H1 λxs H2=>Q (x::xs) H2
section
variable {X:Cx}{e:Expr}{es:List Expr}{te:TE}{t:TA}{pos:Kb}
theorem Oo:PA X [] P7:=λ_ _ _ _ H Q I h=>Calls.spliced_nil ⟨[],H,I,.nil,h⟩
theorem aj (ha:PE X e te)(hr:PA X es t)(hs:Kd (e::es) X.env=(false,Ka e X.env)::Kd es X.env:=by rfl):PA X (e::es) (P4 te t):=by
 intro pos pins s σ H Q I h;rw[hs];show JN _ _ (spliced ((false,Ka e X.env)::Kc pos (Kd es X.env))) _ _ s;refine Calls.spliced_cons (thn (ha pins s σ H _ I h) λu s1 qz=>?_);obtain⟨x,H1,I1,r1,q1⟩:=qz;exact thn (hr pos pins s1 σ H1 _ I1 q1) λus s2 ⟨xs,H2,I2,r2,q2⟩=>⟨x::xs,H2,I2,.cons r1 r2,q2⟩
noncomputable def tTup (t:TA):TE:=λσ H Q=>t σ H λxs H1=>xs.length<=sizeLine/\ ∀p,H1 p=none->Q (.ref p) (upd H1 p (.tup xs))
noncomputable def tLst (t:TA):TE:=λσ H Q=>t σ H λxs H1=>xs.length<=sizeLine/\ ∀p,H1 p=none->Q (.ref p) (upd H1 p (.lst xs))
theorem jE {x1}(h:PA X es t):PE X (.Tuple es x1 pos) (tTup t):=by
 intro pins s σ H Q I hq;refine wpAny_Tuple_spliced (thn (h pos pins s σ H _ I hq) λus s1 ⟨xs,H1,I1,r,z,q⟩=>⟨by rw[<-r.length];exact z,?_⟩);have hf:H1 ↥s1=none:=I1.hok.fresh (Fy _);refine⟨.ref ↥s1,upd H1 ↥s1 (.tup xs),I1.laid (t':=s1.toks) (λb u e=>FD _ e) (Fy _) ?_,rfl,q _ hf⟩;exact⟨z,us,r,IsTupD.new _ _⟩
theorem BN (h:PA X es t):PE X (.List es pos) (tLst t):=by
 intro pins s σ H Q I hq;refine wpAny_List_spliced (thn (h pos pins s σ H _ I hq) λus s1 ⟨xs,H1,I1,r,z,q⟩=>⟨by rw[<-r.length];exact z,?_⟩);have hf:H1 ↥s1=none:=I1.hok.fresh (Fy _);refine⟨.ref ↥s1,upd H1 ↥s1 (.lst xs),I1.laid (t':=s1.toks) (λb u e=>FD _ e) (Fy _) ?_,rfl,q _ hf⟩;exact⟨z,us,0,r,FX _ rfl⟩
end
noncomputable abbrev Sp:=List V->Hp->VK->XK->Prop
noncomputable abbrev CXT:=List Env->Hp->JJ->XK->Jx->JJ->Prop
structure Env0 (P:JB)(w:JC)(K:Zf)(mg:Str->Option Jx)(base:JD)(A:JL)(outer:List Env)(s:JJ)(H:Hp):Prop where
 frames:A.frames=some outer
 mod:Mod K mg base
 bs: ∀b o,base.get? b=some o->s.heap.get? b=some o/\H b=none
 bsz:base.objs.size<=↥s
 funs:s.heap.FunFrames base outer
 frf: ∀b∈frs outer,H b=none
 hok:HOk P w H s.heap
 bare:J9 s.gens
noncomputable def CE (outer:List Env)(P:JB)(w:JC)(H:Hp)(s:JJ)(Q:VK)(u:Jx)(s':JJ):Prop:=
 ∃v H',s'.os=s.os/\J9 s'.gens/\Un (frs outer) [] H H' s.heap s'.heap/\HOk P w H' s'.heap/\RelV v u/\Q v H'
noncomputable def CR (CX:CXT)(outer:List Env)(P:JB)(w:JC)(H:Hp)(s:JJ)(Q:VK)(E:XK)(r:Result)(s':JJ):Prop:=
 match r with
 |.ok (.ret u)=>CE outer P w H s Q u s'
 |.ok _=>False
 |.error e=>CX outer H s E e s'
structure FnOk (P:JB)(w:JC)(K:Zf)(mg:Str->Option Jx)(base:JD)(CX:CXT)(k:Nat)(f:JG)(fd:Ky)(ps:List Str)(sp:Sp):Prop where
 len: ∀vs H Q E,sp vs H Q E->vs.length=ps.length
 run: ∀ (A:JL) (outer:List Env) (s:JJ) (H:Hp) (args:Args) (us:List Jx) (vs:List V) (Q:VK) (E:XK),Room k A->Env0 P w K mg base A outer s H->BindsTo s fd args (ps.zip us)->Vals vs us->sp vs H Q E->
  codeAny (JP P w) A (.call (.ref f) args) (CR CX outer P w H s Q E) s
theorem FnOk.mono {w:JC}{K:Zf}{mg:Str->Option Jx}{j k:Nat}{ps:List Str}(F:FnOk P w K mg base CX j f fd ps sp)(h:j<=k):
 FnOk P w K mg base CX k f fd ps sp:=⟨F.len,λA outer s H args us vs Q E hr=>F.run A outer s H args us vs Q E (hr.mono h)⟩
theorem FnOk.imp {w:JC}{K:Zf}{mg:Str->Option Jx}{k:Nat}{ps:List Str}(F:FnOk P w K mg base CX k f fd ps sp)
  (h:∀vs H Q E,sp' vs H Q E->sp vs H Q E):FnOk P w K mg base CX k f fd ps sp':=
 ⟨λvs H Q E q=>F.len vs H Q E (h _ _ _ _ q),λA outer s H args us vs Q E hr he hb hv hs=>F.run A outer s H args us vs Q E hr he hb hv (h _ _ _ _ hs)⟩
theorem Env0.make {w:JC}{K:Zf}{mg:Str->Option Jx}(e:Env0 P w K mg base A outer s H)(C:JG)(us:List Jx)(kw:List (Str×Jx)):
 Env0 P w K mg base (A.under (.builtin "type.__call__" ⟨.ref C::us,kw⟩)) outer s H:=⟨by first|exact e.frames|(simpa [JL.under,Code.envs,Code.isFrame,pushEnvs] using e.frames),e.mod,e.bs,e.bsz,e.funs,e.frf,e.hok,e.bare⟩
section
variable {X:Cx}{pins:List (JG×JK)}{σ:St}{H:Hp}{s s':JJ}
theorem Inv.env0 (I:Inv X pins σ H s):Env0 X.prog X.w X.K X.mg X.base X.A X.stack s H:=
 ⟨I.ok.frames,I.ok.mod,I.bs,F6 I.ok.bsz I.sz,I.stack,I.stkFree,I.hok,I.bare⟩
theorem Inv.after (I:Inv X pins σ H s)(h:CE X.stack X.prog X.w H s Q u s'):EP X pins σ Q u s':=by
 obtain⟨v,H',os,bare,un,hok,r,q⟩:=h;obtain⟨hh,g,d,t,os'⟩:=s';obtain rfl:os'=s.os:=os;exact⟨v,H',I.call (h':=hh) (g':=g) (d':=d) (t':=t) (ch:=[]) un hok bare (λb z=>absurd z ⇑_),r,q⟩
end
noncomputable def tCall (sp:Sp)(dvs:List V)(E:XK)(t:TA):TE:=λσ H Q=>t σ H λvs H1=>sp (vs++dvs) H1 Q E
noncomputable def P6 (C:JG)(m:Str)(sp:Sp)(dvs:List V)(E:XK)(ta:TE)(t:TA):TE:=λσ H Q=>ta σ H λx H1=> ∃a dx fs,x=.ref a/\H1 a=some (.ins C dx fs)/\fs.lookup m=none/\
 t σ H1 λvs H2=>sp (x::(vs++dvs)) H2 Q E
noncomputable def P5 (C:JG)(sp:Sp)(dvs:List V)(E:XK)(t:TA):TE:=λσ H Q=>t σ H λvs H1=> ∀x dx,H1 x=none->H1 dx=none->dx≠x->
 sp (.ref x::(vs++dvs)) (upd (upd H1 dx (.own x)) x (.ins C dx [])) (λv H2=>v=.non/\Q (.ref x) H2) E
noncomputable def Binds (K:Zf)(fd:Ky)(ps:List Str)(ds:List Jx):Prop:=
 ∀ (s:JJ) (us:List Jx),K.In s.heap->(us++ds).length=ps.length->BindsTo s fd ⟨us,[]⟩ (ps.zip (us++ds))
theorem Binds.all {K:Zf}{ps:List Str}(h:∀us:List Jx,us.length=ps.length->bindArgs fd ⟨us,[]⟩=pure (ps.zip us)):Binds K fd ps []:=λs us _ hl=>by
 rw[Gd] at hl ⊢;exact .of_eq (h us hl)
noncomputable def gB (CX:CXT)(X:Cx)(E:XK):Prop:= ∀ (pins:List (JG×JK)) (σ:St) (H:Hp) (s:JJ) (e:Jx) (s':JJ),Inv X pins σ H s->CX X.stack H s E e s'->X.xe e s'
section
variable {X:Cx}{CX:CXT}{k:Nat}{f C:JG}{fd:Ky}{ps:List Str}{sp:Sp}{dvs:List V}{ds:List Jx}{E:XK}{x m:Str}{p pos apos:Kb}{e o:Expr}{es:List Expr}{ta:TE}{t:TA}
theorem qV (F:FnOk X.prog X.w X.K X.mg X.base CX k f fd ps sp)(hr:Room k X.A)(hb:Binds X.K fd ps ds)(hd:Vals dvs ds)(hx:gB CX X E)
  (I:Inv X pins σ H s)(r:Vals vs us)(h:sp (vs++dvs) H Q E):JN (JP X.prog X.w) X.A (call (.ref f) us) (EP X pins σ Q) X.xe s:=by
 have r2:Vals (vs++dvs) (us++ds):=r.append hd;have hl:(us++ds).length=ps.length:=by rw[<-r2.length];exact F.len _ _ _ _ h
 refine wpAny_call (Kz (F.run X.A X.stack s H ⟨us,[]⟩ (us++ds) (vs++dvs) Q E hr I.env0 (hb s us I.kIn hl) r2 h) λr s' hq=>?_);cases r with
 |error e=>exact hx pins σ H s e s' I hq
 |ok fl=>
  cases fl with
  |ret u=>exact I.after hq
  |next=>exact False.elim hq
  |brk=>exact False.elim hq
  |cont=>exact False.elim hq
theorem di (F:FnOk X.prog X.w X.K X.mg X.base CX k f fd ps sp)(hr:Room k X.A)(hg:Gl X x)(hm:X.mg x=some (.ref f))(hk:Ju X.K (.ref f)=true)(hb:Binds X.K fd ps ds)(hd:Vals dvs ds)(hx:gB CX X E)
  (ha:PA X (e::es) t)(hdb:(x==("__debug__":Str))=false:=by decide)(he:Kd (e::es) X.env=(false,Ka e X.env)::Kd es X.env:=by rfl)(hpl:(Kc pos (Kd es X.env)).any (·.1)=false:=by rfl):
  PE X (.Call (.Name x p) (e::es) [] pos) (tCall sp dvs E t):=by
 intro pins s σ H Q I h;refine KA (jk I hg hm ?_ hdb);refine PySem.W.callWith_K (h₀:=X.base) I.ok.mod.kin hk (thn (ha pos pins s σ H _ I h) λus s1 ⟨vs,H1,I1,r,q⟩=>⟨I1.kIn,?_⟩) he hpl;exact qV F hr hb hd hx I1 r q
theorem f6 (he:PE X o ta)(c:Cls X.K C)(hm:Ld X.K C m f)(F:FnOk X.prog X.w X.K X.mg X.base CX k f fd ps sp)(hr:Room k X.A)(hb:Binds X.K fd ps ds)(hd:Vals dvs ds)(hx:gB CX X E)(ha:PA X (e::es) t)
  (hst:Kd (e::es) X.env=(false,Ka e X.env)::Kd es X.env:=by rfl)(hpl:(Kc pos (Kd es X.env)).any (·.1)=false:=by rfl)
  (ht:Ka (.Call (.Attribute o m apos) (e::es) [] pos) X.env=(do
   let ov<-Ka o X.env
   Ki apos.atName
   let (f,first)<-Kj [ov] (Ku ov m pl)
   callWith pos f first (Kc pos (Kd (e::es) X.env)) (Kw pos (Kx [] X.env))):=by rfl):
  PE X (.Call (.Attribute o m apos) (e::es) [] pos) (P6 C m sp dvs E ta t):=by
 intro pins s σ H Q I h;refine PySem.W.methodCall_KW (pl:=pl) (thn (he pins s σ H _ I h) λu s1 qz=>?_) ht;obtain⟨x,H1,I1,rx,a,dx,fs,ex,ea,l,q⟩:=qz;subst ex;obtain rfl:u=Jx.ref a:=rx;refine iT I1 ea c hm l ?_;refine PySem.W.callWith_K (first:=[.ref a]) (h₀:=X.base) I.ok.mod.kin hm.kp (thn (ha pos pins s1 σ H1 _ I1 q) λus s2 ⟨vs,H2,I2,r,q2⟩=>⟨I2.kIn,?_⟩) hst hpl;exact qV (us:=.ref a::us) (vs:=.ref a::vs) F hr hb hd hx I2 (.cons rfl r) q2
theorem dX (he:PE X o ta)(c:Cls X.K C)(hm:Ld X.K C m f)(F:FnOk X.prog X.w X.K X.mg X.base CX k f fd ps sp)(hr:Room k X.A)(hb:Binds X.K fd ps ds)(hd:Vals dvs ds)(hx:gB CX X E)
  (ht:Ka (.Call (.Attribute o m apos) [] [] pos) X.env=(do
   let ov<-Ka o X.env
   Ki apos.atName
   let (f,first)<-Kj [ov] (Ku ov m pl)
   callWith pos f first (Kc pos (Kd [] X.env)) (Kw pos (Kx [] X.env))):=by rfl):
  PE X (.Call (.Attribute o m apos) [] [] pos) (P6 C m sp dvs E ta P7):=by
 intro pins s σ H Q I h;refine PySem.W.methodCall_KW (pl:=pl) (thn (he pins s σ H _ I h) λu s1 qz=>?_) ht;obtain⟨x,H1,I1,rx,a,dx,fs,ex,ea,l,q⟩:=qz;subst ex;obtain rfl:u=Jx.ref a:=rx;refine iT I1 ea c hm l ?_;exact PySem.W.callWith_K0 (first:=[.ref a]) I1.kIn hm.kp (qV (us:=[.ref a]) (vs:=[.ref a]) F hr hb hd hx I1 (.cons rfl .nil) q)
structure Mk (K:Zf)(C f:JG):Prop where
 makes:makesIn K C=true
 init:Js K (.ref C) "__init__"=some (some (.ref f))
 fn:PySem.W.isFn K (.ref f)=true
 kp:Ju K (.ref C)=true
theorem pA (M:Mk X.K C f)(F:FnOk X.prog X.w X.K X.mg X.base CX k f fd ps sp)(hr:Room (k+1) X.A)(hb:Binds X.K fd ps ds)(hd:Vals dvs ds)
  (hx:gB CX X E)(I:Inv X pins σ H s)(r:Vals vs us)
  (h:∀x dx,H x=none->H dx=none->dx≠x->sp (.ref x::(vs++dvs)) (upd (upd H dx (.own x)) x (.ins C dx [])) (λv H2=>v=.non/\Q (.ref x) H2) E):
  JN (JP X.prog X.w) X.A (call (.ref C) us) (EP X pins σ Q) X.xe s:=by
 have hq:=h (↥s+1) ↥s (I.hok.fresh (GS _)) (I.hok.fresh (Fy _)) (F5 (Ii _));have I2:=Inv.made (C:=C) I;have r2:Vals (V.ref (↥s+1)::(vs++dvs)) (Jx.ref (↥s+1)::(us++ds)):=.cons rfl (r.append hd);have hl:(Jx.ref (↥s+1)::us++ds).length=ps.length:=by
  have e:=r2.length;rw[F.len _ _ _ _ hq] at e;exact e.symm
 refine wpAny_call (xH (f:=f) I.kIn M.makes M.init (beq_iff_eq.mp M.fn) (Kz (F.run _ X.stack _ _ ⟨Jx.ref (↥s+1)::us,[]⟩ (Jx.ref (↥s+1)::(us++ds)) _ _ E (hr.make C us [])
  (I2.env0.make C us []) (hb _ (Jx.ref (↥s+1)::us) I2.kIn hl) r2 hq) λr s' hq'=>?_))
 cases r with
 |error e=>exact hx pins σ _ _ e s' I2 hq'
 |ok fl=>
  cases fl with
  |ret u=>
   obtain⟨v,H',I3,rv,ev,q3⟩:=I2.after hq';subst ev;exact⟨rv,⟨V.ref (↥s+1),H',I3,rfl,q3⟩⟩
  |next=>exact False.elim hq'
  |brk=>exact False.elim hq'
  |cont=>exact False.elim hq'
theorem zv (M:Mk X.K C f)(F:FnOk X.prog X.w X.K X.mg X.base CX k f fd ps sp)(hr:Room (k+1) X.A)(hg:Gl X x)(hm:X.mg x=some (.ref C))(hb:Binds X.K fd ps ds)(hd:Vals dvs ds)(hx:gB CX X E)
  (ha:PA X (e::es) t)(hdb:(x==("__debug__":Str))=false:=by decide)(he:Kd (e::es) X.env=(false,Ka e X.env)::Kd es X.env:=by rfl)(hpl:(Kc pos (Kd es X.env)).any (·.1)=false:=by rfl):
  PE X (.Call (.Name x p) (e::es) [] pos) (P5 C sp dvs E t):=by
 intro pins s σ H Q I h;refine KA (jk I hg hm ?_ hdb);refine PySem.W.callWith_K (h₀:=X.base) I.ok.mod.kin M.kp (thn (ha pos pins s σ H _ I h) λus s1 ⟨vs,H1,I1,r,q⟩=>⟨I1.kIn,?_⟩) he hpl;exact pA M F hr hb hd hx I1 r q
theorem wJ (M:Mk X.K C f)(F:FnOk X.prog X.w X.K X.mg X.base CX k f fd ps sp)(hr:Room (k+1) X.A)(hg:Gl X x)(hm:X.mg x=some (.ref C))(hb:Binds X.K fd ps ds)(hd:Vals dvs ds)(hx:gB CX X E)
  (hdb:(x==("__debug__":Str))=false:=by decide):PE X (.Call (.Name x p) [] [] pos) (P5 C sp dvs E P7):=by
 intro pins s σ H Q I h;refine KA (jk I hg hm ?_ hdb);exact PySem.W.callWith_K0 I.kIn M.kp (pA (us:=[]) M F hr hb hd hx I .nil h)
end
structure Lb (N P:List Str)(sc:J8):Prop where
 kind:sc.kind=.function
 co:sc.isCoroutine=false
 gen:sc.isGenerator=false
 nd:N.Nodup
 pre:N.take P.length=P
 par: ∀x∈P,sc.names.lookup x=some .local \/sc.names.lookup x=some .cell
 nofree: ∀y∈sc.names,y.2≠.free
theorem nv {kindOf:Str->Option KC}{x:Str}: ∀ {binds:List (Str×Jx)}{m:Str->Option Jx},(∀v,(x,v) ∉ binds)->bindL kindOf binds m x=m x
 |[],_,_=>rfl
 |(n,v)::r,m,h=>by
  unfold bindL;rw[nv λw hw=>h w (FV _ hw)];split
  ·have:x≠n:=by rintro rfl;exact h v FI
   simp [this]
  ·rfl
theorem nA {kindOf:Str->Option KC}{x:Str}: ∀ {binds:List (Str×Jx)}{m:Str->Option Jx},(∀v,(x,v) ∉ binds)->bindC kindOf binds m x=m x
 |[],_,_=>rfl
 |(n,v)::r,m,h=>by
  unfold bindC;rw[nA λw hw=>h w (FV _ hw)];split
  ·rfl
  ·have:x≠n:=by rintro rfl;exact h v FI
   simp [this]
theorem nz {kindOf:Str->Option KC}{x:Str}: ∀ {P:List Str}{vs:List Jx}{i:Nat}{m:Str->Option Jx},P.Nodup->P[i]?=some x->vs[i]?=some v->kindOf x=some .local ->
  bindL kindOf (P.zip vs) m x=some v
 |[],_,_,_,_,h,_,_=>by simp at h
 |_::_,[],_,_,_,_,h,_=>by simp at h
 |p::P,w::vs,0,m,nd,h1,h2,hk=>by
  simp at h1 h2;subst h1;subst h2;show bindL kindOf ((p,w)::P.zip vs) m p=_;unfold bindL;rw[nv λv hv=>(Hl.mp nd).1 (Ij hv).1,if_pos hk];simp
 |p::P,w::vs,i+1,m,nd,h1,h2,hk=>by
  show bindL kindOf ((p,w)::P.zip vs) m x=_;unfold bindL;exact nz (i:=i) (Hl.mp nd).2 (by simpa using h1) (by simpa using h2) hk
theorem nB {kindOf:Str->Option KC}{x:Str}: ∀ {P:List Str}{vs:List Jx}{i:Nat}{m:Str->Option Jx},P.Nodup->P[i]?=some x->vs[i]?=some v->kindOf x≠some .local ->
  bindC kindOf (P.zip vs) m x=some v
 |[],_,_,_,_,h,_,_=>by simp at h
 |_::_,[],_,_,_,_,h,_=>by simp at h
 |p::P,w::vs,0,m,nd,h1,h2,hk=>by
  simp at h1 h2;subst h1;subst h2;show bindC kindOf ((p,w)::P.zip vs) m p=_;unfold bindC;rw[nA λv hv=>(Hl.mp nd).1 (Ij hv).1,if_neg hk];simp
 |p::P,w::vs,i+1,m,nd,h1,h2,hk=>by
  show bindC kindOf ((p,w)::P.zip vs) m x=_;unfold bindC;exact nB (i:=i) (Hl.mp nd).2 (by simpa using h1) (by simpa using h2) hk
noncomputable def PV (N:List Str)(vs:List V):St:=vs.map some++List.replicate (N.length - vs.length) none
noncomputable def LQ (CX:CXT)(P:JB)(w:JC)(K:Zf)(mg:Str->Option Jx)(base:JD)(N:List Str)(qual:Str)(scope:J8)(f:JG)(cd:Jx)(A:JL)(outer:List Env)(s:JJ)(H:Hp)(E:XK):Cx where
 prog:=P
 w:=w
 K:=K
 mg:=mg
 base:=base
 A:=A.deeper (KD qual scope ↥s f cd)
 N:=N
 s₀:=s
 H₀:=H
 env:=KD qual scope ↥s f cd
 outer:=outer
 stack:=KD qual scope ↥s f cd::outer
 ex:=[]
 calm:=true
 fn:=λ_=>true
 pn:=[]
 xe:=λe s'=>JN (JP P w) (A.deeper (KD qual scope ↥s f cd)) (leaving (KD qual scope ↥s f cd) e) (λ_ s''=>CX outer H s E e s'') (λe' s''=>CX outer H s E e' s'') s'
theorem qi {sc:J8}{n:Nat}{x:Str}(h:sc.names.lookup x=some .cell): ∃c,(cellsFrom n sc.names []).lookup x=some c:=by
 have q:=PySem.W.cellsFrom_some sc.names n [] (.inl h);exact HA.mp q
theorem u7 {w:JC}{K:Zf}{mg:Str->Option Jx}{N ps:List Str}{qual:Str}
  (S:Lb N ps scope)(hd:A.handled=none)(e0:Env0 P w K mg base A outer s H)(hl:vs.length=ps.length)(r:Vals vs us)
  (x:InCallC s ↥s (bindL (KD qual scope ↥s f cd).kindOf (ps.zip us) λ_=>none) (cellsFrom (↥s+1) scope.names []) (bindC (KD qual scope ↥s f cd).kindOf (ps.zip us) λ_=>none) s1):
  Inv (LQ CX P w K mg base N qual scope f cd A outer s H E) [] (PV N vs) H s1:=by
 have hpl:ps.length<=N.length:=by have:=congrArg List.length S.pre;rw[Gk] at this;omega
 obtain⟨h1,tk,rfl,hk⟩:=x.done;have noA: ∀b:JG,b ∉ (LQ CX P w K mg base N qual scope f cd A outer s H E).ex:=λb z=>absurd (show b∈([]:List JG) from z) ⇑_
 refine⟨⟨e0.mod,S.kind,rfl,rfl,Fy _,λy z c h1 h2=>?_,λy hy=>?_,λy c _ h=>?_,λ_=>hd,JL.frames_deeper e0.frames,.inr ⟨rfl,rfl⟩,λb z=>absurd z (noA b),e0.bs,e0.bsz,λb _ _=>noA b,λb z=>absurd z (noA b),e0.funs,e0.frf⟩,
  rfl,e0.bare,Un.kept hk,⟨_,x.toInCall.ns,λi y v h1 h2 h3=>?_⟩,λy c h=>⟨_,x.cell y c h⟩,e0.hok.fresh (Fy _),λy c h=>?_,λp hp=>absurd (show p∈([]:List (JG×JK)) from hp) ⇑_,e0.hok.kept hk,?_⟩
 ·exact name_of_addr x.apart (PySem.mem_of_lookup h1) (PySem.mem_of_lookup h2)
 ·have hy:scope.names.lookup y=some .cell\/scope.names.lookup y=some .free:=hy;rcases hy with hy|hy
  ·exact qi hy
  ·exact absurd rfl (S.nofree _ (PySem.mem_of_lookup hy))
 ·exact Hz (x.above y c (PySem.mem_of_lookup h))
 ·have hi:i<vs.length:=by
   unfold PV at h2;by_cases hi:i<vs.length
   ·exact hi
   ·rw[G0 (by simpa using hi)] at h2;rw[Ik] at h2;split at h2<;>cases h2
  have ha:vs[i]?=some v:=by
   unfold PV at h2;rw[Gr (by simpa using hi),FG] at h2;cases e:vs[i]? with
   |none=>rw[e] at h2;cases h2
   |some a=>rw[e] at h2;cases h2;rfl
  obtain⟨u,hu,rv⟩:=r.get ha;have hp:ps[i]?=some y:=by
   rw[<-S.pre,List.getElem?_take_of_lt ∅];exact h1
  have ndP:ps.Nodup:=by rw[<-S.pre];exact S.nd.sublist (IU _ _)
  refine⟨u,rv,?_⟩;rcases S.par y (F9 hp) with k|k
  ·exact .inl ⟨k,nz ndP hp hu k⟩
  ·obtain⟨c,e⟩:=qi (n:=↥s+1) k;refine .inr ⟨.inl k,c,e,?_⟩;have q:=x.cell y c e;rw[nB ndP hp hu (by show scope.names.lookup y≠_;rw[k];decide)] at q;exact q
 ·exact e0.hok.fresh (Hz (x.above y c (PySem.mem_of_lookup h)))
 ·unfold PV;show _=N.length;rw[FE,Fx,G1];omega
theorem A4 {w:JC}{K:Zf}{mg:Str->Option Jx}{k:Nat}{name qual:Str}{dV kV doc pm cdv ct oc:Jx}
  {N ps:List Str}(lk:K.lookup f=some ⟨oc,od,.func (fnOf name qual params body scope dV kV doc pm an cdv ct),osl⟩)(hcd:codeIn K cdv qual=true)(S:Lb N ps scope)
  (len: ∀vs H Q E,sp vs H Q E->vs.length=ps.length)
  (hbody: ∀ (A:JL) (outer:List Env) (s:JJ) (H:Hp) (vs:List V) (Q:VK) (E:XK),Room k (A.deeper (KD qual scope ↥s f cdv))->sp vs H Q E->
   ∃t,PSs (LQ CX P w K mg base N qual scope f cdv A outer s H E) body t/\t {nx:=λ_ H'=>Q .non H',rt:=Q} (PV N vs) H):
  FnOk P w K mg base CX (k+1) f (fnOf name qual params body scope dV kV doc pm an cdv ct) ps sp:=by
 refine⟨len,λA outer s H args us vs Q E hr e0 hb r hsp=>?_⟩;have hl:=len _ _ _ _ hsp;have KX:K.In s.heap:=e0.mod.kin.keeps λb o e=>(e0.bs b o e).1;have lim:s.heap.NoLimit:=e0.mod.nolimit.keeps λb o e=>(e0.bs b o e).1;have hkind: ∀y∈ps.zip us,scope.names.lookup y.1=some .local \/(scope.names.lookup y.1=some .cell/\((cellsFrom (↥s+1) scope.names []).lookup y.1).isSome=true):=λ⟨n,v⟩ hy=>by
  rcases S.par n (Ij hy).1 with q|q
  ·exact .inl q
  ·exact .inr ⟨q,PySem.W.cellsFrom_some _ _ _ (.inl q)⟩
 refine codeAny_call_function hr.depth (KX _ _ lk) rfl S.co S.gen rfl (PySem.W.codeRec_of KX hcd) (hb _ _ _ _ ?_);refine wpAny_newFunctionEnv_cells S.kind hkind λenv he s1 x=>?_;subst he;refine⟨lim.keeps x.toInCall.keep,codeAny_func ?_⟩;obtain⟨t,ht,hq⟩:=hbody A outer s H vs Q E (hr.deeper _) hsp;have I:Inv (LQ CX P w K mg base N qual scope f cdv A outer s H E) [] (PV N vs) H s1:=u7 S hr.hd e0 hl r x;refine Kf (ht [] s1 (PV N vs) H _ I hq) (λfl s' hs=>?_) λe s' hs=>hs;have fin: ∀ {σ':St}{H':Hp}{v:V}{u:Jx},Inv (LQ CX P w K mg base N qual scope f cdv A outer s H E) [] σ' H' s'->RelV v u->Q v H'->CE outer P w H s Q u s':=
  λ{σ' H' v u} J rv q=>⟨v,H',J.os,J.bare,J.base,J.hok,rv,q⟩
 cases fl with
 |ret u=>
  obtain⟨v,σ',H',J,rv,q⟩:=hs;exact fin J rv q
 |next=>
  obtain⟨σ',H',J,q⟩:=hs;exact fin (v:=V.non) (u:=Jx.none) J rfl q
 |brk=>
  obtain⟨_,_,_,q⟩:=hs;exact False.elim q
 |cont=>
  obtain⟨_,_,_,q⟩:=hs;exact False.elim q
end
section
section
variable {X:Cx}{x:Str}{p pos:Kb}{e:Expr}{es:List Expr}{t:TA}{id T:String}{r:List V->Hp->VK->Prop}
noncomputable def tCB (r:List V->Hp->VK->Prop)(t:TA):TE:=λσ H Q=>t σ H λvs H1=>r vs H1 Q
theorem cX (hc:CallR X (.builtin id) r)(hg:Gl X x)(hm:X.mg x=none)(hv:J7 x=some (.builtin id))(ha:PA X (e::es) t)(hn:x≠ "__name__":=by decide)(hdb:(x==("__debug__":Str))=false:=by decide)
  (he:Kd (e::es) X.env=(false,Ka e X.env)::Kd es X.env:=by rfl)(hpl:(Kc pos (Kd es X.env)).any (·.1)=false:=by rfl):PE X (.Call (.Name x p) (e::es) [] pos) (tCB r t):=by
 intro pins s σ H Q I h;refine KA (f8 I hg hm hv ?_ hn hdb);exact PyProof.Rows.callWith_builtin1 (thn (ha pos pins s σ H _ I h) λus s1 ⟨vs,H1,I1,r1,q1⟩=>hc pins s1 σ H1 vs us Q I1 r1 q1) he hpl
theorem jF (hc:CallR X (.type T) r)(hg:Gl X x)(hm:X.mg x=none)(hv:J7 x=some (.type T))(ha:PA X (e::es) t)(hn:x≠ "__name__":=by decide)(hdb:(x==("__debug__":Str))=false:=by decide)
  (he:Kd (e::es) X.env=(false,Ka e X.env)::Kd es X.env:=by rfl)(hpl:(Kc pos (Kd es X.env)).any (·.1)=false:=by rfl):PE X (.Call (.Name x p) (e::es) [] pos) (tCB r t):=by
 intro pins s σ H Q I h;refine KA (f8 I hg hm hv ?_ hn hdb);exact PyProof.Rows.callWith_type1 (thn (ha pos pins s σ H _ I h) λus s1 ⟨vs,H1,I1,r1,q1⟩=>hc pins s1 σ H1 vs us Q I1 r1 q1) he hpl
end
end
end L2
namespace HT
open PySem PyProof.Rows
noncomputable def lexLt:List Int->List Int->Bool
 |[],[]=>false
 |[],_::_=>true
 |_::_,[]=>false
 |x::xs,y::ys=>if x=y then lexLt xs ys else decide (x<y)
theorem rJ (x y:Int)(xs ys:List Int):lexLt (x::xs) (y::ys)=if x=y then lexLt xs ys else decide (x<y):=rfl
theorem mh:lexLt [] []=false:=rfl
theorem lj (y:Int)(ys:List Int):lexLt [] (y::ys)=true:=rfl
theorem lm (x:Int)(xs:List Int):lexLt (x::xs) []=false:=rfl
theorem yq (A:JL)(s:JJ)(a:Int)(t:Tok)(c:Int)(u:Tok): ∃e,SeqAt.EqAt A s (.int a t) (.int c u) e/\(e=true↔a=c):=
 ⟨(a==c),SeqAt.EqAt.int_int a t c u,⇑_⟩
theorem wq (A:JL)(s:JJ)(a:Int)(t:Tok)(c:Int)(u:Tok)(prog:JB)(w:JC)(E:Jx->JJ->Prop)(Q:Jx->JJ->Prop)(h:Q (.bool (decide (a<c))) s):
  JN (JP prog w) A (richCompare .Lt (.int a t) (.int c u)) Q E s:=
 (PyProof.Rows.lt_int h:JN (JP prog w) A (Kg .Lt (.int a t) (.int c u)) Q E s)
section
open PySem.SeqAt
open PySem.AutoSeq1 (wpAny_loadPart')
open PySem.MeetsSeq PySem.MeetsSeq2 PySem.MeetsSeq3
theorem lZ (l b:JG)(items items2:Array Jx)(n n2:Nat)(dd dd2:Option JG)(sl sl2:Array (Option Jx))(ns ms:List Int)(hi:IntsAre items.toList ns)(hj:IntsAre items2.toList ms):
  Meets (Jy.«tuple.__lt__» ⟨[.ref l,.ref b],[]⟩)
   (λ_ R s=>s.heap.get? l=some {cls:=.type "tuple",dict:=dd,data:=.seq items n,slots:=sl}/\s.heap.get? b=some {cls:=.type "tuple",dict:=dd2,data:=.seq items2 n2,slots:=sl2}/\
    R (.ok (.ret (.bool (lexLt ns ms)))) s):=
 .of_wp λprog w A R s h=>by
  obtain⟨hp,g,d,tk,os⟩:=s;obtain⟨hl,hb,h⟩:=h;have f2:=AutoSeq1.sub_tuple_tuple;have z1:items.size=ns.length:=by rw[<-hi.length];simp
  have z2:items2.size=ms.length:=by rw[<-hj.length];simp
  wp_walk using wpAny_loadPart' hl,wpAny_loadPart' hb,wpAny_forIn_list _ (λrest b s'=>b.1=none/\s'=⟨hp,g,d,tk,os⟩/\ ∃ (vs ws:List Jx) (ns' ms':List Int),rest=vs.zip ws/\
   IntsAre vs ns'/\IntsAre ws ms'/\ns'.length+items2.size=ms'.length+items.size/\R (.ok (.ret (.bool (lexLt ns' ms')))) ⟨hp,g,d,tk,os⟩) _
  case turn=>
   rintro⟨y,x⟩ rest b s' ⟨hb',rfl,vs,ws,ns',ms',hz,hvi,hwi,hlen,hR⟩
   cases hvi with
   |nil=>rw[List.zip_nil_left] at hz;cases hz
   |cons a t hvi'=>
    cases hwi with
    |nil=>rw[Ie] at hz;cases hz
    |cons c u hwi'=>
     rw[Hw] at hz;injection hz with hyx hrest
     injection hyx with hy hx
     subst hy hx;rw[rJ] at hR;simp only[FH] at hlen;obtain⟨e,he,hiff⟩:=yq A.in1 ⟨hp,g,d,tk,os⟩ a t c u
     refine JR (he prog w _ _ ?_);cases e with
     |true=>
      rw[if_pos (hiff.mp rfl)] at hR
      wp_walk
      exact⟨rfl,rfl,_,_,_,_,hrest,hvi',hwi',∅,hR⟩
     |false=>
      rw[if_neg (λq=>absurd (hiff.mpr q) FU)] at hR;have hri:=wq A.in1 ⟨hp,g,d,tk,os⟩ a t c u prog w
      wp_walk using hri
      exact⟨_,rfl,by simpa using hR⟩
  case fin=>
   rintro⟨b1,b2⟩ s' ⟨hb',rfl,vs,ws,ns',ms',hz,hvi,hwi,hlen,hR⟩
   simp only at hb';subst hb';have hv:lexLt ns' ms'=decide (items.size<items2.size):=by
    cases hvi with
    |nil=>
     cases hwi with
     |nil=>
      simp only[G3] at hlen;rw[mh];exact (decide_eq_false ∅).symm
     |cons c u hw=>
      simp only[G3,FH] at hlen;rw[lj];exact (decide_eq_true ∅).symm
    |cons a t hv=>
     cases hwi with
     |nil=>
      simp only[G3,FH] at hlen;rw[lm];exact (decide_eq_false ∅).symm
     |cons c u hw=>
      rw[Hw] at hz;cases hz
   rw[hv] at hR
   wp_walk
   exact⟨_,rfl,by simpa [Jy.Tuple.tupleCompareSizes] using hR⟩
  case h=>
   exact⟨rfl,rfl,items.toList,items2.toList,ns,ms,rfl,hi,hj,∅,h⟩
end
section
variable {prog:JB}{w:JC}{A:JL}{E:Jx->JJ->Prop}{s:JJ}
theorem lt_tupInts {Q:Jx->JJ->Prop}(hl:IsTup s.heap l items)(hb:IsTup s.heap b items2)(hi:IntsAre items.toList ns)(hj:IntsAre items2.toList ms)
  (hu:A.units<JM)(h:Q (.bool (lexLt ns ms)) s):JN (JP prog w) A (Kg .Lt (.ref l) (.ref b)) Q E s:=by
 obtain⟨⟨cls,dd,data,sl⟩,ho,hc,n,hd⟩:=id hl;obtain⟨⟨cls2,dd2,data2,sl2⟩,ho2,hc2,n2,hd2⟩:=id hb;simp only at hc hd hc2 hd2;subst hc hd hc2 hd2;exact richCompare_meets_room (op:=.Lt) ⟨_,ho,rfl⟩ ⟨_,ho2,rfl⟩ PySem.F.slot_tuple_lt PySem.F.entry_tuple_lt (PySem.F.args_tuple_lt_2 _ _) (lZ l b items items2 n n2 dd dd2 sl sl2 ns ms hi hj)
  ⟨ho,ho2,show Jx.bool (lexLt ns ms)≠Jx.notImplemented/\Q (.bool (lexLt ns ms)) s from⟨(λx=>nomatch x),h⟩⟩ hu
theorem cat_tup {vs ws:List Jx}{Q:Jx->JJ->Prop}(ht:IsTup s.heap t vs.toArray)(hb:IsTup s.heap b ws.toArray)(hv:vs≠ [])
  (h1:ws=[]->Q (.ref t) s)(h2:ws≠ []->Q (.ref ↥s) {s with heap:=s.heap.push {cls:=.type "tuple",data:=.seq (vs++ws).toArray}})
  (hsz:vs.length+ws.length<=sizeLine):JN (JP prog w) A (Kt .Add (.ref t) (.ref b)) Q E s:=by
 obtain⟨⟨cls,dd,data,sl⟩,ho,hc,n,hd⟩:=id ht;obtain⟨⟨cls2,dd2,data2,sl2⟩,ho2,hc2,n2,hd2⟩:=id hb;simp only at hc hd hc2 hd2;subst hc hd hc2 hd2;have e:vs.toArray++ws.toArray=(vs++ws).toArray:=⇑_;by_cases hw:ws=[]
 ·exact concat_meets ⟨_,ho,rfl⟩ ⟨_,ho2,rfl⟩ noFill_tuple_add seq_tuple_add PySem.F.slot_tuple_add PySem.F.entry_tuple_add (PySem.F.args_tuple_add_2 _ _)
   (tuple_addW1 t b vs.toArray ws.toArray n n2 dd dd2 sl sl2 (by simpa using hv) (by simp [hw])) ⟨ho,ho2,h1 hw⟩
 ·refine concat_meets ⟨_,ho,rfl⟩ ⟨_,ho2,rfl⟩ noFill_tuple_add seq_tuple_add PySem.F.slot_tuple_add PySem.F.entry_tuple_add (PySem.F.args_tuple_add_2 _ _)
   (tuple_addW2 t b vs.toArray ws.toArray n n2 dd dd2 sl sl2 (by simpa using hv) (by simpa using hw) (by rw[FP,FP];exact hsz)) ⟨ho,ho2,?_⟩
  rw[e];exact h2 hw
noncomputable def sIx (n d:Nat):Option Int->Nat
 |none=>d
 |some v=>if v<0 then (v+(n:Int)).toNat else min v.toNat n
theorem sIx_none (n d:Nat):sIx n d none=d:=rfl
theorem sIx_nat (n d k:Nat):sIx n d (some (k:Int))=min k n:=by
 show (if (k:Int)<0 then ((k:Int)+(n:Int)).toNat else min (k:Int).toNat n)=min k n;rw[if_neg ∅,Hm]
theorem Bz (n d:Nat)(hd:d<=n)(o:Option Int):sIx n d o<=n:=by
 cases o with
 |none=>exact hd
 |some v=>
  show (if v<0 then (v+(n:Int)).toNat else min v.toNat n)<=n;by_cases hv:v<0
  ·rw[if_pos hv];omega
  ·rw[if_neg hv];exact Nat.min_le_right _ _
theorem uc (v:Int)(n d:Nat):(if v<0 then max (v+(n:Int)) 0 else min v (n:Int))=((sIx n d (some v):Nat):Int):=by
 show (if v<0 then max (v+(n:Int)) 0 else min v (n:Int))=(((if v<0 then (v+(n:Int)).toNat else min v.toNat n):Nat):Int);by_cases hv:v<0
 ·simp only[if_pos hv];omega
 ·simp only[if_neg hv];omega
theorem so (lo hi:Option Int)(n:Nat):Jy.Slice.sliceAdjust lo hi 1 (n:Int)=(((sIx n 0 lo:Nat):Int),((sIx n n hi:Nat):Int)):=by
 have h1: ¬((1:Int)<0):=∅;unfold Jy.Slice.sliceAdjust;simp only[h1,if_false];refine Prod.ext ?_ ?_
 ·cases lo with
  |none=>rfl
  |some v=>exact uc v n 0
 ·cases hi with
  |none=>rfl
  |some v=>exact uc v n n
theorem q0 (i j:Nat):Jy.Slice.slicePlaces (i:Int) (j:Int) 1=j - i:=by
 unfold Jy.Slice.slicePlaces;have h1:(1:Int)>0:=∅;simp only[h1,if_true,Int.ediv_one];split<;>omega
theorem kD {Q:Option Int->JJ->Prop}(p:IsPart v o)(h:Q o s):JN (JP prog w) A (Jy.Slice.slicePartIndex v) Q E s:=by
 cases p with
 |none=>exact slicePart_none h
 |int i t=>exact slicePart_int h
theorem eZ {vl vu:Jx}{lo hi:Option Int}{n:Nat}{Q:Int×Int×Nat->JJ->Prop}(hs:s.heap.IsSliceOf sl vl vu .none)(pl:IsPart vl lo)(pu:IsPart vu hi)
  (h:Q (((sIx n 0 lo:Nat):Int),1,sIx n n hi - sIx n 0 lo) s):JN (JP prog w) A (Jy.Slice.sliceApplied (.ref sl) (pure (n:Int))) Q E s:=by
 obtain⟨os,hos,hcs,hds⟩:=id hs;unfold Jy.Slice.sliceApplied Jy.Slice.sliceFields;refine JR (JR (KE hos hds (x:=vl) rfl (JR (KE hos hds (x:=vu) rfl (JR (KE hos hds (x:=.none) rfl (JX ?_)))))));refine JR (slicePart_none ?_);show JN _ _ (if ((1:Int)==0)=true then _ else _) _ _ s;rw[if_neg ↥_];refine JR (kD pl (JR (kD pu (JR (JX ?_)))));show JN _ _ (match Jy.Slice.sliceAdjust lo hi 1 (n:Int) with|(lo,hi)=>pure (lo,(1:Int),Jy.Slice.slicePlaces lo hi 1)) _ _ s;rw[so lo hi n];show JN _ _ (pure (((sIx n 0 lo:Nat):Int),(1:Int),Jy.Slice.slicePlaces ((sIx n 0 lo:Nat):Int) ((sIx n n hi:Nat):Int) 1)) _ _ s;rw[q0];exact JX h
theorem wD (xs:Array Jx)(i k:Nat):((List.range k).filterMap λ(m:Nat)=>xs[((i:Int)+(m:Int) * 1).toNat]?).toArray=((xs.toList.drop i).take k).toArray:=by
 have e:(λ(m:Nat)=>xs[((i:Int)+(m:Int) * 1).toNat]?)=λm=>xs[i+m]?:=by
  funext m;have:((i:Int)+(m:Int) * 1).toNat=i+m:=∅;rw[this]
 rw[e];have:=pick_run xs i k;rw[List.filterMap_map] at this;have e2:((λx=>xs[x]?)∘λx=>i+x)=λm=>xs[i+m]?:=rfl;rw[e2] at this;rw[this]
theorem getItem_tuple_cut {vl vu:Jx}{lo hi:Option Int}{Q:Jx->JJ->Prop}(ht:IsTup s.heap t items)(hs:s.heap.IsSliceOf sl vl vu .none)(pl:IsPart vl lo)(pu:IsPart vu hi)
  (hw: ¬(sIx items.size 0 lo=0/\sIx items.size items.size hi=items.size))
  (h:Q (.ref ↥s) {s with heap:=s.heap.push {cls:=.type "tuple",data:=.seq ((items.toList.drop (sIx items.size 0 lo)).take (sIx items.size items.size hi - sIx items.size 0 lo)).toArray}})
  (hsz:items.size<=sizeLine):JN (JP prog w) A (getItem (.ref t) (.ref sl)) Q E s:=by
 have htake:sizeOk (.seq ((items.toList.drop (sIx items.size 0 lo)).take (sIx items.size items.size hi - sIx items.size 0 lo)).toArray):=by
  show ((items.toList.drop (sIx items.size 0 lo)).take (sIx items.size items.size hi - sIx items.size 0 lo)).toArray.size<=sizeLine;rw[FP,Gk,GC,Gy];omega
 have hj:sIx items.size items.size hi<=items.size:=Bz _ _ (Fy _) hi;obtain⟨os,hos,hcs,hds⟩:=id hs;have hTs:s.TypeIs (.ref sl) "slice":=⟨os,hos,hcs⟩
 unfold getItem
 try with_reducible refine J1 ?_
 first|refine JR (JX ?_)|skip
 refine JR (wpAny_sequenceKey ht.typeIs ↥_ ?_)
 refine JR (wpAny_callSpecial?_slot (name:=Str.ofString "__getitem__") ht.typeIs PyProof.Rows.slot_tuple_getitem
  (JV PyProof.Rows.slot_tuple_getitem ht.typeIs entry_tuple_getitem ?_ (args_tuple_getitem _ _)))
 show JN _ _ (Jy.Tuple.tupleItemsOf (.ref t)>>=_) _ _ s;refine JR (tupleItemsOf_ ht ?_);refine JR (wpAny_typeOf hTs ?_);rw[if_pos ↥_];refine JR (eZ hs pl pu ?_);have hno: ¬((((sIx items.size 0 lo:Nat):Int)==0 && (1:Int)==1 && (sIx items.size items.size hi - sIx items.size 0 lo)==items.size)=true):=by
  intro q;rw[F7,F7] at q;have q1:((sIx items.size 0 lo:Nat):Int)=0:=eq_of_beq q.1.1;have q2:sIx items.size items.size hi - sIx items.size 0 lo=items.size:=eq_of_beq q.2;exact hw ⟨∅,∅⟩
 show JN _ _ (if (((sIx items.size 0 lo:Nat):Int)==0 && (1:Int)==1 && (sIx items.size items.size hi - sIx items.size 0 lo)==items.size)=true then _ else _) _ _ s;rw[if_neg hno,wD]
 first
  |exact JR (m:=Jy.Tuple.tupleExact _) (KF (JX ⟨_,rfl,JX h⟩) htake)
  |exact JR (m:=Jy.Tuple.tupleExact _) (KF (JR (JX (JX ⟨_,rfl,JX h⟩))) htake)
  |exact JR (JR (m:=Jy.Tuple.tupleExact _) (KF (JX (JX ⟨_,rfl,JX h⟩)) htake))
  |exact JR (JR (m:=Jy.Tuple.tupleExact _) (KF (JX ⟨_,rfl,JX h⟩) htake))
end
end HT
namespace L2
open PySem PySem.Spec PyProof.Rows
noncomputable abbrev TO:=St->Hp->(Option Int->Hp->Prop)->Prop
noncomputable def PO (X:Cx)(e:Option Expr)(t:TO):Prop:=
 ∀ (pins:List (JG×JK)) (s:JJ) (σ:St) (H:Hp) (Q:Option Int->Hp->Prop),Inv X pins σ H s->t σ H Q->
   JN (JP X.prog X.w) X.A (evalPart e X.env) (λu s'=> ∃o H',Inv X pins σ H' s'/\IsPart u o/\Q o H') X.xe s
noncomputable def yX:TO:=λ_ H Q=>Q none H
noncomputable def tPart (t:TE):TO:=λσ H Q=>t σ H λx H1=> ∃i,x=.int i/\Q (some i) H1
section
variable {X:Cx}{e:Expr}{te:TE}{lo hi:Option Expr}{tl th:TO}{pos p2:Kb}
theorem Oy:PO X none yX:=by
 intro pins s σ H Q I h;rw[evalPart_none];exact JX ⟨none,H,I,.none,h⟩
theorem nX (h:PE X e te):PO X (some e) (tPart te):=by
 intro pins s σ H Q I hw;rw[evalPart_some];refine thn (h pins s σ H _ I hw) λu s1 qz=>?_;obtain⟨x,H1,I1,r1,q1⟩:=qz;obtain⟨i,rfl,q⟩:=q1;obtain⟨t,rfl⟩:=r1;exact⟨some i,H1,I1,.int i t,q⟩
noncomputable def SlR (X:Cx)(r:V->Option Int->Option Int->Hp->VK->Prop):Prop:=
 ∀ (pins:List (JG×JK)) (s:JJ) (σ:St) (H:Hp) (x:V) (v vl vu:Jx) (lo hi:Option Int) (sl:JG) (Q:VK),Inv X pins σ H s->RelV x v->s.heap.IsSliceOf sl vl vu .none->IsPart vl lo->IsPart vu hi->r x lo hi H Q->
   ∃T id,typeLookup (.type T) "__getitem__"=pure (some (.builtin id))/\s.TypeIs v T/\JN (JP X.prog X.w) X.A (getItem v (.ref sl)) (EP X pins σ Q) X.xe s
theorem SlR.or {r r':V->Option Int->Option Int->Hp->VK->Prop}(h:SlR X r)(h':SlR X r'):SlR X (λx lo hi H Q=>r x lo hi H Q\/r' x lo hi H Q):=by
 intro pins s σ H x v vl vu lo hi sl Q I rx hs pl pu q;rcases q with q|q
 ·exact h pins s σ H x v vl vu lo hi sl Q I rx hs pl pu q
 ·exact h' pins s σ H x v vl vu lo hi sl Q I rx hs pl pu q
noncomputable def tSl (r:V->Option Int->Option Int->Hp->VK->Prop)(te:TE)(tl th:TO):TE:=λσ H Q=>te σ H λx H1=>tl σ H1 λl H2=>th σ H2 λu H3=>r x l u H3 Q
theorem kQ {r:V->Option Int->Option Int->Hp->VK->Prop}(hr:SlR X r)(he:PE X e te)(hl:PO X lo tl)(hu:PO X hi th):PE X (.Subscript e (.Slice lo hi none p2) pos) (tSl r te tl th):=by
 intro pins s σ H Q I h;refine Subscript_ (thn (he pins s σ H _ I h) λv s1 qz=>?_);obtain⟨x,H1,I1,r1,q1⟩:=qz;refine wpAny_Slice (thn (hl pins s1 σ H1 _ I1 q1) λvl s2 ⟨l,H2,I2,pl,q2⟩=>thn (hu pins s2 σ H2 _ I2 q2) λvu s3 qz=>?_);obtain⟨u,H3,I3,pu,q3⟩:=qz;rw[evalPart_none];refine JX ?_;have I4:Inv X pins σ H3 {s3 with heap:=s3.heap.push {cls:=.type "slice",data:=.fields #[vl,vu,.none]}}:=I3.kept (t':=s3.toks) λb ob q=>FD _ q;obtain⟨T,id,hT,ht,hg⟩:=hr pins {s3 with heap:=s3.heap.push {cls:=.type "slice",data:=.fields #[vl,vu,.none]}} σ H3 x v vl vu l u ↥s3 Q I4 r1 (JD.IsSliceOf.new ..) pl pu q3;show JN (JP X.prog X.w) X.A (subscriptTail e (.Slice lo hi none p2) v (.ref ↥s3)) (EP X pins σ Q) X.xe {s3 with heap:=s3.heap.push {cls:=.type "slice",data:=.fields #[vl,vu,.none]}};exact tail_any (ops:=[.ref ↥s3,v]) ht hT hg (by with_unfolding_all rfl)
noncomputable def LO (xs:List V)(lo hi:Option Int):List V:=(xs.drop (HT.sIx xs.length 0 lo)).take (HT.sIx xs.length xs.length hi - HT.sIx xs.length 0 lo)
theorem jV (xs:List V)(lo hi:Option Int):(LO xs lo hi).length<=xs.length:=by
 unfold LO;rw[Gk,GC];omega
noncomputable def rSlT (K:Zf):V->Option Int->Option Int->Hp->VK->Prop:=λx lo hi H Q=> ∃a xs,x=.ref a/\SqT K H a xs/\
 ¬(HT.sIx xs.length 0 lo=0/\HT.sIx xs.length xs.length hi=xs.length)/\ ∀p,H p=none->Q (.ref p) (upd H p (.tup (LO xs lo hi)))
theorem Pz:SlR X (rSlT X.K):=by
 intro pins s σ H x v vl vu lo hi sl Q I rx hs pl pu h;obtain⟨a,xs,rfl,hx,hw,q⟩:=h;cases rx;obtain⟨its,r,ht,hz⟩:=I.tuple hx;have hlen:its.toArray.size=xs.length:=by rw[FP];exact r.length.symm
 refine⟨"tuple",_,PyProof.Rows.slot_tuple_getitem.lookup,ht.typeIs,?_⟩;refine HT.getItem_tuple_cut ht hs pl pu (by rw[hlen];exact hw) ?_ (by rw[hlen];exact hz);rw[hlen];refine⟨.ref ↥s,_,I.laid (t':=s.toks) (o:=.tup (LO xs lo hi)) (λb ob q=>FD _ q) (Fy _) ?_,rfl,q _ (I.hok.fresh (Fy _))⟩;exact⟨F6 (jV xs lo hi) hz,_,(r.drop (HT.sIx xs.length 0 lo)).take (HT.sIx xs.length xs.length hi - HT.sIx xs.length 0 lo),IsTupD.new _ _⟩
noncomputable def OJ (K:Zf):R2:=λx y H Q=> ∃a b xs ys,x=.ref a/\y=.ref b/\SqT K H a xs/\SqT K H b ys/\xs≠ []/\xs.length+ys.length<=sizeLine/\
 (ys=[]->Q (.ref a) H)/\(ys≠ []-> ∀p,H p=none->Q (.ref p) (upd H p (.tup (xs++ys))))
theorem Vals.nil_iff (r:Vals xs us):us=[]↔xs=[]:=by
 cases r with
 |nil=>simp
 |cons _ _=>simp
theorem N8:OpR X (Kt .Add) (OJ X.K):=by
 intro pins s σ H x y v u Q I rx ry h;obtain⟨a,b,xs,ys,rfl,rfl,ha,hb,hx,hz,q1,q2⟩:=h;cases rx;cases ry;obtain⟨its,r1,p1,_⟩:=I.tuple ha;obtain⟨its2,r2,p2,_⟩:=I.tuple hb;refine HT.cat_tup p1 p2 (λz=>hx (r1.nil_iff.mp z)) (λz=>⟨.ref a,H,I,rfl,q1 (r2.nil_iff.mp z)⟩) (λz=>?_) (by rw[<-r1.length,<-r2.length];exact hz);refine⟨.ref ↥s,_,I.laid (t':=s.toks) (o:=.tup (xs++ys)) (λb ob q=>FD _ q) (Fy _) ?_,rfl,q2 (λw=>z (r2.nil_iff.mpr w)) _ (I.hok.fresh (Fy _))⟩;exact⟨by rw[FE];exact hz,_,r1.append r2,IsTupD.new _ _⟩
end
section
noncomputable def ixN (n:Nat)(i:Int):Option Nat:=if 0<=i then (if i<n then some i.toNat else none) else if -(n:Int)<=i then some (i+n).toNat else none
noncomputable def atI {α:Type}(xs:List α)(i:Int):Option α:=(ixN xs.length i).bind λj=>xs[j]?
theorem tN {n:Nat}{i:Int}{j:Nat}(h:ixN n i=some j):seqIndex? i n=some j/\j<n/\ -(n:Int)<=i/\i<n:=by
 unfold ixN at h;by_cases h0:0<=i
 ·rw[if_pos h0] at h;by_cases h1:i<n
  ·rw[if_pos h1] at h;have e:i.toNat=j:=Option.some.inj h;exact⟨by rw[seqIndex_of h0 h1,e],∅,∅,h1⟩
  ·rw[if_neg h1] at h;cases h
 ·rw[if_neg h0] at h;by_cases h1: -(n:Int)<=i
  ·rw[if_pos h1] at h;have e:(i+n).toNat=j:=Option.some.inj h;exact⟨by rw[seqIndex_neg ∅ h1,e],∅,h1,∅⟩
  ·rw[if_neg h1] at h;cases h
theorem oR {α:Type}{xs:List α}{i:Int}{v:α}(h:atI xs i=some v): ∃j,seqIndex? i xs.length=some j/\xs[j]?=some v/\j<xs.length/\ -(xs.length:Int)<=i/\i<xs.length:=by
 unfold atI at h;cases e:ixN xs.length i with
 |none=>rw[e] at h;cases h
 |some j=>
  rw[e] at h;obtain⟨h1,h2,h3,h4⟩:=tN e;exact⟨j,h1,h,h2,h3,h4⟩
theorem jz {α:Type}{xs:List α}{j:Nat}{v:α}(h:xs[j]?=some v):atI xs (j:Int)=some v:=by
 have hj:j<xs.length:=(FO.mp h).1;have e:ixN xs.length (j:Int)=some j:=by
  unfold ixN;rw[if_pos ∅,if_pos ∅];simp
 unfold atI;rw[e];exact h
theorem yO {α:Type}(xs:List α)(v:α):atI (xs++[v]) (-1)=some v:=by
 have hl:(xs++[v]).length=xs.length+1:=⇑_;have e:ixN (xs++[v]).length (-1)=some xs.length:=by
  unfold ixN;rw[hl,if_neg ↥_,if_pos ∅];congr 1;omega
 unfold atI;rw[e];show (xs++[v])[xs.length]?=some v;simp
noncomputable def kq (b:Expr):Prop:= ∀o i,subscripted b false o i=operate [o,i] (getItem o i)
noncomputable def IxR (X:Cx)(r:R2):Prop:=
 ∀ (value slice:Expr) (pins:List (JG×JK)) (s:JJ) (σ:St) (H:Hp) (x y:V) (v u:Jx) (Q:VK),Inv X pins σ H s->RelV x v->RelV y u->r x y H Q->
   subscripted slice false v u=operate [v,u] (getItem v u)->JN (JP X.prog X.w) X.A (subscriptTail value slice v u) (EP X pins σ Q) X.xe s
noncomputable def MtR (X:Cx)(id:String)(r:V->List V->Hp->VK->Prop):Prop:=
 ∀ (pins:List (JG×JK)) (s:JJ) (σ:St) (H:Hp) (x:V) (xs:List V) (v:Jx) (us:List Jx) (Q:VK),Inv X pins σ H s->RelV x v->Vals xs us->r x xs H Q->
   JN (JP X.prog X.w) X.A (call (.builtin id) (v::us)) (EP X pins σ Q) X.xe s
section
variable {X:Cx}{a b:Expr}{ta tb:TE}{pos:Kb}
theorem IxR.or (h:IxR X r)(h':IxR X r'):IxR X (λx y H Q=>r x y H Q\/r' x y H Q):=by
 intro value slice pins s σ H x y v u Q I rx ry q hs;rcases q with q|q
 ·exact h value slice pins s σ H x y v u Q I rx ry q hs
 ·exact h' value slice pins s σ H x y v u Q I rx ry q hs
theorem pE (hr:IxR X r)(ha:PE X a ta)(hb:PE X b tb)(hs:kq b):PE X (.Subscript a b pos) (tOp r ta tb):=by
 intro pins s σ H Q I h;exact Subscript_ (Lx ha hb I h λv u s2 x y H2 I2 rx ry q=>hr a b pins s2 σ H2 x y v u Q I2 rx ry q (hs _ _))
noncomputable def rIxL (K:Zf):R2:=λx y H Q=> ∃p xs i v,x=.ref p/\y=.int i/\SqL K H p xs/\atI xs i=some v/\Q v H
noncomputable def rIxT (K:Zf):R2:=λx y H Q=> ∃p xs i v,x=.ref p/\y=.int i/\SqT K H p xs/\atI xs i=some v/\Q v H
noncomputable def rIxS:R2:=λx y H Q=> ∃z i c,x=.str z/\y=.int i/\z.length<=sizeLine/\atI z.cps.toList i=some c/\Q (.str ⟨#[c]⟩) H
theorem MK:IxR X (rIxL X.K):=by
 intro value slice pins s σ H x y v u Q I rx ry h hs;obtain⟨p,xs,i,z,rfl,rfl,hq,he,q⟩:=h;cases rx;obtain⟨t,rfl⟩:=ry;obtain⟨its,r,pl,hz⟩:=I.list hq;obtain⟨j,h1,h2,h3,h4,h5⟩:=oR he;obtain⟨w,ew,rw'⟩:=r.get h2;have hl:=r.length;have hn:=hV;have fin:EP X pins σ Q w s:=⟨z,H,I,rw',q⟩
 by_cases h0:0<=i
 ·have hj:i.toNat=j:=by
   rw[seqIndex_of h0 h5] at h1;exact Option.some.inj h1
  exact item_listR pl.isList h0 ∅ (by rw[hj];simpa using ew) fin hs
 ·have hj:(i+(its.toArray.size:Int)).toNat=j:=by
   rw[seqIndex_neg ∅ h4] at h1;rw[FP,<-hl];exact Option.some.inj h1
  exact subscriptTail_builtinR (x:=w) pl.isList.typeIs slot_list_getitem.lookup
   (wpAny_getItem_list_neg (Q:=λr s'=>r=w/\EP X pins σ Q r s') pl.isList ∅ (by rw[FP]<;>omega) ∅ (by rw[hj];simpa using ew) ⟨rfl,fin⟩) hs
theorem MO:IxR X (rIxT X.K):=by
 intro value slice pins s σ H x y v u Q I rx ry h hs;obtain⟨p,xs,i,z,rfl,rfl,hq,he,q⟩:=h;cases rx;obtain⟨t,rfl⟩:=ry;obtain⟨its,r,pl,hz⟩:=I.tuple hq;obtain⟨j,h1,h2,h3,h4,h5⟩:=oR he;obtain⟨w,ew,rw'⟩:=r.get h2;have hl:=r.length;have hn:=hV;have fin:EP X pins σ Q w s:=⟨z,H,I,rw',q⟩
 exact subscriptTail_builtinR (x:=w) pl.typeIs slot_tuple_getitem.lookup
  (getItem_tuple (j:=j) (Q:=λr s'=>r=w/\EP X pins σ Q r s') pl ∅ ∅ (by rw[FP,<-hl];exact h1) (by simpa using ew) ⟨rfl,fin⟩) hs
theorem oy:IxR X rIxS:=by
 intro value slice pins s σ H x y v u Q I rx ry h hs;obtain⟨z,i,c,rfl,rfl,hz,he,q⟩:=h;obtain⟨t,rfl⟩:=rx;obtain⟨t',rfl⟩:=ry;obtain⟨j,h1,h2,h3,h4,h5⟩:=oR he;have hl:z.cps.toList.length=z.length:=by simp [Str.length]
 rw[hl] at h1 h4 h5;have hn:=hV
 exact tail_any (KG s z t) slot_str_getitem.lookup (getItem_str (c:=c) (by
  have e1:decide (i< -(2 ^ 63:Int))=false:=decide_eq_false ∅;have e2:decide (i≥2 ^ 63)=false:=decide_eq_false ∅
  rw[e1,e2,Bool.or_false]) (by rw[h1];simpa using h2) ⟨.str ⟨#[c]⟩,H,I.tok _,⟨_,rfl⟩,q⟩) hs
noncomputable def rIx (K:Zf):R2:=λx y H Q=>rIxL K x y H Q\/rIxT K x y H Q\/rIxS x y H Q
theorem MN:IxR X (rIx X.K):=MK.or (MO.or oy)
theorem rF (its:List Jx)(n j:Nat)(u:Jx):JK.mapSeq (·.setIfInBounds j u) {cls:=.type "list",data:=.seq its.toArray n}={cls:=.type "list",data:=.seq (its.set j u).toArray n}:=by
 simp [JK.mapSeq]
theorem Inv.lst (I:Inv X pins σ H s)(h:H p=some (.lst xs)):
  ∃ (its:List Jx) (n:Nat),Vals xs its/\s.heap.get? p=some {cls:=.type "list",data:=.seq its.toArray n}/\xs.length<=sizeLine:=by
 obtain⟨z,its,n,r,e⟩:=I.hok p _ h;exact⟨its,n,r,e,z⟩
theorem Inv.lstUpd {pins:List (JG×JK)}{σ:St}{H:Hp}{s:JJ}{p:JG}{xs ys:List V}{its its':List Jx}{n n':Nat}{f:JK->JK}(I:Inv X pins σ H s)(h:H p=some (.lst xs))
  (ho:s.heap.get? p=some {cls:=.type "list",data:=.seq its.toArray n})(hf:f {cls:=.type "list",data:=.seq its.toArray n}={cls:=.type "list",data:=.seq its'.toArray n'})(r:Vals ys its')(hz:ys.length<=sizeLine)(t:Nat):
  Inv X pins σ (upd H p (.lst ys)) {s with heap:=s.heap.update p f,toks:=t}:=by
 have e:(s.heap.update p f).get? p=some {cls:=.type "list",data:=.seq its'.toArray n'}:=by
  rw[IV f ho (by rw[hf]<;>rfl),hf]
 refine I.write (x:=p) (e:=p) (by rw[h];trivial) (.inl rfl) (λb u hb q=>(IW _ _ (Ne.symm hb)).trans q) ⟨_,e⟩ ?_;exact⟨hz,its',n',r,e⟩
noncomputable def rSetL:V->V->V->Hp->(Hp->Prop)->Prop:=λo i v H Q=> ∃p xs k j,o=.ref p/\i=.int k/\H p=some (.lst xs)/\ixN xs.length k=some j/\Q (upd H p (.lst (xs.set j v)))
theorem Pq:PSet X rSetL:=by
 intro pins s σ H o i v ov iv u Q I ro ri rv h;obtain⟨p,xs,k,j,rfl,rfl,hp,hj,q⟩:=h;cases ro;obtain⟨t,rfl⟩:=ri;obtain⟨its,n,r,ho,hz⟩:=I.lst hp;obtain⟨h1,h2,h3,h4⟩:=tN hj;have hl:=r.length;have hn:=hV;have I':Inv X pins σ (upd H p (.lst (xs.set j v))) {s with heap:=s.heap.update p (JK.mapSeq (·.setIfInBounds j u))}:=
  I.lstUpd hp ho (rF its n j u) (r.set rv j) (by rw[Go];exact hz) s.toks
 by_cases h0:0<=k
 ·have hk:k.toNat=j:=by
   rw[seqIndex_of h0 h4] at h1;exact Option.some.inj h1
  exact PySem.W.ki_setAt ho h0 ∅ (by rw[FP,<-hl];exact h4) (by rw[hk];exact⟨_,I',q⟩)
 ·have hk:(k+(its.toArray.size:Int)).toNat=j:=by
   rw[seqIndex_neg ∅ h3] at h1;rw[FP,<-hl];exact Option.some.inj h1
  exact PySem.W.ki_setBack ho ∅ (by rw[FP,<-hl];exact h3) ∅ (by rw[hk];exact⟨_,I',q⟩)
theorem nI (lo hi:Option Int)(n:Nat):(KH lo hi none n).1=((HT.sIx n 0 lo:Nat):Int)/\(KH lo hi none n).2.1=((HT.sIx n n hi:Nat):Int)/\(KH lo hi none n).2.2=1:=by
 refine⟨?_,?_,rfl⟩
 ·cases lo with
  |none=>simp [KH,HT.sIx]
  |some i=>
   simp only[KH,HT.sIx,Il,show (1:Int)>0 by decide,if_true];by_cases h:i<0
   ·simp only[h,if_true]<;>omega
   ·simp only[h,if_false]<;>omega
 ·cases hi with
  |none=>simp [KH,HT.sIx]
  |some i=>
   simp only[KH,HT.sIx,Il,show (1:Int)>0 by decide,if_true];by_cases h:i<0
   ·simp only[h,if_true]<;>omega
   ·simp only[h,if_false]<;>omega
theorem l7 (its:List Jx)(lo hi:Option Int):slicePick its.toArray lo hi none=((its.drop (HT.sIx its.length 0 lo)).take (HT.sIx its.length its.length hi - HT.sIx its.length 0 lo)).toArray:=by
 obtain⟨h1,h2,h3⟩:=nI lo hi its.toArray.size;unfold slicePick;rw[h1,h2,h3];simp only[sliceRange_one,pick_run,FP]<;>rfl
noncomputable def rSlL (K:Zf):V->Option Int->Option Int->Hp->VK->Prop:=λx lo hi H Q=> ∃a xs,x=.ref a/\SqL K H a xs/\ ∀p,H p=none->Q (.ref p) (upd H p (.lst (LO xs lo hi)))
theorem y9:SlR X (rSlL X.K):=by
 intro pins s σ H x v vl vu lo hi sl Q I rx hs pl pu h;obtain⟨a,xs,rfl,hx,q⟩:=h;cases rx;obtain⟨its,r,ht,hz⟩:=I.list hx;have hlen:=r.length;refine⟨"list",_,slot_list_getitem.lookup,ht.isList.typeIs,?_⟩;refine wpAny_getItem_list_slice ht.isList hs pl pu .none ⇑_ ?_ (by rw[FP]<;>omega);rw[l7,<-hlen];refine⟨.ref ↥s,_,I.laid (t':=s.toks) (o:=.lst (LO xs lo hi)) (λb ob q=>FD _ q) (Fy _) ?_,rfl,q _ (I.hok.fresh (Fy _))⟩;exact⟨F6 (jV xs lo hi) hz,_,0,(r.drop (HT.sIx xs.length 0 lo)).take (HT.sIx xs.length xs.length hi - HT.sIx xs.length 0 lo),FX _ rfl⟩
noncomputable def Mc:V->Bool
 |.non=>true
 |.bl _=>true
 |.int _=>true
 |.str _=>true
 |_=>false
noncomputable def eqV:V->V->Bool
 |.non,.non=>true
 |.bl a,.bl b=>a==b
 |.bl a,.int b=>(if a then 1 else 0)==b
 |.int a,.bl b=>a==(if b then 1 else 0)
 |.int a,.int b=>a==b
 |.str a,.str b=>a==b
 |_,_=>false
theorem Dk (ry:RelV y u)(rx:RelV x v)(fy:Mc y=true)(fx:Mc x=true):SeqAt.EqAt A s u v (eqV y x):=by
 cases y with
 |non=>
  cases ry;cases x with
  |non=>cases rx;exact SeqAt.EqAt.same _
  |bl b=>cases rx;exact SeqAt.EqAt.none_bool b
  |int b=>obtain⟨t,rfl⟩:=rx;exact SeqAt.EqAt.none_int b t
  |str b=>obtain⟨t,rfl⟩:=rx;exact SeqAt.EqAt.none_str b t
  |_=>exact absurd (show false=true from fx) FU
 |bl a=>
  cases ry;cases x with
  |non=>cases rx;exact SeqAt.EqAt.bool_none a
  |bl b=>cases rx;exact SeqAt.EqAt.bool_bool a b
  |int b=>obtain⟨t,rfl⟩:=rx;exact SeqAt.EqAt.bool_int a b t
  |str b=>obtain⟨t,rfl⟩:=rx;exact SeqAt.EqAt.bool_str a b t
  |_=>exact absurd (show false=true from fx) FU
 |int a=>
  obtain⟨t',rfl⟩:=ry;cases x with
  |non=>cases rx;exact SeqAt.EqAt.int_none a t'
  |bl b=>cases rx;exact SeqAt.EqAt.int_bool a t' b
  |int b=>obtain⟨t,rfl⟩:=rx;exact SeqAt.EqAt.int_int a t' b t
  |str b=>obtain⟨t,rfl⟩:=rx;exact SeqAt.EqAt.int_str a t' b t
  |_=>exact absurd (show false=true from fx) FU
 |str a=>
  obtain⟨t',rfl⟩:=ry;cases x with
  |non=>cases rx;exact SeqAt.EqAt.str_none a t'
  |bl b=>cases rx;exact SeqAt.EqAt.str_bool a t' b
  |int b=>obtain⟨t,rfl⟩:=rx;exact SeqAt.EqAt.str_int a t' b t
  |str b=>obtain⟨t,rfl⟩:=rx;exact SeqAt.EqAt.str_str a t' b t
  |_=>exact absurd (show false=true from fx) FU
 |_=>exact absurd (show false=true from fy) FU
noncomputable def eqU (x:V)(u:Jx):Bool:=match u with
 |.none=>eqV .non x
 |.bool b=>eqV (.bl b) x
 |.int i _=>eqV (.int i) x
 |.str z _=>eqV (.str z) x
 |_=>false
theorem rV (r:RelV y u)(f:Mc y=true):eqU x u=eqV y x:=by
 cases y with
 |non=>cases r;rfl
 |bl b=>cases r;rfl
 |int i=>obtain⟨t,rfl⟩:=r;rfl
 |str z=>obtain⟨t,rfl⟩:=r;rfl
 |_=>exact absurd (show false=true from f) FU
theorem jA : ∀ {xs:List V}{us:List Jx},Vals xs us->xs.all Mc=true->us.any (eqU x)=xs.any λy=>eqV y x
 |_,_,.nil,_=>rfl
 |y::xs,u::us,.cons r t,f=>by
  rw[Hn,F7] at f;rw[GT,GT,rV r f.1,jA t f.2]
theorem fm (rx:RelV x v)(fx:Mc x=true): ∀ {xs:List V}{us:List Jx},Vals xs us->xs.all Mc=true-> ∀u∈us,SeqAt.EqAt A s u v (eqU x u)
 |_,_,.nil,_=>λu hu=>by cases hu
 |y::xs,u::us,.cons r t,f=>λu' hu=>by
  rw[Hn,F7] at f;rcases FC.mp hu with rfl|hu
  ·rw[rV r f.1];exact Dk r rx f.1 fx
  ·exact fm rx fx t f.2 u' hu
noncomputable def inV (x:V)(xs:List V):Bool:=xs.any λy=>eqV y x
noncomputable def rIn (K:Zf)(neg:Bool):R2:=λx y H Q=> ∃p xs,y=.ref p/\(SqL K H p xs\/SqT K H p xs)/\Mc x=true/\xs.all Mc=true/\Q (.bl (if neg then !inV x xs else inV x xs)) H
theorem Oc:OpR X (Kg .In) (rIn X.K false):=by
 intro pins s σ H x y v u Q I rx ry h;obtain⟨p,xs,rfl,hq,fx,fs,q⟩:=h;cases ry;rcases hq with hq|hq
 ·obtain⟨its,r,pl,hz⟩:=I.list hq;refine SeqAt.in_listAt (eqU x) pl.isList (λw hw=>fm rx fx r fs w (by simpa using hw)) ⟨.bl _,H,I,rfl,?_⟩;rw[show its.toArray.any (eqU x)=its.any (eqU x) by simp,jA r fs];exact q
 ·obtain⟨its,r,pl,hz⟩:=I.tuple hq;refine SeqAt.in_tupleAt (eqU x) pl (λw hw=>fm rx fx r fs w (by simpa using hw)) ⟨.bl _,H,I,rfl,?_⟩;rw[show its.toArray.any (eqU x)=its.any (eqU x) by simp,jA r fs];exact q
theorem Oh:OpR X (Kg .NotIn) (rIn X.K true):=by
 intro pins s σ H x y v u Q I rx ry h;obtain⟨p,xs,rfl,hq,fx,fs,q⟩:=h;cases ry;rcases hq with hq|hq
 ·obtain⟨its,r,pl,hz⟩:=I.list hq;refine SeqAt.notIn_listAt (eqU x) pl.isList (λw hw=>fm rx fx r fs w (by simpa using hw)) ⟨.bl _,H,I,rfl,?_⟩;rw[show its.toArray.any (eqU x)=its.any (eqU x) by simp,jA r fs];exact q
 ·obtain⟨its,r,pl,hz⟩:=I.tuple hq;refine SeqAt.notIn_tupleAt (eqU x) pl (λw hw=>fm rx fx r fs w (by simpa using hw)) ⟨.bl _,H,I,rfl,?_⟩;rw[show its.toArray.any (eqU x)=its.any (eqU x) by simp,jA r fs];exact q
theorem Oi:OpR X (Kg .NotIn) (λx y H Q=> ∃i j,x=.str i/\y=.str j/\Q (.bl (!(!(Jy.Str.occurrences j i 0 j.length 1).isEmpty))) H):=by
 intro pins s σ H x y v u Q I rx ry h;obtain⟨i,j,rfl,rfl,q⟩:=h;obtain⟨t,rfl⟩:=rx;obtain⟨t',rfl⟩:=ry;exact notIn_str ⟨.bl _,H,I,rfl,q⟩
theorem oP:CallR X (.builtin "len") (λxs H Q=> ∃p ys,xs=[.ref p]/\(SqL X.K H p ys\/SqT X.K H p ys)/\Q (.int ys.length) H):=by
 intro pins s σ H xs us Q I r h;obtain⟨p,ys,rfl,hq,q⟩:=h;obtain⟨u,rfl,rx⟩:=Ql r;cases rx;have hn:=hV;rcases hq with hq|hq
 ·obtain⟨its,r',pl,hz⟩:=I.list hq;have hlen:=r'.length;exact Calls.call_len_list pl.isList (by simp only[FP]<;>omega) ⟨.int ys.length,H,I.tok _,⟨s.toks+1,by rw[FP,hlen]⟩,q⟩
 ·obtain⟨its,r',pl,hz⟩:=I.tuple hq;have hlen:=r'.length;exact len_tuple pl (by simp only[FP]<;>omega) ⟨.int ys.length,H,I.tok _,⟨s.toks+1,by rw[FP,hlen]⟩,q⟩
theorem LF:CallR X (.builtin "len") (λxs H Q=> ∃z,xs=[.str z]/\z.length<=sizeLine/\Q (.int z.length) H):=by
 intro pins s σ H xs us Q I r h;obtain⟨z,rfl,hz,q⟩:=h;obtain⟨u,rfl,t,rfl⟩:=Ql r;have hn:=hV;exact len_str ∅ ⟨.int z.length,H,I.tok _,⟨_,rfl⟩,q⟩
theorem CallR.or {r r':List V->Hp->VK->Prop}(h:CallR X f r)(h':CallR X f r'):CallR X f (λxs H Q=>r xs H Q\/r' xs H Q):=by
 intro pins s σ H xs us Q I rs q;rcases q with q|q
 ·exact h pins s σ H xs us Q I rs q
 ·exact h' pins s σ H xs us Q I rs q
theorem oO:CallR X (.type "list") (λxs H Q=> ∃p ys,xs=[.ref p]/\(SqL X.K H p ys\/SqT X.K H p ys)/\ ∀l,H l=none->Q (.ref l) (upd H l (.lst ys))):=by
 intro pins s σ H xs us Q I r h;obtain⟨p,ys,rfl,hq,q⟩:=h;obtain⟨u,rfl,rx⟩:=Ql r;cases rx;have fin: ∀ (its:List Jx),Vals ys its->ys.length<=sizeLine-> ∀ (h':JD) (c':Nat),(∀b o',s.heap.get? b=some o'->h'.get? b=some o')->
   h'.get? ↥s=some {cls:=.type "list",dict:=none,data:=.seq its.toArray c',slots:= #[]}->EP X pins σ Q (.ref ↥s) {s with heap:=h'}:=λits r' hz h' c' kp e=>
  ⟨.ref ↥s,_,I.laid (t':=s.toks) kp (Fy _) (show ObjOk X.prog X.w _ h' _ (.lst ys) from⟨hz,its,c',r',e⟩),rfl,q _ (I.hok.fresh (Fy _))⟩
 rcases hq with hq|hq
 ·obtain⟨its,r',pl,hz⟩:=I.list hq;have hlen:=r'.length;obtain⟨o,ho,hc,n,hd⟩:=pl.isList;exact call_list_seq p (.inl rfl) ho hc hd (λh' c' kp e=>fin its r' hz h' c' kp e) (by simp only[FP]<;>omega)
 ·obtain⟨its,r',pl,hz⟩:=I.tuple hq;have hlen:=r'.length;obtain⟨o,ho,hc,n,hd⟩:=pl;exact call_list_seq p (.inr rfl) ho hc hd (λh' c' kp e=>fin its r' hz h' c' kp e) (by simp only[FP]<;>omega)
theorem mj:CallR X (.type "tuple") (λxs H Q=> ∃p ys,xs=[.ref p]/\((SqL X.K H p ys/\ ∀l,H l=none->Q (.ref l) (upd H l (.tup ys)))\/(SqT X.K H p ys/\Q (.ref p) H))):=by
 intro pins s σ H xs us Q I r h;obtain⟨p,ys,rfl,h⟩:=h;obtain⟨u,rfl,rx⟩:=Ql r;cases rx;rcases h with⟨hq,q⟩|⟨hq,q⟩
 ·obtain⟨its,r',pl,hz⟩:=I.list hq;have hlen:=r'.length;refine call_tuple_list pl.isList (λh' kp=>?_) (by simp only[FP]<;>omega);have I1:Inv X pins σ H {s with heap:=h'}:=I.kept (t':=s.toks) kp;have I2:Inv X pins σ (upd H h'.objs.size (.tup ys)) {s with heap:=h'.push {cls:=.type "tuple",data:=.seq its.toArray}}:=
   I1.laid (t':=s.toks) (λb o e=>FD _ e) (Fy _) (show ObjOk X.prog X.w _ _ _ (.tup ys) from⟨hz,its,r',IsTupD.new _ _⟩)
  exact⟨.ref h'.objs.size,_,I2,rfl,q _ (I1.hok.fresh (Fy _))⟩
 ·obtain⟨its,r',pl,hz⟩:=I.tuple hq;exact call_tuple_same pl ⟨.ref p,H,I,rfl,q⟩
noncomputable def tyV (K:Zf)(T:String)(x:V)(H:Hp):Prop:=match x with
 |.str _=>T= "str"
 |.int _=>T= "int"
 |.ref p=>(T= "list"/\ ∃xs,SqL K H p xs)\/(T= "tuple"/\ ∃o,K.lookup p=some o/\o.cls=.type "tuple"/\o.dict=none)\/
  (T= "dict"/\((∃kvs,H p=some (.dK kvs))\/ ∃kvs,H p=some (.dT kvs)))\/(T= "set"/\ ∃S n,H p=some (.set S n))
 |_=>False
theorem Bb (I:Inv X pins σ H s)(r:RelV x v)(ty:tyV X.K T x H):
  s.TypeIs v T/\ ∀a,v=.ref a-> ∃ob,s.heap.get? a=some ob/\ob.dict=none:=by
 cases x with
 |str z=>
  obtain⟨t,rfl⟩:=r;cases (show T= "str" from ty);exact⟨KG s z t,λ_ e=>nomatch e⟩
 |int i=>
  obtain⟨t,rfl⟩:=r;cases (show T= "int" from ty);exact⟨typeIs_int s i t,λ_ e=>nomatch e⟩
 |ref p=>
  cases r;rcases ty with⟨rfl,xs,hq⟩|⟨rfl,o,hk,hc,hd⟩|⟨rfl,hk⟩|⟨rfl,S,n,hk⟩
  ·obtain⟨its,_,pl,_⟩:=I.list hq;refine⟨pl.isList.typeIs,λa e=>?_⟩;cases e;obtain⟨o,n,e,c,hd,_⟩:=pl;exact⟨o,e,hd⟩
  ·refine⟨⟨o,I.kIn p o hk,hc⟩,λa e=>?_⟩;cases e;exact⟨o,I.kIn _ o hk,hd⟩
  ·have z: ∃o,s.heap.get? p=some o/\o.ExactDict:=by
    rcases hk with⟨kvs,hk⟩|⟨kvs,hk⟩
    ·obtain⟨_,_,_,_,o,_,_,e,ex,_⟩:=I.hok p _ hk;exact⟨o,e,ex⟩
    ·obtain⟨_,_,_,_,o,_,_,e,ex,_⟩:=I.hok p _ hk;exact⟨o,e,ex⟩
   obtain⟨o,e,ex⟩:=z;refine⟨⟨o,e,ex.1⟩,λa e2=>?_⟩;cases e2;exact⟨o,e,ex.2.1⟩
  ·obtain⟨o,_,_,_,e,ex,_⟩:=I.hok p _ hk;refine⟨⟨o,e,ex.1⟩,λa e2=>?_⟩;cases e2;exact⟨o,e,ex.2.1⟩
 |_=>exact False.elim ty
noncomputable def tBM (K:Zf)(T:String)(r:V->List V->Hp->VK->Prop)(to:TE)(t:TA):TE:=λσ H Q=>to σ H λx H1=>tyV K T x H1/\t σ H1 λxs H2=>r x xs H2 Q
variable {o e:Expr}{es:List Expr}{to:TE}{t:TA}{name:Str}{apos cpos:Kb}{T id:String}{r:V->List V->Hp->VK->Prop}
theorem sV (pa:PlainAttrs T)(slot:Slot T name id)(hty:typeOf (.builtin id)=pure (.type "method_descriptor"))(hm:MtR X id r)(ho:PE X o to)(ha:PA X (e::es) t)
  (hbase:Kv o name X.env (Ka o X.env)=Ka o X.env:=by rfl)
  (hfew:((Kc cpos (Kd (e::es) X.env)).all (λx=>!x.1) && (Kw cpos (Kx [] X.env)).all (λx=>x.1.isSome)
   && decide ((e::es).length+([]:List KB).length+(if ([]:List KB).isEmpty then 0 else 1)<30))=true:=by rfl)
  (hline:(apos.endLine==cpos.line)=true:=by rfl)(hs:Kd (e::es) X.env=(false,Ka e X.env)::Kd es X.env:=by rfl)(hplain:(Kc cpos (Kd es X.env)).any (·.1)=false:=by rfl):
  PE X (.Call (.Attribute o name apos) (e::es) [] cpos) (tBM X.K T r to t):=by
 intro pins s σ H Q I h;refine wpAny_Call_method_late hbase hfew hline rfl (thn (ho pins s σ H _ I h) λv s1 qz=>?_);obtain⟨x,H1,I1,r1,ty,q1⟩:=qz;obtain⟨h1,h2⟩:=Bb I1 r1 ty;refine⟨T,id,pa,slot,hty,h1,h2,?_⟩;have hA:=ha cpos pins s1 σ H1 _ I1 q1;rw[hs] at hA ⊢;refine Calls.callWith_builtin (by show (false||(Kc cpos (Kd es X.env)).any (·.1))=false;rw[hplain]<;>rfl) (Calls.evalArgs_plain ?_);exact thn hA λus s2 ⟨vs,H2,I2,r2,q2⟩=>hm pins s2 σ H2 x vs v us Q I2 r1 r2 q2
end
end
section
noncomputable def MtM (X:Cx)(id:String)(r:V->List V->Hp->VK->Prop):Prop:=
 ∀ (pins:List (JG×JK)) (s:JJ) (σ:St) (H:Hp) (x:V) (xs:List V) (v:Jx) (us:List Jx) (Q:VK),Inv X pins σ H s->RelV x v->Vals xs us->r x xs H Q->
   JN (JP X.prog X.w) X.A (call (.builtin id) (v::us)) (EP X pins σ Q) X.xe s
theorem Vals.one: ∀ {x:V}{us:List Jx},Vals [x] us-> ∃u,us=[u]/\RelV x u
 :=by
 intro x us h;cases h with
 |cons r q=>cases q;exact⟨_,rfl,r⟩
theorem Vals.two: ∀ {x y:V}{us:List Jx},Vals [x,y] us-> ∃u v,us=[u,v]/\RelV x u/\RelV y v
 :=by
 intro x y us h;cases h with
 |cons r q=>
  cases q with
  |cons q z=>cases z;exact⟨_,_,rfl,r,q⟩
theorem Vals.reverse (h:Vals xs us):Vals xs.reverse us.reverse:=by
 induction h with
 |nil=>exact .nil
 |cons r t ih=>rw[HB,HB];exact Vals.append ih (.cons r .nil)
theorem Vals.rep (h:Vals xs us): ∀k:Nat,Vals (List.replicate k xs).flatten (List.replicate k us).flatten
 |0=>.nil
 |k+1=>by
  rw[G4,G4,G9,G9];exact Vals.append h (Vals.rep h k)
theorem ni (its:List Jx): ∀ (k:Nat) (acc:List Jx),
  Im (λx1 x2=>x1++x2) acc.toArray (List.replicate k its.toArray)=(acc++(List.replicate k its).flatten).toArray
 |0,acc=>⇑_
 |k+1,acc=>by
  have e:acc.toArray++its.toArray=(acc++its).toArray:=⇑_;have e2:(acc++its)++(List.replicate k its).flatten=acc++(List.replicate (k+1) its).flatten:=by
   rw[G4,G9,Gb]
  rw[<-e2,<-ni its k (acc++its),<-e,G4,Io]
section
variable {X:Cx}{pins:List (JG×JK)}{σ:St}{H:Hp}{s:JJ}{l:JG}{xs ys:List V}
theorem Inv.lset {its its':List Jx}{n:Nat}{f:Array Jx->Array Jx}{t':Nat}(I:Inv X pins σ H s)(hH:H l=some (.lst xs))
  (e:s.heap.get? l=some {cls:=.type "list",data:=.seq its.toArray n})(hf:f its.toArray=its'.toArray)(hv:Vals ys its')(hz:ys.length<=sizeLine):
  Inv X pins σ (upd H l (.lst ys)) {s with heap:=s.heap.update l (JK.mapSeq f),toks:=t'}:=by
 have q:=PySem.IsL.update e f;rw[hf] at q;refine I.write (x:=l) (e:=l) (by rw[hH];exact trivial) (.inl rfl) (λb' u hb hu=>(IW s.heap (JK.mapSeq f) (Ne.symm hb)).trans hu) ⟨_,q⟩ ?_;exact⟨hz,its',_,hv,q⟩
theorem Inv.lnew {t':Nat}(I:Inv X pins σ H s)(hv:Vals ys its)(hz:ys.length<=sizeLine):
  Inv X pins σ (upd H ↥s (.lst ys)) {s with heap:=s.heap.push {cls:=.type "list",data:=.seq its.toArray},toks:=t'}:=
 I.laid (λ_ _ q=>FD _ q) (Fy _) ⟨hz,its,0,hv,FX _ rfl⟩
theorem Inv.fresh (I:Inv X pins σ H s):H ↥s=none:=I.hok.fresh (Fy _)
theorem Inv.lstM (I:Inv X pins σ H s)(hH:H l=some (.lst xs)):xs.length<=sizeLine/\ ∃ (its:List Jx) (n:Nat),Vals xs its/\xs.length=its.length/\s.heap.get? l=some {cls:=.type "list",data:=.seq its.toArray n}:=by
 obtain⟨z,its,n,r,e⟩:=I.hok l _ hH;exact⟨z,its,n,r,r.length,e⟩
theorem pK {n:Nat}(h:n<=sizeLine):Jy.List.listTooLong n=false:=by
 unfold Jy.List.listTooLong;exact decide_eq_false ∅
end
section
variable {X:Cx}
noncomputable def zp:V->List V->Hp->VK->Prop:=λx vs H Q=> ∃l xs y,x=.ref l/\vs=[y]/\H l=some (.lst xs)/\xs.length<sizeLine/\Q .non (upd H l (.lst (xs++[y])))
theorem uO:MtM X "list.append" zp:=by
 intro pins s σ H x vs v us Q I rx rv h;obtain⟨l,xs,y,rfl,rfl,hH,hz,q⟩:=h;cases rx;obtain⟨u,rfl,ru⟩:=rv.one;obtain⟨z,its,n,r,hl,e⟩:=I.lstM hH;refine KI F.slot_list_append ⟨_,e,rfl⟩ F.entry_list_append (F.args_list_append_2 _ _) (PySem.list_append l its.toArray n u (by rw[FP];omega)) ⟨e,?_⟩;refine⟨.non,_,I.lset (its':=its++[u]) hH e ⇑_ (r.append (.cons ru .nil)) ?_,rfl,q⟩;rw[FE,Gc];omega
noncomputable def zo:V->List V->Hp->VK->Prop:=λx vs H Q=> ∃l b xs zs,x=.ref l/\vs=[.ref b]/\H l=some (.lst xs)/\H b=some (.lst zs)/\xs.length+zs.length<=sizeLine/\Q .non (upd H l (.lst (xs++zs)))
theorem DJ:MtM X "list.extend" zo:=by
 intro pins s σ H x vs v us Q I rx rv h;obtain⟨l,b,xs,zs,rfl,rfl,hH,hB,hz,q⟩:=h;cases rx;obtain⟨u,rfl,ru⟩:=rv.one;cases ru;obtain⟨z,its,n,r,hl,e⟩:=I.lstM hH;obtain⟨z2,its2,n2,r2,hl2,e2⟩:=I.lstM hB;have hsz:its.toArray.size+its2.toArray.size<=sizeLine:=by rw[FP,FP];omega
 have hlong: ¬(!its.toArray.isEmpty && Jy.List.listTooLong (its.toArray.size+its2.toArray.size))=true:=by
  rw[pK hsz,Bool.and_false];exact FU
 refine KI F.slot_list_extend ⟨_,e,rfl⟩ F.entry_list_extend (F.args_list_extend_2 _ _)
  (AutoSeq1.list_extend_list_list_0 l its.toArray n b its2.toArray n2 hlong (by rw[FP];omega) ∅) ⟨e,e2,?_⟩
 refine⟨.non,_,I.lset (its':=its++its2) hH e ⇑_ (r.append r2) ?_,rfl,q⟩;rw[FE];omega
noncomputable def rCat:R2:=λx y H Q=> ∃l b xs zs,x=.ref l/\y=.ref b/\H l=some (.lst xs)/\H b=some (.lst zs)/\xs.length+zs.length<=sizeLine/\ ∀p,H p=none->Q (.ref p) (upd H p (.lst (xs++zs)))
theorem wW:OpR X (Kt .Add) rCat:=by
 intro pins s σ H x y v u Q I rx ry h;obtain⟨l,b,xs,zs,rfl,rfl,hH,hB,hz,q⟩:=h;cases rx;cases ry;obtain⟨z,its,n,r,hl,e⟩:=I.lstM hH;obtain⟨z2,its2,n2,r2,hl2,e2⟩:=I.lstM hB;refine PySem.P.add_list e e2 ?_ (by rw[FP,FP];omega);have ea:its.toArray++its2.toArray=(its++its2).toArray:=⇑_;rw[ea];exact⟨.ref _,_,I.lnew (t':=s.toks) (r.append r2) (by rw[FE];omega),rfl,q _ I.fresh⟩
noncomputable def rRep:R2:=λx y H Q=> ∃l k xs,x=.ref l/\y=.int k/\H l=some (.lst xs)/\ -(2 ^ 63)<=k/\k<2 ^ 63/\xs.length * k.toNat<=sizeLine/\
 ∀p,H p=none->Q (.ref p) (upd H p (.lst (List.replicate k.toNat xs).flatten))
theorem Ak {α:Type}(xs:List α)(k:Nat):(List.replicate k xs).flatten.length=k * xs.length:=by
 induction k with
 |zero=>simp
 |succ k ih=>rw[G4,G9,FE,ih,Nat.succ_mul,Hh]
theorem B2:OpR X (Kt .Mult) rRep:=by
 intro pins s σ H x y v u Q I rx ry h;obtain⟨l,k,xs,rfl,rfl,hH,h1,h2,hz,q⟩:=h;cases rx;obtain⟨t,rfl⟩:=ry;obtain⟨z,its,n,r,hl,e⟩:=I.lstM hH;have hlen:its.toArray.size * k.toNat<=sizeLine:=by rw[FP,<-hl];exact hz
 have hcap: ¬its.toArray.size * k.toNat>(2 ^ 63 - 1) / 8:=by
  have:(sizeLine:Nat)<=(2 ^ 63 - 1) / 8:=↥_;omega
 have hfit: ¬(!Jy.List.listFitsIndex k)=true:=by
  rw[fitsIndex_both h1 h2];exact FU
 have hlong: ¬Jy.List.listTooLong (its.toArray.size * k.toNat)=true:=by
  rw[pK hlen];exact FU
 have hnew:Im (λx1 x2=>x1++x2) #[] (List.replicate (if its.toArray.isEmpty=true then 0 else k.toNat) its.toArray)=(List.replicate k.toNat its).flatten.toArray:=by
  have f0: ∀m:Nat,Im (λx1 x2=>x1++x2) #[] (List.replicate m its.toArray)=(List.replicate m its).flatten.toArray:=λm=>by
   have:=ni its m [];rw[Gj] at this;exact this
  rw[f0];cases its with
  |nil=>simp
  |cons a r'=>rw[if_neg ⇑_]
 refine wpAny_binaryOp_repeat_ref (T:= "list") (U:= "int") ↥_ ⟨_,e,rfl⟩ (λs'=>typeIs_int s' k t) noFill_list_mul F.fills_int_mul F.slot_int_rmul repeat_list F.slot_int_index.lookup
  (KI F.slot_int_rmul (typeIs_int s k t) F.entry_int_rmul (F.args_int_rmul_2 _ _) (int___rmul___int_list k t l its.toArray n)
   ⟨e,rfl,⟨_,e,rfl⟩,KI F.slot_list_mul ⟨_,e,rfl⟩ F.entry_list_mul (F.args_list_mul_2 _ _) (AutoListH.list___mul___list_int_3 l its.toArray n k t hfit hcap hlong) ⟨e,?_⟩⟩)
 rw[hnew];exact⟨.ref _,_,I.lnew (t':=s.toks) (r.rep k.toNat) (by rw[Ak,Nat.mul_comm];exact hz),rfl,q _ I.fresh⟩
end
end
section
section
variable {κ:Type} [DecidableEq κ]
noncomputable def Qk (kvs:List (κ×V))(k:κ):Option V:=(kvs.find? λkv=>decide (kv.1=k)).map (·.2)
noncomputable def OG (kvs:List (κ×V))(k:κ)(v:V):List (κ×V):=
 if (kvs.any λkv=>decide (kv.1=k))=true then kvs.map (λkv=>if kv.1=k then (kv.1,v) else kv) else kvs++[(k,v)]
theorem iY {p:κ×V}{r:List (κ×V)}{k:κ}(e:p.1=k):Qk (p::r) k=some p.2:=by simp [Qk,GU,e]
theorem iZ {p:κ×V}{r:List (κ×V)}{k:κ}(e:¬p.1=k):Qk (p::r) k=Qk r k:=by simp [Qk,GU,e]
theorem kz (k:κ): ∀kvs:List (κ×V),(kvs.any λkv=>decide (kv.1=k))=(Qk kvs k).isSome
 |[]=>rfl
 |p::r=>by
  rw[GT];by_cases e:p.1=k
  ·simp only[iY e,decide_eq_true e,Bool.true_or,Option.isSome_some]
  ·rw[iZ e,decide_eq_false e,HC];exact kz k r
theorem hW (kvs:List (κ×V))(k:κ)(v:V):(OG kvs k v).length<=kvs.length+1:=by
 unfold OG;split
 ·rw[Fx];omega
 ·rw[FE,FH,G3];omega
theorem RelO.isSome_eq (r:RelO o u):o.isSome=u.isSome:=by
 cases o with
 |none=>cases u with
  |none=>rfl
  |some _=>exact (show False from r).elim
 |some _=>cases u with
  |none=>exact (show False from r).elim
  |some _=>rfl
theorem RelO.getD (r:RelO o u)(rd:RelV d d'):RelV (o.getD d) (u.getD d'):=by
 cases o with
 |none=>cases u with
  |none=>exact rd
  |some _=>exact (show False from r).elim
 |some _=>cases u with
  |none=>exact (show False from r).elim
  |some _=>exact r
theorem KV.val (r:KV kvs vs)(k:κ):RelO (Qk kvs k) (valueAt vs k):=by
 unfold KV at r
 induction r with
 |nil=>exact True.intro
 | @cons p q ps qs h t ih=>
   obtain⟨h1,h2⟩:=h;by_cases e:p.1=k
   ·have e':q.1=k:=h1.symm.trans e;have b:valueAt (q::qs) k=some q.2:=by simp [valueAt,GU,e']
    rw[iY e,b];exact h2
   ·have e': ¬q.1=k:=λz=>e (h1.trans z);have b:valueAt (q::qs) k=valueAt qs k:=by simp [valueAt,GU,e']
    rw[iZ e,b];exact ih
theorem KV.any (r:KV kvs vs)(k:κ):(kvs.any λkv=>decide (kv.1=k))=vs.any λkv=>decide (kv.1=k):=by
 unfold KV at r
 induction r with
 |nil=>rfl
 |cons h t ih=>rw[GT,GT,ih,h.1]
theorem KV.repl (r:KV kvs vs)(k:κ)(ry:RelV y u):
  KV (kvs.map λkv=>if kv.1=k then (kv.1,y) else kv) (vs.map λkv=>if kv.1=k then (kv.1,u) else kv):=by
 unfold KV at r ⊢
 induction r with
 |nil=>exact .nil
 | @cons p q ps qs h t ih=>
   rw[FK,FK];refine .cons ?_ ih;obtain⟨h1,h2⟩:=h;by_cases e:p.1=k
   ·rw[if_pos e,if_pos (h1.symm.trans e)];exact⟨h1,ry⟩
   ·rw[if_neg e,if_neg (λz=>e (h1.trans z))];exact⟨h1,h2⟩
theorem KV.put (r:KV kvs vs)(k:κ)(ry:RelV y u):KV (OG kvs k y) (stored vs k u):=by
 unfold OG stored;rw[r.any k];by_cases e:(vs.any λkv=>decide (kv.1=k))=true
 ·rw[if_pos e,if_pos e];exact r.repl k ry
 ·rw[if_neg e,if_neg e];exact Paired.snoc r ⟨rfl,ry⟩
theorem KV.length (r:KV kvs vs):kvs.length=vs.length:=Paired.length r
end
theorem pU {w:JC}(r:RelV (kV k) u):(bX P w).is k u=true:=by
 cases k with
 |inl i=>obtain⟨t,e⟩:=(show∃t,u=Jx.int i t from r);subst e;exact pN P w i t
 |inr x=>obtain⟨t,e⟩:=(show∃t,u=Jx.str x t from r);subst e;exact pM P w x t
theorem jK {w:JC}: ∀ {ks:List Key}{us:List Jx},Vals (ks.map kV) us->ItemsAre (bX P w) ks us
 |[],_,r=>by rw[Ge] at r;cases r;exact .nil
 |k::ks,_,r=>by
  rw[FK] at r;cases r with
  |cons h t=>exact .cons (pU h) (jK t)
noncomputable abbrev KT (H:Hp):List (List Key×V)->List (List Key×JG×Jx)->Prop:=Paired λp q=>p.1=q.1/\H q.2.1=some (.tup (p.1.map kV))/\RelV p.2 q.2.2
theorem KT.val (r:KT H kvs xs)(k:List Key):RelO (Qk kvs k) ((KJ xs k).map (·.2)):=by
 induction r with
 |nil=>exact True.intro
 | @cons p q ps qs h t ih=>
   obtain⟨h1,_,h2⟩:=h;by_cases e:p.1=k
   ·have e':q.1=k:=h1.symm.trans e;have b:KJ (q::qs) k=some q.2:=by simp [KJ,GU,e']
    rw[iY e,b];exact h2
   ·have e': ¬q.1=k:=λz=>e (h1.trans z);have b:KJ (q::qs) k=KJ qs k:=by simp [KJ,GU,e']
    rw[iZ e,b];exact ih
theorem KT.repl (r:KT H kvs xs)(k:List Key)(ry:RelV y u):
  KT H (kvs.map λkv=>if kv.1=k then (kv.1,y) else kv) (xs.map (putAt k u)):=by
 induction r with
 |nil=>exact .nil
 | @cons p q ps qs h t ih=>
   rw[FK,FK];refine .cons ?_ ih;obtain⟨h1,h2,h3⟩:=h;unfold putAt;by_cases e:p.1=k
   ·rw[if_pos e,if_pos (h1.symm.trans e)];exact⟨h1,h2,ry⟩
   ·rw[if_neg e,if_neg (λz=>e (h1.trans z))];exact⟨h1,h2,h3⟩
theorem KT.put (r:KT H kvs xs)(k:List Key)(hb:H b=some (.tup (k.map kV)))(ry:RelV y u):
  KT H (OG kvs k y) (storedH xs k b u):=by
 have e:(kvs.any λkv=>decide (kv.1=k))=(KJ xs k).isSome:=by
  rw[kz,(r.val k).isSome_eq,GJ]
 unfold OG storedH;rw[e];by_cases q:(KJ xs k).isSome=true
 ·rw[if_pos q,if_pos q];exact r.repl k ry
 ·rw[if_neg q,if_neg q];exact Paired.snoc r ⟨rfl,hb,ry⟩
theorem KT.keeps (r:KT H kvs xs)(ht: ∀b ys,H b=some (.tup ys)->H' b=some (.tup ys)):KT H' kvs xs:=
 Paired.mapP r λ_ _ z=>⟨z.1,ht _ _ z.2.1,z.2.2⟩
section
variable {P:JB}{w:JC}{H:Hp}{h:JD}{a:JG}
theorem AT (ok:HOk P w H h)(e:Rd H a u):ObjOk P w H h a u:=e.ok ok
theorem nk (ok:HOk P w H h)(e:Rd H a (.dK kvs)):kvs.length<=sizeLine/\(a==J4)=false/\ ∃vs,KV kvs vs/\h.DictOf (bX P w) a vs:=
 show ObjOk P w H h a (.dK kvs) from AT ok e
theorem ES (ok:HOk P w H h)(e:H a=some (.dK kvs)):kvs.length<=sizeLine/\(a==J4)=false/\ ∃vs,KV kvs vs/\h.DictOf (bX P w) a vs:=nk ok (.inl e)
theorem lq (ok:HOk P w H h)(e:H a=some (.tup (ks.map kV))):(J5 (bX P w)).is h ks a:=by
 obtain⟨_,its,r,⟨o,h1,h2,n,h3⟩,_⟩:=(show ObjOk P w H h a (.tup (ks.map kV)) from ok a _ e)
 exact⟨o,its.toArray,n,h1,h2,h3,by simpa using jK r⟩
theorem lJ (ok:HOk P w H h)(e:Rd H a (.dT kvs)):kvs.length<=sizeLine/\(a==J4)=false/\
  ∃xs,KT H kvs xs/\h.DictOfH (J5 (bX P w)) a xs:=by
 obtain⟨z,y,xs,r,o,es,ep,h1,h2,h3,h4,h5⟩:=(show ObjOk P w H h a (.dT kvs) from AT ok e)
 refine⟨z,y,xs,r,o,es,ep,h1,h2,h3,h4,λx hx=>?_,h5⟩;have all: ∀ {l:List (List Key×V)}{m:List (List Key×JG×Jx)},KT H l m-> ∀x∈m,(J5 (bX P w)).is h x.1 x.2.1:=by
  intro l m q
  induction q with
  |nil=>intro x hx;exact nomatch hx
  | @cons p q ps qs hq t ih=>
    intro x hx;rcases FC.mp hx with e|hx
    ·subst e;exact lq ok (by rw[<-hq.1];exact hq.2.1)
    ·exact ih x hx
 exact all r x hx
theorem ER (ok:HOk P w H h)(e:H a=some (.dT kvs)):kvs.length<=sizeLine/\(a==J4)=false/\
 ∃xs,KT H kvs xs/\h.DictOfH (J5 (bX P w)) a xs:=lJ ok (.inl e)
end
noncomputable def K6 (H:Hp)(a:JG)(y:V)(r:Option V):Prop:=
 (∃kvs k,Rd H a (.dK kvs)/\y=kV k/\r=Qk kvs k)\/ ∃kvs k b,Rd H a (.dT kvs)/\y=.ref b/\H b=some (.tup (k.map kV))/\r=Qk kvs k
noncomputable def DPut (H:Hp)(a:JG)(y v:V)(H':Hp):Prop:=
 (∃kvs k,H a=some (.dK kvs)/\y=kV k/\kvs.length<sizeLine/\H'=upd H a (.dK (OG kvs k v)))\/
 ∃kvs k b,H a=some (.dT kvs)/\y=.ref b/\H b=some (.tup (k.map kV))/\kvs.length<sizeLine/\H'=upd H a (.dT (OG kvs k v))
section
variable {X:Cx}{pins:List (JG×JK)}{σ:St}{H:Hp}{s:JJ}{a:JG}{y v:V}{u r:Jx}{o:Option V}{A:JL}{E:Jx->JJ->Prop}
theorem Inv.big (I:Inv X pins σ H s):J4<↥s:=by
 have h:J6<↥s:=(I.mod.glob.keeps I.bk).lt;exact Nat.lt_trans ↥_ h
theorem vk {Q:Jx->JJ->Prop}(hu:A.units+1<JM)(I:Inv X pins σ H s)(g:K6 H a y (some v))(ry:RelV y u)(h:∀w' s',Inv X pins σ H s'->RelV v w'->Q w' s'):
  JN (JP X.prog X.w) A (getItem (.ref a) u) Q E s:=by
 rcases g with⟨kvs,k,e,ey,l⟩|⟨kvs,k,b,e,ey,eb,l⟩
 ·subst ey;obtain⟨z,hd,vs,rel,dd⟩:=nk I.hok e;obtain⟨w',hw,rw'⟩:=RelO.some_of (v:=v) (o:=valueAt vs k) (by rw[l];exact rel.val k);exact wpAny_getItem_of (pU ry) dd.mapOf hw (h w' _ (I.tok _) rw')
 ·subst ey;cases (show u=Jx.ref b from ry);obtain⟨z,hd,xs,rel,dd⟩:=lJ I.hok e;obtain⟨w',hw,rw'⟩:=RelO.some_of (v:=v) (o:=(KJ xs k).map (·.2)) (by rw[l];exact rel.val k);obtain⟨p,hp,hp2⟩:=FQ.mp hw;refine wpAny_getItem_heap (KL hu) (lq I.hok eb) dd hp ?_;rw[hp2];exact h w' _ (I.tok _) rw'
theorem Fw {Q:Jx->JJ->Prop}(hu:A.units+1<JM)(I:Inv X pins σ H s)(g:K6 H a y o)(ry:RelV y u)(h:∀s',Inv X pins σ H s'->Q (.bool o.isSome) s'):
  JN (JP X.prog X.w) A (Kg .In u (.ref a)) Q E s:=by
 rcases g with⟨kvs,k,e,ey,l⟩|⟨kvs,k,b,e,ey,eb,l⟩
 ·subst ey;obtain⟨z,hd,vs,rel,dd⟩:=nk I.hok e;refine wpAny_in_of (pU ry) hd dd.mapOf ?_;rw[<-(rel.val k).isSome_eq,<-l];exact h _ (I.tok _)
 ·subst ey;cases (show u=Jx.ref b from ry);obtain⟨z,hd,xs,rel,dd⟩:=lJ I.hok e;refine wpAny_in_heap (KL hu) (lq I.hok eb) hd dd ?_;have q:=(rel.val k).isSome_eq;rw[GJ] at q;rw[<-q,<-l];exact h _ (I.tok _)
theorem AE {Q:Jx->JJ->Prop}(hu:A.units+1<JM)(I:Inv X pins σ H s)(g:K6 H a y o)(ry:RelV y u)(h:∀s',Inv X pins σ H s'->Q (.bool (!o.isSome)) s'):
  JN (JP X.prog X.w) A (Kg .NotIn u (.ref a)) Q E s:=by
 rcases g with⟨kvs,k,e,ey,l⟩|⟨kvs,k,b,e,ey,eb,l⟩
 ·subst ey;obtain⟨z,hd,vs,rel,dd⟩:=nk I.hok e;refine wpAny_notIn_of (pU ry) hd dd.mapOf ?_;rw[<-(rel.val k).isSome_eq,<-l];exact h _ (I.tok _)
 ·subst ey;cases (show u=Jx.ref b from ry);obtain⟨z,hd,xs,rel,dd⟩:=lJ I.hok e;refine wpAny_notIn_heap (KL hu) (lq I.hok eb) hd dd ?_;have q:=(rel.val k).isSome_eq;rw[GJ] at q;rw[<-q,<-l];exact h _ (I.tok _)
theorem oJ {t':Nat}(I:Inv X pins σ H s)(mu:Mut (H a))(hs:GD a s.heap h')(he: ∃q,h'.get? a=some q)(new:ObjOk X.prog X.w (upd H a ob) h' a ob):
  Inv X pins σ (upd H a ob) {s with heap:=h',toks:=t'}:=
 I.write (x:=a) (e:=a) mu (.inl rfl) (λb q hb z=>(hs.2 b hb).trans z) he new
theorem Dl {w:JC}(z:kvs.length<=sizeLine)(hd:(a==J4)=false)(rel:KV kvs vs)(dd:h'.DictOf (bX P w) a vs):
 ObjOk P w H' h' a (.dK kvs):=⟨z,hd,vs,rel,dd⟩
theorem vj {Q:Unit->JJ->Prop}(hu:A.units+1<JM)(I:Inv X pins σ H s)(g:DPut H a y v H')(ry:RelV y u)(rv:RelV v r)(h:∀s',Inv X pins σ H' s'->Q () s'):
  JN (JP X.prog X.w) A (setItem (.ref a) u r) Q E s:=by
 rcases g with⟨kvs,k,e,ey,l,eH⟩|⟨kvs,k,b,e,ey,eb,l,eH⟩
 ·subst ey eH;obtain⟨z,hd,vs,rel,dd⟩:=ES I.hok e;have hz:vs.length<=sizeLine:=by rw[<-rel.length];exact z
  have hl:(OG kvs k v).length<=sizeLine:=by have:=hW kvs k v;omega
  refine wpAny_setItem_pairs (hsz:=hz) (pU ry) dd λh' dd' hs=>h _ ?_;have he: ∃q,h'.get? a=some q:=let ⟨q,_,_,hq,_⟩:=dd';⟨q,hq⟩;exact oJ I (by rw[e];exact True.intro) hs he (Dl hl hd (rel.put k rv) dd')
 ·subst ey eH;cases (show u=Jx.ref b from ry);obtain⟨z,hd,xs,rel,dd⟩:=ER I.hok e;have hz:xs.length<=sizeLine:=by rw[<-Paired.length rel];exact z
  have hl:(OG kvs k v).length<=sizeLine:=by have:=hW kvs k v;omega
  refine wpAny_setItem_heap (hsz:=hz) (KL hu) (lq I.hok eb) dd λh' dd' hs=>h _ ?_;obtain⟨q,es,ep,hq,h2,h3,h4,_,h5⟩:=dd';refine oJ I (by rw[e];exact True.intro) hs ⟨q,hq⟩ ⟨hl,hd,_,(rel.put k eb rv).keeps λc ys ec=>?_,q,es,ep,hq,h2,h3,h4,h5⟩;rw[ag (Eo ec e (λz=>nomatch z))];exact ec
end
theorem p9 (I:Inv X pins σ H s)(g:K6 H a y o):s.TypeIs (.ref a) "dict":=by
 rcases g with⟨kvs,k,e,_,_⟩|⟨kvs,k,b,e,_,_,_⟩
 ·obtain⟨_,_,vs,_,dd⟩:=nk I.hok e;exact dd.typeIs
 ·obtain⟨_,_,xs,_,dd⟩:=lJ I.hok e;exact dd.typeIs
theorem yt {w:JC}(h:JD)(hb:J4<h.objs.size):ObjOk P w H (h.push {cls:=.type "dict",data:=.dict #[]}) h.objs.size (.dT []):=
 ⟨FY _,beq_eq_false_iff_ne.mpr (Ne.symm (F5 hb)),[],.nil,_,#[],0,FX _ rfl,⟨rfl,rfl,rfl⟩,rfl,rfl,HD⟩
noncomputable def Bl:TE:=λ_ H Q=> ∀p,H p=none->Q (.ref p) (upd H p (.dT []))
section
variable {X:Cx}{pos:Kb}
theorem Ot:PE X (.Dict [] [] pos) Bl:=λpins s σ H Q I h=>
 wpAny_Dict_empty ⟨.ref ↥s,_,I.laid (a:=↥s) (o:=.dT []) (t':=s.toks) (λ_ _ q=>FD _ q) (Fy _) (yt s.heap I.big),rfl,h _ (I.hok.fresh (Fy _))⟩
end
structure M2 (X:Cx)(o:Expr)(m:Str)(apos:Kb)(e f:Expr)(cpos:Kb):Prop where
 base:Kv o m X.env (Ka o X.env)=Ka o X.env
 few:((Kc cpos (Kd [e,f] X.env)).all (λx=>!x.1) && (Kw cpos (Kx [] X.env)).all (λx=>x.1.isSome)
  && decide (([e,f]:List Expr).length+([]:List KB).length+(if ([]:List KB).isEmpty then 0 else 1)<30))=true
 line:(apos.endLine==cpos.line)=true
 trees:Kc cpos (Kd [e,f] X.env)=[(false,Ka e X.env),(false,Ka f X.env)]
noncomputable def IsD (H:Hp)(a:JG):Prop:=(∃kvs,Rd H a (.dK kvs))\/ ∃kvs,Rd H a (.dT kvs)
theorem Dh (I:Inv X pins σ H s)(d:IsD H a):
  s.TypeIs (.ref a) "dict"/\(∀b,Jx.ref a=.ref b-> ∃ob,s.heap.get? b=some ob/\ob.dict=none)/\(a==J4)=false:=by
 rcases d with⟨kvs,e⟩|⟨kvs,e⟩
 ·obtain⟨_,hd,vs,_,dd⟩:=nk I.hok e;refine⟨dd.typeIs,λb q=>?_,hd⟩;cases q;obtain⟨ob,_,_,h1,h2,_⟩:=dd;exact⟨ob,h1,h2.2.1⟩
 ·obtain⟨_,hd,xs,_,dd⟩:=lJ I.hok e;refine⟨dd.typeIs,λb q=>?_,hd⟩;cases q;obtain⟨ob,_,_,h1,h2,_⟩:=dd;exact⟨ob,h1,h2.2.1⟩
end
end L2
namespace Att
open PySem PySem.W PySem.Calls PyProof.Rows
theorem jY : ∀ (ns:List Int) (vs:List Jx),WellAll P h vs (ns.map WData.int)->IntsAre vs ns:=by
 intro ns
 induction ns with
 |nil=>
  intro vs w;rw[Ge] at w;cases w;exact .nil
 |cons n ns ih=>
  intro vs w;rw[FK] at w;cases w with
  |cons a b=>
   cases a;exact .cons _ _ (ih _ b)
theorem uq {l:OpenLaw}{n:Nat}(hn:l.most=some n){P:Params}{h:JD}{args:List WData}{vals:List Jx}
  (hpre:l.row.toRowW.claim.pre args=true)(hwl:WellAll P h vals args):
  ∃a vs ns,vals=[Jx.ref a]/\args=[WData.list (ns.map WData.int)]/\h.get? a=some {cls:=.type "list",data:=.seq vs.toArray}/\IntsAre vs ns/\ns.length<=n:=by
 have hsh:WShape.hasAll [] args [.list .int]=true:=(pre_splitW hpre).1;have hc:l.pre.holds [] {args:=args}=true:=(pre_splitW hpre).2;obtain⟨d,r,rfl,h1,h2⟩:=hasAllW_cons hsh;obtain rfl:=hasAllW_nil h2;obtain⟨xs,rfl,h3⟩:=hasW_list h1;obtain⟨ns,rfl⟩:=items_int h3;have hlen:ns.length<=n:=by
  unfold OpenLaw.pre at hc;have h4:(WTm.not (.lt (.lit (.int (n:Int))) (.len (.arg 0)))).holds [] {args:=[.list (ns.map .int)]}=true:=by
   have h4:=(holds_andW hc).1;rw[hn] at h4;exact h4
  have h5:=condW_of h4 (w_not (w_lt w_lit (w_len_list (w_arg rfl))));rw[Fx] at h5;refine Nat.le_of_not_lt λq=>?_;have q':(n:Int)<((ns.length:Nat):Int):=∅
  first
   |(rw[decide_eq_true q'] at h5;exact absurd h5 ↥_)
   |(simp at h5;omega)
 cases hwl with
 |cons w1 w2=>
  cases w2;cases w1 with
  |list ho hall=>exact⟨_,_,ns,rfl,rfl,ho,jY ns _ hall,hlen⟩
theorem uB (l:OpenLaw)(args:List WData):l.row.toRowW.claim.post args (.bool true) args=true:=
 postW_of (r:=l.row.toRowW) (X:=(true==true))
  (show WShape.has [] (.bool true) .bool=true by first|rfl|decide|simp [WShape.has,WShape.arms,WShape.armsAll])
  (show (WTm.eq .res (.lit (.bool true))).value [] {args:=args,res:=some (.bool true),after:=args}=some (.bool (true==true)) from w_eq_bool (w_res rfl) w_lit) rfl
theorem attach_call {l:OpenLaw}{n:Nat}{q:JB}{loose:List Str}{XP:(Str->Option Jx)->JD->Prop}{YP:JC->JD->Prop}{d:DefRec}
  (hn:l.most=some n)(hdf:d.params.defaults=[])
  (call: ∀ (w:JC) (s₀ s₁:JJ) (mg mb:Str->Option Jx) (fa:JG) (o:JK) (pm cd doc:Jx) (a:JG) (vs:List Jx) (ns:List Int),
   Ground q loose [] XP w s₀ mg mb s₁.heap->YP w s₁.heap->
   s₁.heap.get? fa=some o->o.data=.func (docDef d.name d.params d.body d.scope pm cd doc)->s₁.heap.CodeRec cd d.name->mg d.name=some (.ref fa)->
   s₁.heap.get? a=some {cls:=.type "list",data:=.seq vs.toArray}->IntsAre vs ns->ns.length<=n->s₁.gens= #[]->
   codeAny (JP l.prog w) callerA (.call (.ref fa) ⟨[.ref a],[]⟩) (λr s'=>r=.ok (.ret (.bool true))/\OldK s₁.heap s'.heap/\s'.os=s₁.os/\J9 s'.gens) s₁):
  WalkO q loose XP YP l.row.toRowW d [] (λf vs=>PySem.call f vs):=by
 intro w s₀ s₁ mg mb G Y fa o pm cd doc dV kV ho hd hcd hD hmg hg args vals as hpre hlay hrd hwl hlo;obtain rfl:dV=.none:=Dflts.none hD hdf;obtain rfl:kV=.none:=Dflts.noKw hD;obtain⟨a,vs,ns,rfl,rfl,hobj,hints,hlen⟩:=uq hn hpre hwl;refine enter_call (Kz (call w s₀ s₁ mg mb fa o pm cd doc a vs ns G Y ho (fd_plain hd) hcd hmg hobj hints hlen hg) λr s' hq=>?_);obtain⟨rfl,h2,h3,h4⟩:=hq;exact⟨.inl ⟨.bool true,.bool true,[],rfl,λ_=>rfl,.bool true,uB l _,λ_=>⟨List.Pairwise.nil,λ_ hm=>(nomatch hm)⟩⟩,h2,h3,h4⟩
section
end
end Att
namespace L2
open PySem PySem.Spec PyProof.Rows
theorem mx: ∀ {vs:List Jx}{ns:List Int},IntsAre vs ns->Vals (ns.map V.int) vs
 |_,_,.nil=>.nil
 |_,_,.cons n t h=>.cons ⟨t,rfl⟩ (mx h)
noncomputable def Le (H:Hp):Prop:= ∀b,H b=none\/ ∃o xs,H b=some (.frz o (.lst xs))
theorem xT {w:JC}{K:Zf}{mg mb:Str->Option Jx}{k:Nat}{x:Str}
  (KX:K.In s₁.heap)(hns:s₁.heap.Ns J6 mg)(hb:s₁.heap.Ns builtinsNs mb)(hbb: ∀x:Str,x≠ "__name__"->mb x=J7 x)(hlim:s₁.heap.NoLimit)(hg:s₁.gens= #[])
  (ha:s₁.heap.get? a=some {cls:=.type "list",data:=.seq vs.toArray})(hi:IntsAre vs ns)(hl:ns.length<=sizeLine)(hr:Room k callerA)
  (F:∀base:JD,K.In base->base.Ns J6 mg->FnOk P w K mg base CX k fa fd [x] sp)(hbind: ∀ (s:JJ) (u:Jx),BindsTo s fd ⟨[u],[]⟩ [(x,u)])
  (hsp: ∀H:Hp,Le H->SqL K H a (ns.map V.int)->sp [.ref a] H (λv _=>v=.bl true) λ_ _ _=>False)
  (hCX: ∀H e s',CX [] H s₁ (λ_ _ _=>False) e s'->False):
  codeAny (JP P w) callerA (.call (.ref fa) ⟨[.ref a],[]⟩) (λr s'=>r=.ok (.ret (.bool true))/\OldK s₁.heap s'.heap/\s'.os=s₁.os/\J9 s'.gens) s₁:=by
 have rv:=mx hi;have lenV:=hi.length;have core: ∀H:Hp,Le H->SqL K H a (ns.map V.int)->HOk P w H s₁.heap->(∀b,H b≠none->b=a)->(H a≠none->K.lookup a=none)->
   codeAny (JP P w) callerA (.call (.ref fa) ⟨[.ref a],[]⟩) (λr s'=>r=.ok (.ret (.bool true))/\OldK s₁.heap s'.heap/\s'.os=s₁.os/\J9 s'.gens) s₁:=by
  intro H hO hS hok hA hK;have base_of: ∀ {b:JG}{o:JK},s₁.heap.get? b=some o->H b=none->(Mn s₁.heap H).get? b=some o:=λe n=>yc e n;have noA: ∀ {b:JG}{o:JK}{es:Array DictEntry}{ep:Nat},s₁.heap.get? b=some o->o.data=.dict es ep->H b=none:=λ{b o es ep} e d=>by
   cases q:H b with
   |none=>rfl
   |some u=>
    have e':b=a:=hA b (by rw[q];simp);subst e';rw[ha] at e;cases e;have d':Data.seq vs.toArray _=Data.dict es ep:=d;cases d'
  have nsK: ∀ {b:JG}{m:Str->Option Jx},s₁.heap.Ns b m->(Mn s₁.heap H).Ns b m:=λ{b m} ⟨o,es,ep,e,d,r⟩=>⟨o,es,ep,base_of e (noA e d),d,r⟩
  have hKb:K.In (Mn s₁.heap H):=λb o e=>base_of (KX b o e) (by
   cases q:H b with
   |none=>rfl
   |some u=>
    have e':b=a:=hA b (by rw[q];simp);subst e'
    rw[hK (by rw[q];simp)] at e;cases e)
  have hM:Mod K mg (Mn s₁.heap H):=⟨hKb,nsK hns,⟨mb,nsK hb,hbb⟩,let ⟨mc,h1,h2⟩:=hlim;⟨mc,nsK h1,h2⟩⟩
  have e0:Env0 P w K mg (Mn s₁.heap H) callerA [] s₁ H:=⟨rfl,hM,λb o e=>zH e,G8 (vc _ _),trivial,λb hb=>absurd (show b∈([]:List JG) from hb) ⇑_,hok,.of_eq hg⟩
  refine Kz ((F _ hKb (nsK hns)).run callerA [] s₁ H ⟨[.ref a],[]⟩ [.ref a] [.ref a] _ _ hr e0 (hbind s₁ (.ref a)) (.cons rfl .nil) (hsp H hO hS)) λr s' h=>?_;cases r with
  |error e=>exact (hCX H e s' h).elim
  |ok fl=>
   cases fl with
   |next=>exact False.elim h
   |brk=>exact False.elim h
   |cont=>exact False.elim h
   |ret u=>
    obtain⟨v,H',os,bare,un,hok',r',q⟩:=h;have q':v=.bl true:=q;subst q';obtain rfl:u=Jx.bool true:=r';refine⟨rfl,OldK.of_keep λb o e=>?_,os,bare⟩;cases q:H b with
    |none=>exact un.keep b o e q (by intro z;exact absurd (show b∈([]:List JG) from z) ⇑_) ⇑_
    |some u=>
     rcases hO b with z|⟨ob,xs,z⟩
     ·rw[q] at z;cases z
     ·have z2:=un.frzs b ob _ z;obtain⟨e1,_⟩:=hok b _ z;obtain⟨e2,_⟩:=hok' b _ z2;rw[e] at e1;cases e1;exact e2
 cases hk:K.lookup a with
 |some o=>
  have e:=KX a o hk;rw[ha] at e;cases e;refine core (λ_=>none) (λ_=>.inl rfl) (.inr ⟨_,vs.toArray,_,hk,rfl,rfl,rfl,by rw[FP,lenV];exact hl,by simpa using rv⟩) (λb u z=>by have z':(none:Option HO)=some u:=z;cases z') (λb z=>absurd rfl z) λz=>absurd rfl z
 |none=>
  refine core (λb=>if b=a then some (.frz {cls:=.type "list",data:=.seq vs.toArray} (.lst (ns.map V.int))) else none) (λb=>?_) (.inl (.inr ⟨{cls:=.type "list",data:=.seq vs.toArray},if_pos rfl⟩)) (λb u z=>?_) (λb z=>?_) λ_=>hk
  ·by_cases hb:b=a
   ·exact .inr ⟨_,_,if_pos hb⟩
   ·exact .inl (if_neg hb)
  ·by_cases hb:b=a
   ·have z':=(if_pos hb).symm.trans z;cases z';subst hb;exact⟨ha,by rw[Fx];exact hl,vs,_,rv,ha⟩
   ·have z':=(if_neg hb).symm.trans z;cases z'
  ·by_cases hb:b=a
   ·exact hb
   ·exact absurd (if_neg hb) z
section
theorem walk_of {l:PySem.W.OpenLaw}{n k:Nat}{q:JB}{loose:List Str}{XP:(Str->Option Jx)->JD->Prop}{YP:JC->JD->Prop}{d:DefRec}{K:Params->Zf}{CX:JC->CXT}{sp:JC->Sp}{x:Str}
  (hn:l.most=some n)(hn2:n<=sizeLine)(hdf:d.params.defaults=[])(hr:Room k callerA)
  (hY: ∀ (w:JC) (h:JD),YP w h->(K w.params).In h)
  (F:∀ (w:JC) (mg:Str->Option Jx) (fa:JG) (h:JD),(K w.params).In h->h.Ns J6 mg->mg d.name=some (.ref fa)->
    ∃fd:Ky,(∀ (s:JJ) (u:Jx),BindsTo s fd ⟨[u],[]⟩ [(x,u)])/\
     ∀base:JD,(K w.params).In base->base.Ns J6 mg->FnOk l.prog w (K w.params) mg base (CX w) k fa fd [x] (sp w))
  (hsp: ∀ (w:JC) (H:Hp) (a:JG) (ns:List Int),ns.length<=n->Le H->SqL (K w.params) H a (ns.map V.int)->sp w [.ref a] H (λv _=>v=.bl true) λ_ _ _=>False)
  (hCX: ∀ (w:JC) (H:Hp) (s:JJ) (e:Jx) (s':JJ),CX w [] H s (λ_ _ _=>False) e s'->False):
  PySem.W.WalkO q loose XP YP l.row.toRowW d [] (λf vs=>PySem.call f vs):=by
 refine Att.attach_call hn hdf λw s₀ s₁ mg mb fa o pm cd doc a vs ns G Y ho hd hcd hmg hobj hints hlen hg=>?_;have KX:=hY w _ Y;obtain⟨fd,hb,hF⟩:=F w mg fa _ KX G.T.g hmg;exact xT KX G.T.g G.T.b G.T.builtins G.T.nolimit hg hobj hints (F6 hlen hn2) hr hF hb (λH hO hS=>hsp w H a ns hlen hO hS) λH e s'=>hCX w H s₁ e s'
end
section
noncomputable def bY (s:Ke)(j:Nat):Ke:=match s with
 |.ClassDef _ _ _ body _ _ _ _ _ _ _=>body.getD j (.Pass ⟨0,0,0,0⟩)
 |_=>.Pass ⟨0,0,0,0⟩
noncomputable def cO (s:Ke):Arguments:=match s with
 |.FunctionDef _ a _ _ _ _ _ _ _ _=>a
 |_=>{posonlyargs:=[],args:=[],vararg:=none,kwonlyargs:=[],kw_defaults:=[],kwarg:=none,defaults:=[]}
noncomputable def bE (s:Ke):List Ke:=match s with
 |.FunctionDef _ _ b _ _ _ _ _ _ _=>b
 |_=>[]
noncomputable def ac (s:Ke):J8:=match s with
 |.FunctionDef _ _ _ _ _ _ sc _ _ _=>sc
 |_=>{kind:=.function,names:=[],isGenerator:=false,isCoroutine:=false}
noncomputable abbrev CX0:CXT:=λ_ _ _ _ _ _=>False
noncomputable abbrev E0:XK:=λ_ _ _=>False
theorem Oq :gB CX0 X E0:=λ_ _ _ _ _ _ _ h=>h.elim
structure Fun (K:Zf)(x qual:Str)(st:Ke)(f:JG)(fd:Ky):Prop where
 ex: ∃ (oc:Jx) (od:Option JG) (kV doc pm:Jx) (an:Option JG) (cdv ct:Jx) (osl:Array (Option Jx)),
  fd=fnOf x qual (cO st) (bE st) (ac st) .none kV doc pm an cdv ct/\K.lookup f=some ⟨oc,od,.func fd,osl⟩/\codeIn K cdv qual=true
 kp:Ju K (.ref f)=true
section
variable {P:JB}{w:JC}{K:Zf}{mg:Str->Option Jx}{base:JD}
theorem Fun.ok {x qual:Str}{st:Ke}{N ps:List Str}{k:Nat}(F:Fun K x qual st f fd)(S:Lb N ps (ac st))(len: ∀vs H Q E,sp vs H Q E->vs.length=ps.length)
  (hbody: ∀ (cdv:Jx) (A:JL) (outer:List Env) (s:JJ) (H:Hp) (vs:List V) (Q:VK) (E:XK),Room k (A.deeper (KD qual (ac st) ↥s f cdv))->sp vs H Q E->
   ∃t,PSs (LQ CX0 P w K mg base N qual (ac st) f cdv A outer s H E).nox (bE st) t/\t {nx:=λ_ H'=>Q .non H',rt:=Q} (PV N vs) H):FnOk P w K mg base CX0 (k+1) f fd ps sp:=by
 obtain⟨oc,od,kV,doc,pm,an,cdv,ct,osl,rfl,lk,hcd⟩:=F.ex;refine A4 lk hcd S len λA outer s H vs Q E hr hsp=>?_;obtain⟨t,h,q⟩:=hbody cdv A outer s H vs Q E hr hsp;exact⟨t,h.nox,q⟩
theorem Fun.binds {x qual:Str}{st:Ke}{ps:List Str}(F:Fun K x qual st f fd)
  (h:∀ (kV doc pm:Jx) (an:Option JG) (cdv ct:Jx) (us:List Jx),us.length=ps.length->bindArgs (fnOf x qual (cO st) (bE st) (ac st) .none kV doc pm an cdv ct) ⟨us,[]⟩=pure (ps.zip us)):Binds K fd ps []:=by
 obtain⟨oc,od,kV,doc,pm,an,cdv,ct,osl,rfl,lk,hcd⟩:=F.ex;exact .all (h kV doc pm an cdv ct)
theorem yg {x qual:Str}{st:Ke}{kV doc pm cdv ct:Jx}(l:K.lookup f=some ⟨oc,od,.func (fnOf x qual (cO st) (bE st) (ac st) .none kV doc pm an cdv ct),osl⟩)
 (c:codeIn K cdv qual=true)(k:Ju K (.ref f)=true):Fun K x qual st f (fnOf x qual (cO st) (bE st) (ac st) .none kV doc pm an cdv ct):=⟨⟨oc,od,kV,doc,pm,an,cdv,ct,osl,rfl,l,c⟩,k⟩
end
theorem A2 {k:Nat}(hr:Room k A):A.units+1<JM:=Gm (Ip (by decide:1<=64) _) hr.units
theorem jD {n:Nat}(h:n<=1000):n<sizeLine:=Gm h ↥_
section
variable {X:Cx}
theorem pv (i:Nat){x:Str}(hN:X.N[i]?=some x:=by rfl)(hv:Vis X.env.scope x:=by trace_state)(hd:(x==("__debug__":Str))=false:=by decide)
 (hcd:(x==("__classdict__":Str))=false:=by decide):PE X (.Name x pos) (P9 i):=BK hN hv hd hcd
end
theorem MG {A B:Prop}(h:B):if false=true then A else B:=by
 rw[if_neg FU];exact h
theorem MH {A B:Prop}(h:A):if true=true then A else B:=by
 rw[if_pos rfl];exact h
theorem MF {c A B:Prop} [Decidable c] (h1:c->A)(h2: ¬c->B):if c then A else B:=by
 by_cases h:c
 ·rw[if_pos h];exact h1 h
 ·rw[if_neg h];exact h2 h
noncomputable def Same (H H':Hp):Prop:= ∀b o,H b=some o->H' b=some o
theorem Same.refl (H:Hp):Same H H:=λ_ _ h=>h
end
section
theorem lG {α β:Type}{f:α->β->Sem (ForInStep β)}(g:α->β->β): ∀ (l:List α) (c:β),(∀x∈l,∀c,f x c=pure (.yield (g x c)))->forIn l c f=pure (l.foldl (λc x=>g x c) c)
 |[],_,_=>rfl
 |x::l,c,h=>by
  rw[GH,h x FI,pure_bind];exact lG g l (g x c) λy hy=>h y (FV _ hy)
noncomputable def cG (env:Env)(p:Str×KC)(cs:List (Str×JG)):List (Str×JG):=if (p.2==KC.free)=true then (p.1,(env.cells.lookup p.1).getD 0)::cs else cs
noncomputable def LK (scope:J8)(env:Env):List (Str×JG):=scope.names.foldl (λc x=>cG env x c) []
theorem rX (h:∀p∈scope.names,p.2=.free-> ∃c,env.cells.lookup p.1=some c):closureFor scope env=pure (LK scope env):=by
 unfold LK;simp only[closureFor];rw[lG (cG env)]
 ·rfl
 ·intro x hx c;obtain⟨n,k⟩:=x;by_cases hk:k=.free
  ·subst hk;obtain⟨a,ha⟩:=h _ hx rfl;have ha:env.cells.lookup n=some a:=ha;simp [cG,cellOf,ha]
  ·have:(k==KC.free)=false:=by simpa using hk
   simp [cG,this]
theorem lP (env:Env): ∀ (l:List (Str×KC)) (c:List (Str×JG)),(∀p∈l,p.2=.free-> ∃a,env.cells.lookup p.1=some a)->
  (∀y a,c.lookup y=some a->env.cells.lookup y=some a)-> ∀y a,(l.foldl (λc x=>cG env x c) c).lookup y=some a->env.cells.lookup y=some a
 |[],_,_,h,y,a,e=>h y a e
 |(n,k)::r,c,hf,h,y,a,e=>by
  refine lP env r (cG env (n,k) c) (λp hp=>hf p (FV _ hp)) (λz b q=>?_) y a e;unfold cG at q;split at q
  ·rename_i hk;obtain⟨d,hd⟩:=hf (n,k) FI (by simpa using hk);have hd:env.cells.lookup n=some d:=hd;rw[GM] at q;split at q
   ·rename_i hz;have:z=n:=by simpa using hz
    subst this;rw[hd] at q ⊢;simpa using q
   ·exact h z b q
  ·exact h z b q
theorem qh (env:Env): ∀ (l:List (Str×KC)) (c:List (Str×JG)) (y:Str),(∃a,c.lookup y=some a)-> ∃a,(l.foldl (λc x=>cG env x c) c).lookup y=some a
 |[],_,_,h=>h
 |(n,k)::r,c,y,h=>by
  refine qh env r _ y ?_;show∃a,(cG env (n,k) c).lookup y=some a;unfold cG;split
  ·rw[GM];split
   ·exact⟨_,rfl⟩
   ·exact h
  ·exact h
theorem ub (env:Env): ∀ (l:List (Str×KC)) (c:List (Str×JG)) (y:Str),(y,KC.free)∈l-> ∃a,(l.foldl (λc x=>cG env x c) c).lookup y=some a
 |(n,k)::r,c,y,h=>by
  rcases FC.mp h with e|h
  ·obtain⟨rfl,rfl⟩:=Prod.mk.inj e;refine qh env r _ y ⟨(env.cells.lookup y).getD 0,?_⟩;show (cG env (y,.free) c).lookup y=_;unfold cG;rw[if_pos (by rfl),GM];simp
  ·exact ub env r _ y h
structure CScope (X:Cx)(ls:List Str)(scope:J8):Prop where
 kind:scope.kind=.function
 nocell: ∀y∈scope.names,y.2≠.cell
 names: ∀y∈scope.names,y.2=.local ->scope.names.lookup y.1=some .local
 loc: ∀y,scope.names.lookup y=some .local ->y∈ls
 free: ∀y∈scope.names,y.2=.free->X.env.kindOf y.1=some .cell\/X.env.kindOf y.1=some .free
 noq: ∀y∈ls,∀k,scope.names.lookup ⟨#[63]++y.cps⟩≠some k
noncomputable def hid (ls:List Str)(y:Str):Str:=if ls.contains y then⟨#[63]++y.cps⟩ else y
noncomputable def cxC (X:Cx)(ls:List Str)(scope:J8)(C:JG)(s2:JJ)(H2:Hp)(fp:List JG):Cx where
 prog:=X.prog
 w:=X.w
 K:=X.K
 mg:=X.mg
 base:=X.base
 A:=X.A
 N:=ls++X.N.map (hid ls)
 s₀:=s2
 H₀:=H2
 env:=compEnvC scope (LK scope X.env) C X.env
 outer:=X.stack
 stack:=X.stack
 ex:=fp
 calm:=X.calm
 fn:=λ_=>false
 pn:=[]
 xe:=λ_ _=>False
theorem cv {env:Env}{y:Str}: ∀ {names:List (Str×KC)}{k:KC},(names.map λ(n,k)=>if (k==KC.free && env.scope.kind==.function && env.kindOf n==some .cell) then (n,KC.cell) else (n,k)).lookup y=some k->
  names.lookup y=some k\/(names.lookup y=some .free/\k=.cell)
 |[],_,h=>by simp at h
 |(n,j)::r,k,h=>by
  have ih:= @cv env y r k
  replace h:GR y ((if (j==KC.free && env.scope.kind==.function && env.kindOf n==some .cell)=true then (n,KC.cell) else (n,j))::(r.map λ(n,k)=>if (k==KC.free && env.scope.kind==.function && env.kindOf n==some .cell) then (n,KC.cell) else (n,k)))=some k:=h
  by_cases hc:(j==KC.free && env.scope.kind==.function && env.kindOf n==some .cell)=true
  ·rw[if_pos hc,GM] at h;rw[GM];cases hx:y==n with
   |true=>
    rw[hx] at h;simp only[F7] at hc;have hj:j=.free:=by simpa using hc.1.1
    subst hj;have h:some KC.cell=some k:=h;cases h;exact .inr ⟨rfl,rfl⟩
   |false=>
    rw[hx] at h;exact ih h
  ·rw[if_neg hc,GM] at h;rw[GM];cases hx:y==n with
   |true=>rw[hx] at h;exact .inl h
   |false=>rw[hx] at h;exact ih h
noncomputable def Mo (N ls:List Str)(σ:St):Bool:=true
theorem u8 {ls:List Str}{m:Str->Option Jx}{tk:Nat}
  (I:Inv X pins σ H2 s2)(S:CScope X ls scope)(hh:Mo X.N ls σ=true)(f2: ∀b∈fp,Lc X pins H2 b)(ho: ∀b∈fp,∃o,s2.heap.get? b=some o)(hC:↥s2<=C)(hn:h1.Ns C m)
  (old: ∀b o,s2.heap.get? b=some o->h1.get? b=some o):
  Inv (cxC X ls scope C s2 H2 fp) [] (List.replicate ls.length none++σ) H2 {s2 with heap:=h1,toks:=tk}:=by
 have cf: ∀p∈scope.names,p.2=.free-> ∃c,X.env.cells.lookup p.1=some c:=λp hp e=>I.ok.has _ (S.free p hp e);have c1: ∀y a,(LK scope X.env).lookup y=some a->X.env.cells.lookup y=some a:=lP X.env scope.names [] cf (λy a e=>by simp at e);have c2: ∀y,scope.names.lookup y=some .free-> ∃a,(LK scope X.env).lookup y=some a:=λy hy=>ub X.env scope.names [] y (PySem.mem_of_lookup hy);have lt2: ∀b∈fp,b<↥s2:=λb hb=>let ⟨o,e⟩:=ho b hb;FJ e;have kinds: ∀y k,(KM scope X.env).names.lookup y=some k->k=.cell\/k=.free->scope.names.lookup y=some .free:=λy k h hk=>by
  rcases cv (env:=X.env) h with q|⟨q,_⟩
  ·rcases hk with rfl|rfl
   ·exact absurd rfl (S.nocell _ (PySem.mem_of_lookup q))
   ·exact q
  ·exact q
 refine⟨⟨I.ok.mod,S.kind,I.ok.glob,I.ok.blt,hC,λx y c e1 e2=>I.ok.inj x y c (c1 x c e1) (c1 y c e2),λx hx=>?_,λx c h=>absurd h FU,I.ok.hd,I.ok.frames,.inl rfl,λb hb=>⟨?_,λx c e=>(f2 b hb).2.2.2.2.1 x c (c1 x c e)⟩,I.bs,F6 I.ok.bsz I.sz,λb o e hb=>?_,λb hb hz=>?_,I.stack,I.stkFree⟩,
  rfl,I.bare,Un.kept old,⟨m,hn,λi y v e1 e2 e3=>?_⟩,λx c e=>?_,I.hok.fresh hC,λx c e=>I.freeC x c (c1 x c e),λp hp=>absurd (show p∈([]:List (JG×JK)) from hp) ⇑_,I.hok.kept old,?_⟩
 ·have hx:(KM scope X.env).names.lookup x=some .cell\/(KM scope X.env).names.lookup x=some .free:=hx;rcases hx with hx|hx
  ·exact c2 x (kinds x _ hx (.inl rfl))
  ·exact c2 x (kinds x _ hx (.inr rfl))
 ·exact F5 (F8 (lt2 b hb) hC)
 ·rcases (f2 b hb).2.2.2.1 with z|z
  ·exact I.ok.noex b o e z
  ·exact absurd (F8 (FJ e) (F6 I.ok.bsz z)) (GZ _)
 ·rcases FC.mp (I.stkSub b hz) with z|z
  ·exact (f2 b hb).2.1 z
  ·exact (f2 b hb).2.2.1 z
 ·have e1:(ls++X.N.map (hid ls))[i]?=some y:=e1;by_cases hi:i<ls.length
  ·rw[Gr (by simpa using hi),Ik] at e2;rw[if_pos hi] at e2;cases e2
  ·rw[G0 ∅] at e1;rw[G0 (by simpa using hi),G1] at e2;rw[FG] at e1;obtain⟨y0,e1',ey⟩:=FQ.mp e1;have e3:(KM scope X.env).names.lookup y=some .local \/(KM scope X.env).names.lookup y=some .cell\/(KM scope X.env).names.lookup y=some .free:=e3;have ny:y0 ∉ ls:=λhm=>by
    unfold hid at ey;rw[if_pos (by simpa using hm)] at ey;subst ey;have no: ∀k,(KM scope X.env).names.lookup ⟨#[63]++y0.cps⟩=some k->False:=λk q=>by
     rcases cv (env:=X.env) q with z|⟨z,_⟩
     ·exact S.noq y0 hm _ z
     ·exact S.noq y0 hm _ z
    rcases e3 with q|q|q<;>exact no _ q
   unfold hid at ey;rw[if_neg (by simpa using ny)] at ey;rw[ey] at e1' ny;have e1:=e1';have fr:scope.names.lookup y=some .free:=by
    rcases e3 with q|q|q
    ·rcases cv (env:=X.env) q with z|⟨_,z⟩
     ·exact absurd (S.loc y z) ny
     ·cases z
    ·exact kinds y _ q (.inl rfl)
    ·exact kinds y _ q (.inr rfl)
   have kx:=S.free _ (PySem.mem_of_lookup fr) rfl;obtain⟨m2,_,hl⟩:=I.loc;obtain⟨u,r,l⟩:=hl _ y v e1 e2 (.inr kx);refine⟨u,r,?_⟩;have knd:(KM scope X.env).names.lookup y=some .cell\/(KM scope X.env).names.lookup y=some .free:=by
    rcases e3 with q|q
    ·rcases cv (env:=X.env) q with z|⟨_,z⟩
     ·exact absurd (S.loc y z) ny
     ·cases z
    ·exact q
   rcases l with⟨k1,_⟩|⟨_,c,hc,hcell⟩
   ·have kx:X.env.kindOf y=some .cell\/X.env.kindOf y=some .free:=kx;rcases kx with z|z<;>(rw[k1] at z;cases z)
   ·obtain⟨c',hc'⟩:=c2 y fr;have:=c1 y c' hc';rw[hc] at this;cases this;refine .inr ⟨knd,c,hc',?_⟩;obtain⟨o,ho,hd⟩:=hcell;exact⟨o,old _ _ ho,hd⟩
 ·obtain⟨v,o,ho,hd⟩:=I.cell x c (c1 x c e);exact⟨v,o,old _ _ ho,hd⟩
 ·show (List.replicate ls.length none++σ).length=(ls++X.N.map (hid ls)).length;rw[FE,FE,G1,Fx,I.len]
theorem xZ {ls:List Str}{n:Nat}
  (I:Inv X pins σ H2 s2)(f2: ∀b∈fp,Lc X pins H2 b)(J:Inv (cxC X ls scope C s2 H2 fp) pl σ' H3 s')(hD:↥s2<=D)(hC:↥s2<=C)(hDC:D≠C)
  (sb:GD C s'.heap h')(hD3:H3 D=none)(e:s'.heap.get? D=some {cls:=.type "list",data:=.seq its.toArray n})(r:Vals ys its)(z:ys.length<=sizeLine):Inv X pins σ (upd H3 D (.lst ys)) {s' with heap:=h'}:=by
 have ext: ∀b o,b≠C->s'.heap.get? b=some o->h'.get? b=some o:=λb o hb e=>sb.extBut b o hb e;have neD: ∀b,b<↥s2->b≠D:=λb hb=>F5 (F8 hb hD);have neC: ∀b,b<↥s2->b≠C:=λb hb=>F5 (F8 hb hC);have lt: ∀b u,H2 b=some u->b<↥s2:=λb u q=>by
  apply Classical.byContradiction;intro hb;have:=I.hok.fresh (Nat.le_of_not_lt hb);rw[this] at q;cases q
 have fC:H3 C=none:=J.free;refine I.call' (s':={s' with heap:=h'}) (ch:=fp) J.os ⟨λb o q n hb hx=>?_,λb o q n hb hx=>?_,λb o q n hx=>?_,λb o q hx=>?_,λb xs q=>?_,λb o u q=>?_,λb ps q=>?_⟩ (λb u q=>?_) J.bare λb hb=>?_
 ·exact ext b o (neC b (FJ q)) (J.base.keep b o q n hb hx)
 ·obtain⟨sl,w⟩:=J.base.slot b o q n hb hx;exact⟨sl,ext b _ (neC b (FJ q)) w⟩
 ·rw[ag (neD b (FJ q))];exact J.base.free b o q n hx
 ·obtain⟨o',w⟩:=J.base.there b o q hx;exact⟨o',ext b _ (neC b (FJ q)) w⟩
 ·rw[ag (neD b (lt b _ q))];exact J.base.tups b xs q
 ·rw[ag (neD b (lt b _ q))];exact J.base.frzs b o u q
 ·rw[ag (neD b (lt b _ q))];exact J.base.tbls b ps q
 ·by_cases hb:b=D
  ·subst hb;rw[ao] at q;cases q;exact⟨z,its,n,r,ext _ _ hDC e⟩
  ·rw[ag hb] at q;have ne1:b≠C:=λw=>by rw[w,fC] at q;cases q
   have ow: ∀c u,H3 c=some u->c≠D:=λc u w z=>by rw[z,hD3] at w;cases w
   have oc: ∀c u,H3 c=some u->c≠C:=λc u w z=>by rw[z,fC] at w;cases w
   refine (J.hok b u q).stay (λc v hc w=>ext c v ?_ w) (λc w=>by rw[ag (ow c _ w)];exact w) λc xs w=>by rw[ag (ow c _ w)];exact w
   rcases hc with rfl|hc
   ·exact ne1
   ·exact oc c _ hc
 ·obtain⟨a1,a2,a3,a4,a5,a6⟩:=f2 b hb;exact⟨a4,a2,a5,a6⟩
noncomputable def Lf (X:Cx)(ifs:List Expr)(t:TT):Prop:=
 ∀ (pins:List (JG×JK)) (s:JJ) (σ:St) (H:Hp) (Q:Bool->Hp->Prop),Inv X pins σ H s->t σ H Q->
   JN (JP X.prog X.w) X.A (forIn ifs true λc r=>if r=true then do let ok<-isTrue c X.env (Ka c X.env);pure (ForInStep.yield ok) else pure (ForInStep.yield r)) (TP X pins σ Q) X.xe s
noncomputable def Qa:TT:=λ_ H Q=>Q true H
theorem nY :Lf X [] Qa:=λ_ _ _ H _ I h=>wpAny_tests_nil ⟨H,I,h⟩
theorem zr (h:PT X c t):Lf X [c] t:=λpins s σ H Q I q=>wpAny_tests_one (h pins s σ H Q I q)
noncomputable def K5 (J:It)(ls:List Str)(g:TG)(tt:TT)(te:TE)(σ:St)(H1:Hp)(Q:VK):Prop:= ∃W:Nat->Nat->List V->Hp->Prop,(∃m,W 0 m [] H1)/\ ∀i m ys H,W i m ys H->
 (J.stop i H/\ ∀D,H D=none->Q (.ref D) (upd H D (.lst ys)))\/
 (J.go i H/\ ∃R:List V->Hp->Prop,(∀ys' H',R ys' H'-> ∃m',m'<m/\W (i+1) m' ys' H')/\ ∀y H',J.yld i H y H'->
  g y (List.replicate ls.length none++σ) H' λσ2 H2=>σ2.drop ls.length=σ/\σ2.length=ls.length+σ.length/\tt σ2 H2 λb H3=>if b=true then te σ2 H3 λv H4=>ys.length<sizeLine/\R (ys++[v]) H4 else R ys H3)
noncomputable def P2 (N ls:List Str)(wi:TI)(g:TG)(tt:TT)(te:TE):TE:=λσ H Q=>Mo N ls σ=true/\wi σ H λJ H1=>K5 J ls g tt te σ H1 Q
theorem ib {w:JC}{R:Result->JJ->Prop}(I:Nat->JJ->Prop)
  (turn: ∀n s,I n s->JN (JP prog w) A (Ko it) (λr s₁=>match r with
   |none=>R (.ok .next) s₁
   |some v=>JN (JP prog w) A (Kp target it v) (λ_ s₁=>JN (JP prog w) A (assign target env v) (λ_ s₂=>
    JN (JP prog w) A (forIn ifs true λc r=>if r=true then do let ok<-isTrue c env (Ka c env);pure (ForInStep.yield ok) else pure (ForInStep.yield r)) (λok s₃=>
     if ok=true then JN (JP prog w) A (Ka elt env) (λx s₄=>
      JN (JP prog w) A (call (.builtin "list.append") [acc,x]) (λ_ s₅=> ∃m,m<n/\I m s₅) (notedBy (JP prog w) A env λe s'=>R (.error e) s') s₄) (notedBy (JP prog w) A env λe s'=>R (.error e) s') s₃
     else∃m,m<n/\I m s₃) (notedBy (JP prog w) A env λe s'=>R (.error e) s') s₂) (notedBy (JP prog w) A env λe s'=>R (.error e) s') s₁) (notedBy (JP prog w) A env λe s'=>R (.error e) s') s₁) (notedBy (JP prog w) A env λe s'=>R (.error e) s') s)
  (n:Nat)(h:I n s):
  codeAny (JP prog w) A (.compLoop (.ListComp elt [⟨target,iter,ifs,0⟩] scope pos) 0 it acc env) R s:=by
 refine codeAny_loop rfl I (λn s hI=>?_) n h;show JN _ A ((compTurn (.ListComp elt [⟨target,iter,ifs,0⟩] scope pos) 0 it acc env).onRaise (λx=>do noteFrame x env;theTreesLotGoes x)) _ _ s;refine wpAny_noted ?_;rw[compTurn_list];refine JR (wpAny_standAt (JR (Kf (turn n s hI) (λr s₁ h₁=>?_) λ_ _ h'=>h')));cases r with
 |none=>exact JX h₁
 |some v=>
  refine JR (Kf h₁ (λ_ s₁ h₁=>?_) λ_ _ h'=>h');refine JR (Kf h₁ (λ_ s₂ h₂=>JR (Kf h₂ (λok s₃ h₃=>?_) λ_ _ h'=>h')) λ_ _ h'=>h');cases ok with
  |false=>exact JX ⟨rfl,h₃⟩
  |true=>
   exact JR (JR (Kf h₃ (λx s₄ h₄=>JR (Kf h₄ (λ_ s₅ h₅=>JX (JX ⟨rfl,h₅⟩)) λ_ _ h'=>h')) λ_ _ h'=>h'))
theorem thx {α:Type}{t:Sem α}{Q Q':α->JJ->Prop}{M:Model}{E:Jx->JJ->Prop}(h:JN M A t Q (λ_ _=>False) s)(hQ: ∀a s,Q a s->Q' a s):JN M A t Q' E s:=Kf h hQ λ_ _ x=>x.elim
section
variable {X:Cx}{elt iter tg:Expr}{ifs:List Expr}{scope:J8}{pos:Kb}{ls:List Str}{wi:TI}{g:TG}{tt:TT}{te:TE}
theorem vn {use:Option (Jx->Sem Unit)}{QQ:Jx->JJ->Prop}(hcalm:X.calm=true)(S:CScope X ls scope)(hi:PI X tg iter wi)
  (hg: ∀C s2 H2 fp,PG (cxC X ls scope C s2 H2 fp) tg g)(ht: ∀C s2 H2 fp,Lf (cxC X ls scope C s2 H2 fp) ifs tt)(he: ∀C s2 H2 fp,PE (cxC X ls scope C s2 H2 fp) elt te)
  (hs: ∀x,Ks iter X.env x=pure x)(I:Inv X pins σ H s)(h:P2 X.N ls wi g tt te σ H Q)
  (hQQ: ∀ (D C:JG) (s':JJ) (H':Hp),(∃m,s'.heap.Ns C m)->Lc X pins H' C->(∀h',GD C s'.heap h'->Inv X pins σ H' {s' with heap:=h'})->Q (.ref D) H'->compPost (JP X.prog X.w) X.A X.xe use QQ (.ref D) C (.ok .next) s'):
  JN (JP X.prog X.w) X.A (comprehension (.ListComp elt [⟨tg,iter,ifs,0⟩] scope pos) scope X.env pos' (newList []) false (Ka iter X.env) use) QQ X.xe s:=by
 obtain⟨hh,h⟩:=h;have cf: ∀p∈scope.names,p.2=.free-> ∃c,X.env.cells.lookup p.1=some c:=λp hp e=>I.ok.has _ (S.free p hp e);refine wpAny_comprehension_free (use:=use) rfl hs (rX cf) S.kind S.names (thn (hi pins s σ H _ I h) λv s1 h1=>thn h1 λitv s2 h2=>?_);obtain⟨it,fp,tn,J,H2,rfl,I2,T,st2,f2,W,⟨m0,w0⟩,turn⟩:=h2;refine KF (wpAny_newFunctionEnv S.nocell (by intro y hy;simp at hy) (λh₁ hns₁ hsb₁=>?_) S.kind);dsimp only at hns₁ hsb₁ ⊢;generalize hH2:s2.heap.push {cls:=.type "list",dict:=none,data:=.seq ([]:List Jx).toArray}=G2 at hns₁ hsb₁ ⊢;have hC:G2.objs.size=↥s2+1:=by rw[<-hH2,GB]
 have hDC:↥s2≠G2.objs.size:=by rw[hC];exact F5 (Ii _)
 have hCle:↥s2<=G2.objs.size:=by rw[hC];exact GS _
 have old: ∀b o,s2.heap.get? b=some o->h₁.get? b=some o:=λb o e=>hsb₁.extBut b o (F5 (F8 (FJ e) hCle)) (FD _ (hH2▸FD _ e));have hacc:h₁.get? ↥s2=some {cls:=.type "list",data:=.seq ([]:List Jx).toArray}:=hsb₁.extBut _ _ hDC (FD _ (hH2▸FX _ rfl));have hobj: ∀b∈fp,∃o,s2.heap.get? b=some o:=λb hb=>let ⟨o,e,_⟩:=T.obj 0 _ st2 b hb;⟨o,e⟩;have ltf: ∀b∈fp,b<↥s2:=λb hb=>let ⟨o,e⟩:=hobj b hb;FJ e;have nofD:↥s2 ∉ (cxC X ls scope G2.objs.size s2 H2 fp).fs:=λz=>by
  rcases FC.mp (I2.stkSub _ z) with z|z
  ·exact absurd I2.lt (by rw[<-z];exact GZ _)
  ·exact I2.nofs (Fy _) z
 have st1:tn 0 h₁:=T.keep 0 _ _ st2 λb _ o e=>old b o e;have J0: ∀tk,Inv (cxC X ls scope G2.objs.size s2 H2 fp) [] (List.replicate ls.length none++σ) H2 {s2 with heap:=h₁,toks:=tk}:=λtk=>u8 I2 S hh f2 hobj hCle hns₁ old;have fpY: ∀ (Hx:Hp) (pl:List (JG×JK)),(∀b∈fp,Hx b=none)->(∀p∈pl,↥s2<=p.1)-> ∀b∈fp,Lc (cxC X ls scope G2.objs.size s2 H2 fp) pl Hx b:=λHx pl hx hp b hb=>
  ⟨hx b hb,((J0 0).ok.exf b hb).1,(J0 0).ok.exfs b hb,.inl hb,((J0 0).ok.exf b hb).2,λp hpp=>by
   have hpp:p∈pl:=by simpa [cxC] using hpp
   exact Hk (F8 (ltf b hb) (hp p hpp))⟩
 have loop: ∀s₃:JJ,s₃={s2 with heap:=h₁,toks:=s2.toks+([]:List (Str×Jx)).length}->
   codeAny (JP X.prog X.w) X.A (.compLoop (.ListComp elt [⟨tg,iter,ifs,0⟩] scope pos) 0 (.ref it) (.ref ↥s2) (compEnvC scope (LK scope X.env) G2.objs.size X.env))
    (compPost (JP X.prog X.w) X.A X.xe use QQ (.ref ↥s2) G2.objs.size) s₃:=by
  rintro s₃ rfl
  refine ib (λn s'=> ∃ (i:Nat) (ys:List V) (its:List Jx) (k:Nat) (H':Hp),Inv (cxC X ls scope G2.objs.size s2 H2 fp) [] (List.replicate ls.length none++σ) H' s'/\tn i s'.heap/\(∀b∈fp,H' b=none)/\H' ↥s2=none/\
   s'.heap.get? ↥s2=some {cls:=.type "list",data:=.seq its.toArray k}/\Vals ys its/\ys.length<=sizeLine/\W i n ys H') ?_ m0
   ⟨0,[],[],0,H2,J0 _,st1,λb hb=>(f2 b hb).1,I2.hok.fresh (Fy _),hacc,.nil,FY _,w0⟩
  rintro n s3 ⟨i,ys,its,k,H3,I3,st3,fr3,d3,e3,r3,z3,w3⟩
  have big: ∀p∈[((↥s2:JG),({cls:=.type "list",data:=.seq its.toArray k}:JK))],↥s2<=p.1:=λp hp=>by
   have this:=FZ.mp hp;subst this;exact Fy _
  rcases turn i n ys H3 w3 with⟨stop,qn⟩|⟨go,R,hR,step⟩
  ·
   have P3:Inv (cxC X ls scope G2.objs.size s2 H2 fp) [(↥s2,{cls:=.type "list",data:=.seq its.toArray k})] (List.replicate ls.length none++σ) H3 s3:=I3.pins_of λp hp=>by
    have this:=FZ.mp hp;subst this;exact⟨e3,d3,hDC,nofD,λv z=>by cases z⟩
   refine thx (T.done (cxC X ls scope G2.objs.size s2 H2 fp) rfl rfl rfl hcalm i _ s3 _ H3 (λ_ _=>False) P3 (fpY H3 _ fr3 big) st3 stop) λr s4 qz=>?_;obtain⟨hr,I4⟩:=qz;subst hr;obtain⟨m,hm,_⟩:=I4.loc;have e4:=(I4.pin _ (GA _ (FZ.mpr rfl))).1;exact hQQ _ _ s4 _ ⟨m,hm⟩ (I2.fpOk hCle (by rw[ag (Ne.symm hDC)];exact I4.free)) (λh' sb=>xZ I2 f2 I4 (Fy _) hCle hDC sb d3 e4 r3 z3) (qn _ d3)
  ·
   have P3:Inv (cxC X ls scope G2.objs.size s2 H2 fp) [(↥s2,{cls:=.type "list",data:=.seq its.toArray k})] (List.replicate ls.length none++σ) H3 s3:=I3.pins_of λp hp=>by
    have this:=FZ.mp hp;subst this;exact⟨e3,d3,hDC,nofD,λv z=>by cases z⟩
   refine thx (T.item (cxC X ls scope G2.objs.size s2 H2 fp) rfl rfl rfl hcalm i _ s3 _ H3 (λ_ _=>False) P3 (fpY H3 _ fr3 big) st3 go) λr s4 qz=>?_;obtain⟨u,hr,h4⟩:=qz;subst hr;refine thx h4 λ_ s5 qz=>?_;obtain⟨x,H5,I5,r5,y5,st5,fr5⟩:=qz;have I5':=I5.pinned (fpY H5 _ fr5 big) (T.obj _ _ st5);refine thx (hg _ _ _ _ _ s5 _ H5 x u _ I5' r5 (step x H5 y5)) λ_ s6 qz=>?_;obtain⟨σ6,H6,I6,q6⟩:=qz;obtain⟨dr,ln,q6⟩:=q6;have back: ∀ {s7:JJ}{H7:Hp},Inv (cxC X ls scope G2.objs.size s2 H2 fp) ([((↥s2:JG),({cls:=.type "list",data:=.seq its.toArray k}:JK))]++kP fp s5.heap) σ6 H7 s7->
     Inv (cxC X ls scope G2.objs.size s2 H2 fp) [] (List.replicate ls.length none++σ) H7 s7/\tn (i+1) s7.heap/\(∀b∈fp,H7 b=none)/\H7 ↥s2=none/\s7.heap.get? ↥s2=some {cls:=.type "list",data:=.seq its.toArray k}:=λ{s7 H7} I7=>by
    have pD:=I7.pin _ (GA _ (Hj _ (FZ.mpr rfl)));have pF: ∀b∈fp,∀o,s5.heap.get? b=some o->s7.heap.get? b=some o/\H7 b=none:=λb hb o e=>by
     have q:=I7.pin (b,o) (GA _ (GA _ (iQ hb e)));exact⟨q.1,q.2.1⟩
    refine⟨(I7.pins_of (pins':=[]) λp hp=>absurd hp ⇑_).weak ?_ ?_,T.keep _ _ _ st5 λb hb o e=>(pF b hb o e).1,λb hb=>?_,pD.2.1,pD.1⟩
    ·rw[ln,FE,G1]
    ·intro j v ej;by_cases hj:j<ls.length
     ·rw[Gr (by simpa using hj),Ik,if_pos hj] at ej;cases ej
     ·rw[G0 (by simpa using hj),G1,<-dr,Iq] at ej;rw[<-ej];congr 1;omega
    ·obtain⟨o,e,_⟩:=T.obj _ _ st5 b hb;exact (pF b hb o e).2
   refine thx (ht _ _ _ _ _ s6 σ6 H6 _ I6 q6) λb s7 qz=>?_;obtain⟨H7,I7,q7⟩:=qz;cases b with
   |false=>
    rw[if_neg FU] at q7 ⊢;obtain⟨m',hm,w7⟩:=hR _ _ q7;obtain⟨a1,a2,a3,a4,a5⟩:=back I7;exact⟨m',hm,i+1,ys,its,k,H7,a1,a2,a3,a4,a5,r3,z3,w7⟩
   |true=>
    rw[if_pos rfl] at q7 ⊢;refine thx (he _ _ _ _ _ s7 σ6 H7 _ I7 q7) λy s8 qz=>?_;obtain⟨v,H8,I8,r8,z8,q8⟩:=qz;obtain⟨m',hm,w8⟩:=hR _ _ q8;obtain⟨a1,a2,a3,a4,a5⟩:=back I8;have pl:s8.heap.PlainList ↥s2 its.toArray:=⟨k,a5⟩
    refine wpAny_list_append_plain (hsz:=by rw[FP,<-r3.length];exact z3) pl λh9 hl9 hs9=>?_;obtain⟨k9,e9⟩:=hl9;have cellN: ∀ (y:Str) (c:JG),(cxC X ls scope G2.objs.size s2 H2 fp).env.cells.lookup y=some c->c≠↥s2:=λy c e=>by
     have e1:X.env.cells.lookup y=some c:=lP X.env scope.names [] cf (λy a e=>by simp at e) y c e;obtain⟨v,o,ho,_⟩:=I2.cell y c e1;exact F5 (FJ ho)
    have I9:Inv (cxC X ls scope G2.objs.size s2 H2 fp) [] (List.replicate ls.length none++σ) H8 {s8 with heap:=h9}:=
     a1.turned (t':=s8.toks) (λb o hb e=>hs9.extBut b o hb e) a4 hDC (.inr (Fy _)) cellN (λp hp=>absurd (show p∈([]:List (JG×JK)) from hp) ⇑_)
    refine⟨m',hm,i+1,ys++[v],its++[y],k9,H8,I9,T.keep _ _ _ a2 λb hb o e=>hs9.extBut b o (F5 (ltf b hb)) e,a3,a4,?_,r3.append (.cons r8 .nil),?_,w8⟩
    ·simpa using e9
    ·rw[FE,Gc];exact z8
 exact codeAny_compStart_list (loop _ rfl) (T.self _ 0 _ _ _ st1 (loop _ rfl))
theorem nZ (hcalm:X.calm=true)(S:CScope X ls scope)(hi:PI X tg iter wi)
  (hg: ∀C s2 H2 fp,PG (cxC X ls scope C s2 H2 fp) tg g)(ht: ∀C s2 H2 fp,Lf (cxC X ls scope C s2 H2 fp) ifs tt)(he: ∀C s2 H2 fp,PE (cxC X ls scope C s2 H2 fp) elt te)
  (hs: ∀x,Ks iter X.env x=pure x:=by intro _;rfl):PE X (.ListComp elt [⟨tg,iter,ifs,0⟩] scope pos) (P2 X.N ls wi g tt te):=by
 intro pins s σ H Q I h;rw[eval_ListComp];refine vn (use:=none) hcalm S hi hg ht he hs I h λD C s' H' hm _ hI q=>?_;obtain⟨m,hm⟩:=hm;exact⟨m,hm,λh' sb=>⟨.ref D,H',hI h' sb,rfl,q⟩⟩
end
end
section
noncomputable def t9 (ls:List Str)(sc outer:J8):Bool:=(sc.kind==.function && ls.all λy=>(sc.names.lookup ⟨#[63]++y.cps⟩).isNone) && sc.names.all λy=>(y.2 !=.cell) && (y.2 !=.local ||(sc.names.lookup y.1==some .local && ls.contains y.1)) && (y.2 !=.free||outer.names.lookup y.1==some .cell||outer.names.lookup y.1==some .free)
theorem CScope.of {ls:List Str}(outer:J8)(h:t9 ls scope outer=true:=by decide+kernel)(ho:X.env.scope=outer:=by rfl):CScope X ls scope:=by
 unfold t9 at h;rw[F7,Gf] at h;obtain⟨h0,h⟩:=h;rw[F7,Gf] at h0;obtain⟨h0,hq⟩:=h0;refine⟨by simpa using h0,λy hy e=>?_,λy hy e=>?_,λy hy=>?_,λy hy e=>?_,λy hy k e=>by have q:=hq y hy;rw[e] at q;cases q⟩
 ·have q:=h y hy;simp [e] at q
 ·have q:=h y hy;simp [e] at q;exact q.1
 ·have q:=h _ (PySem.mem_of_lookup hy);simp at q;exact q.2
 ·have q:=h y hy;simp [e] at q;show X.env.scope.names.lookup y.1=_\/X.env.scope.names.lookup y.1=_;rw[ho];exact q
noncomputable def CMulB (i j:Int):Prop:=i.natAbs<2 ^ 65536/\j.natAbs<2 ^ 65536
theorem uf {i:Int}{n:Nat}(h:i.natAbs<2 ^ n):Jy.Int.intBits i<=n:=by
 unfold Jy.Int.intBits;split
 ·exact FY _
 ·rename_i hz;have hz':i.natAbs≠0:=by
   intro e;exact hz (by simp_all)
  have:=(Nat.log2_lt hz').mpr h;omega
theorem CMulB.ok {i j:Int}(h:CMulB i j):IntMulOk i j:=.of_bits (F6 (uf h.1) ↥_) (F6 (uf h.2) ↥_)
section
variable {X:Cx}
theorem d9: ∀ {ns:List Int}{us:List Jx},Vals (ns.map V.int) us->IntsAre us ns
 |[],_,.nil=>.nil
 |n::r,_,.cons h t=>by
  obtain⟨tk,rfl⟩:=h;exact .cons n tk (d9 t)
theorem yD (hc:X.calm=true):CallR X (.builtin "sum") (λxs H Q=> ∃ (p:JG) (ns:List Int),xs=[.ref p]/\SqL X.K H p (ns.map V.int)/\Q (.int ns.sum) H):=by
 intro pins s σ H xs us Q I r h;obtain⟨p,ns,rfl,hq,q⟩:=h;obtain⟨u,rfl,ru⟩:=Ql r;cases ru;obtain⟨its,rv,pl,hz⟩:=I.list hq;have hi:=d9 rv;obtain⟨xs,e⟩:=hi.allInts.items;have hl:s.heap.IsList p (intItems xs):=by rw[<-e];exact pl.isList
 refine sum_intListG (I.ok.hd hc) hl λh' tk t' hk=>?_;have es:preSum (KO xs) xs.size=ns.sum:=by
  rw[preSum_eq,Ir ⇑_,<-nums_intItems,<-e];rw[show its.toArray.toList=its from rfl,hi.numsOf]
 exact⟨.int ns.sum,H,I.kept (t':=tk) hk,⟨t',by rw[es]⟩,q⟩
mutual
inductive Den (K:Zf)(H:Hp):V->KP->Prop
 |non:Den K H .non .none
 |bl (b):Den K H (.bl b) (.bool b)
 |int (i):Den K H (.int i) (.int i)
 |str (x):Den K H (.str x) (.str x)
 |lst {a xs ds}:SqL K H a xs->K7 K H xs ds->Den K H (.ref a) (.list ds)
 |tup {a xs ds}:SqT K H a xs->K7 K H xs ds->Den K H (.ref a) (.tuple ds)
inductive K7 (K:Zf)(H:Hp):List V->List KP->Prop
 |nil:K7 K H [] []
 |cons {x xs d ds}:Den K H x d->K7 K H xs ds->K7 K H (x::xs) (d::ds)
end
mutual
theorem fQ (I:Inv X pins σ H s): ∀ {x:V}{d:KP}{u:Jx},Den X.K H x d->RelV x u-> ∃as,Reads s.heap u d as
 |_,_,_,.non,r=>by cases r;exact⟨_,.none⟩
 |_,_,_,.bl b,r=>by cases r;exact⟨_,.bool b⟩
 |_,_,_,.int i,r=>by obtain⟨t,rfl⟩:=r;exact⟨_,.int i t⟩
 |_,_,_,.str i,r=>by obtain⟨t,rfl⟩:=r;exact⟨_,.str i t⟩
 |_,_,_,.lst hq ha,r=>by
  cases r;obtain⟨its,rv,⟨o,n,e1,e2,e3,e4⟩,hz⟩:=I.list hq;obtain⟨as,h⟩:=gx I ha rv;exact⟨_,.list e1 e2 e4 (by simpa using h)⟩
 |_,_,_,.tup hq ha,r=>by
  cases r;obtain⟨its,rv,⟨o,e1,e2,n,e3⟩,hz⟩:=I.tuple hq;obtain⟨as,h⟩:=gx I ha rv;exact⟨_,.tuple e1 e2 e3 (by simpa using h)⟩
theorem gx (I:Inv X pins σ H s): ∀ {xs:List V}{ds:List KP}{us:List Jx},K7 X.K H xs ds->Vals xs us-> ∃as,ReadsAll s.heap us ds as
 |_,_,_,.nil,.nil=>⟨_,.nil⟩
 |_,_,_,.cons h t,.cons r rs=>by
  obtain⟨as,h1⟩:=fQ I h r;obtain⟨bs,h2⟩:=gx I t rs;exact⟨_,.cons h1 h2⟩
end
noncomputable def OK (K:Zf)(A:JL)(neg:Bool):R2:=λx y H Q=> ∃d e,Den K H x d/\Den K H y e/\d.canLay0=true/\e.canLay0=true/\A.units+min d.depth e.depth<JM/\Q (.bl (if neg then !KP.eqv d e else KP.eqv d e)) H
theorem B8:OpR X (Kg .Eq) (OK X.K X.A false):=by
 intro pins s σ H x y v u Q I rx ry h;obtain⟨d,e,hd,he,cd,ce,hu,q⟩:=h;obtain⟨as,ra⟩:=fQ I hd rx;obtain⟨bs,rb⟩:=fQ I he ry;exact SeqAt.compareEq_reads ra rb cd ce hu ⟨.bl _,H,I,rfl,q⟩
theorem B5:OpR X (Kg .NotEq) (OK X.K X.A true):=by
 intro pins s σ H x y v u Q I rx ry h;obtain⟨d,e,hd,he,cd,ce,hu,q⟩:=h;obtain⟨as,ra⟩:=fQ I hd rx;obtain⟨bs,rb⟩:=fQ I he ry;exact SeqAt.compareNe_reads ra rb cd ce hu ⟨.bl _,H,I,rfl,q⟩
end
end
section
noncomputable def CXx (P:JB)(w:JC):CXT:=λouter H s E e s'=>
 ∃ (ea:JG) (cls a0:Jx) (H':Hp) (B:JD),e=.ref ea/\s'.os=s.os/\J9 s'.gens/\Un (frs outer) [] H H' s.heap s'.heap/\HOk P w H' s'.heap/\JD.FlyingW B outer ea cls a0 s'.heap/\
   (∀b o,s'.heap.get? b=some o->b ∉ frs outer->(H' b≠none\/ ∃o',s.heap.get? b=some o')->B.get? b=some o)/\s.heap.get? ea=none/\H' ea=none/\E cls none H'
theorem HOk.there {w:JC}(x:HOk P w H h)(e:H a=some o): ∃ob,h.get? a=some ob:=by
 have q:=x a o e;cases o with
 |lst xs=>obtain⟨_,its,n,_,e⟩:=q;exact⟨_,e⟩
 |tup xs=>obtain⟨_,its,_,⟨ob,e,_⟩,_⟩:=q;exact⟨_,e⟩
 |dK kvs=>obtain⟨_,_,vs,_,ob,es,ep,e,_⟩:=q;exact⟨_,e⟩
 |dT kvs=>obtain⟨_,_,xs,_,ob,es,ep,e,_⟩:=q;exact⟨_,e⟩
 |dN b xs ep=>obtain⟨_,_,xs,_,ob,es,e,_⟩:=q;exact⟨_,e⟩
 |set S n=>obtain⟨ob,_,_,_,e,_⟩:=q;exact⟨_,e⟩
 |ins C dx fs=>obtain⟨_,_,_,e,_⟩:=q;exact⟨_,e⟩
 |own y=>exact q
 |xd fs=>obtain⟨_,⟨_,_,_,e,_⟩,_⟩:=q;exact⟨_,e⟩
 |met f y=>exact⟨_,q⟩
 |rng lo hi=>obtain⟨_,_,_,e⟩:=q;exact⟨_,e⟩
 |frz ob u=>exact⟨_,q.1⟩
 |tbl ps=>exact⟨_,q⟩
 |ext φ=>exact q.2.1
structure InDef (X:Cx):Prop where
 stk:X.stack=X.env::X.outer
 fr:X.env.frame=some X.env.locals
 ex:X.ex=[]
theorem InDef.frs (D:InDef X):frs X.stack=X.env.locals::X.fs:=by
 rw[D.stk];unfold L2.frs;rw[Hi,D.fr];rfl
section
variable {X:Cx}{pins:List (JG×JK)}{σ:St}{H:Hp}{s:JJ}
theorem Inv.frame_obj (I:Inv X pins σ H s)(hb:b∈frs X.stack): ∃o,s.heap.get? b=some o/\ ∀vs,o.data≠.fields vs:=(I.stack.mem hb).2
theorem pZ (I:Inv X pins σ H s)(D:InDef X){args:List Jx}(hx:Is s.heap h' e C args){M:Model}{Q:Unit->JJ->Prop}{E:Jx->JJ->Prop}
  (hQ: ∀ (h'':JD) (a0:Jx) (B:JD),JD.FlyingW B X.outer e C a0 h''->(∀b o,s.heap.get? b=some o->b ∉ frs X.stack->B.get? b=some o)->(∀b∈frs X.stack,B.get? b=none)->s.heap.UpToSlots h''->Q () {s with heap:=h''}):
  JN M X.A (leaving X.env (.ref e)) Q E {s with heap:=h'}:=by
 have hin: ∀env∈X.stack,∀b,env.frame=some b->b∈frs X.stack:=λenv he b hb=>Ih.mpr ⟨env,he,hb⟩;have hl:=PySem.W.funFrames_hide I.stack hin;have fr:=I.ok.frames;rw[D.stk] at fr;have hl':s.heap.FunFrames (PySem.W.hideAll s.heap (frs X.stack)) (X.env::X.outer):=by rw[<-D.stk];exact hl
 exact wpAny_leaves_madeW (s:={s with heap:=h'}) fr D.fr (λb o q=>PySem.W.of_hideAll _ q) hl' hx λh'' t x1 x2 x3 x4=>
  hQ h'' (.ref t) _ x1 (λb o q hb=>PySem.W.hideAll_get _ q hb) (λb hb=>PySem.W.hideAll_none _ hb) ((JD.UpToSlots.of_keeps hx.keeps).trans x4)
end
section
variable {P:JB}{w:JC}{K:Zf}{mg:Str->Option Jx}{base:JD}{N:List Str}{qual:Str}{scope:J8}{f:JG}{cd:Jx}{A:JL}{outer:List Env}{s:JJ}{H:Hp}{E:XK}
theorem lE :InDef (LQ CX P w K mg base N qual scope f cd A outer s H E):=⟨rfl,rfl,rfl⟩
theorem nR {args:List Jx}(I:Inv (LQ (CXx P w) P w K mg base N qual scope f cd A outer s H E) pins σ H1 s1)
  (hx:Is s1.heap h' e C args)(hE:E C none H1):(LQ (CXx P w) P w K mg base N qual scope f cd A outer s H E).xe (.ref e) {s1 with heap:=h'}:=by
 refine pZ I lE hx λh'' a0 B fl cov nof up=>?_;have fr2: ∀b,b∈frs (LQ (CXx P w) P w K mg base N qual scope f cd A outer s H E).stack↔b=↥s\/b∈frs outer:=λb=>by
  rw[(lE (CX:=CXx P w)).frs];exact FC
 have old: ∀b o,s.heap.get? b=some o->b≠↥s:=λb o q=>F5 (FJ q);have keepB: ∀b o,s1.heap.get? b=some o->b≠↥s->b ∉ frs outer->h''.get? b=some o:=λb o q h1 h2=>fl.1 b o (cov b o q λz=>((fr2 b).mp z).elim h1 h2);have tr: ∀b u,H1 b=some u->b≠↥s/\b ∉ frs outer:=λb u q=>by
  refine⟨λz=>?_,λz=>?_⟩
  ·have:=I.stkFree b ((fr2 b).mpr (.inl z));rw[this] at q;cases q
  ·have:=I.stkFree b ((fr2 b).mpr (.inr z));rw[this] at q;cases q
 have slotB: ∀b o,s1.heap.get? b=some o->b∈frs outer-> ∃sl,h''.get? b=some {o with slots:=sl}:=λb o q hb=>by
  obtain⟨o',e',nd⟩:=I.frame_obj ((fr2 b).mpr (.inr hb));rw[q] at e';cases e';exact up b o q nd
 have baseU:Un (frs outer) [] H H1 s.heap s1.heap:=I.base;refine⟨e,C,a0,H1,B,rfl,I.os,I.bare,⟨λb o q n hb hx=>?_,λb o q n hb hx=>?_,λb o q n hx=>baseU.free b o q n hx,λb o q hx=>?_,baseU.tups,baseU.frzs,baseU.tbls⟩,λb u q=>?_,fl,λb o q hb hh=>?_,?_,?_,hE⟩
 ·exact keepB b o (baseU.keep b o q n hb hx) (old b o q) hb
 ·obtain⟨sl,q1⟩:=baseU.slot b o q n hb hx;obtain⟨sl',q2⟩:=slotB b _ q1 hb;exact⟨sl',q2⟩
 ·obtain⟨o',q1⟩:=baseU.there b o q hx;by_cases hb:b∈frs outer
  ·obtain⟨sl',q2⟩:=slotB b _ q1 hb;exact⟨_,q2⟩
  ·exact⟨o',keepB b o' q1 (old b o q) hb⟩
 ·refine (I.hok b u q).stay (λc v hc r=>?_) (λ_ r=>r) λ_ _ r=>r;have: ∃u,H1 c=some u:=by
   rcases hc with rfl|hc
   ·exact⟨u,q⟩
   ·exact⟨_,hc⟩
  obtain⟨u',qu⟩:=this;exact keepB c v r (tr c u' qu).1 (tr c u' qu).2
 ·have: ∃o1,s1.heap.get? b=some o1/\b≠↥s:=by
   rcases hh with hh|⟨o',hh⟩
   ·cases qu:H1 b with
    |none=>exact absurd qu hh
    |some u=>
     obtain⟨o1,q1⟩:=I.hok.there qu;exact⟨o1,q1,(tr b u qu).1⟩
   ·obtain⟨o1,q1⟩:=baseU.there b o' hh ⇑_;exact⟨o1,q1,old b o' hh⟩
  obtain⟨o1,q1,hne⟩:=this;have q2:=keepB b o1 q1 hne hb;rw[q] at q2;cases q2;exact cov b o q1 λz=>((fr2 b).mp z).elim hne hb
 ·cases q:s.heap.get? e with
  |none=>rfl
  |some o'=>
   obtain⟨o1,q1⟩:=baseU.there e o' q ⇑_;rw[hx.new] at q1;cases q1
 ·cases q:H1 e with
  |none=>rfl
  |some u=>
   obtain⟨o1,q1⟩:=I.hok.there q;rw[hx.new] at q1;cases q1
theorem dY:gB (CXx P w) (LQ (CXx P w) P w K mg base N qual scope f cd A outer s H E) E:=by
 intro pins σ H1 s1 e s2 I hc;obtain⟨ea,cls,a0,H2,B,rfl,os,bare,un,hok,fly,cov,new,hn,hE⟩:=hc;have frm:=I.ok.frames;refine wpAny_leaves_onW (show (A.deeper (KD qual scope ↥s f cd)).frames=some (KD qual scope ↥s f cd::outer) from frm) rfl fly λh' fl up=>?_;have fr2: ∀b,b∈frs (LQ (CXx P w) P w K mg base N qual scope f cd A outer s H E).stack↔b=↥s\/b∈frs outer:=λb=>by
  rw[(lE (CX:=CXx P w)).frs];exact FC
 have old: ∀b o,s.heap.get? b=some o->b≠↥s:=λb o q=>F5 (FJ q);have baseU:Un (frs outer) [] H H1 s.heap s1.heap:=I.base;have frN: ∀b,b∈frs (LQ (CXx P w) P w K mg base N qual scope f cd A outer s H E).stack->H2 b=none:=λb hb=>by
  obtain⟨o,q,_⟩:=I.frame_obj hb;exact un.free b o q (I.stkFree b hb) ⇑_
 have tr: ∀b u,H2 b=some u->b ∉ frs (LQ (CXx P w) P w K mg base N qual scope f cd A outer s H E).stack:=λb u q z=>by rw[frN b z] at q;cases q
 have slotB: ∀b o,s2.heap.get? b=some o->b∈frs (LQ (CXx P w) P w K mg base N qual scope f cd A outer s H E).stack-> ∃sl,h'.get? b=some {o with slots:=sl}:=λb o q hb=>by
  obtain⟨o',e',nd⟩:=(fly.2.2.1.mem hb).2;rw[q] at e';cases e';exact up b o q nd
 have noSt: ∀b o,s.heap.get? b=some o->b ∉ frs outer->b ∉ frs (LQ (CXx P w) P w K mg base N qual scope f cd A outer s H E).stack:=λb o q hb z=>((fr2 b).mp z).elim (old b o q) hb;refine⟨ea,cls,a0,H2,B,rfl,os.trans I.os,bare,⟨λb o q n hb hx=>?_,λb o q n hb hx=>?_,λb o q n hx=>?_,λb o q hx=>?_,λb xs q=>un.tups b xs (baseU.tups b xs q),λb o u q=>un.frzs b o u (baseU.frzs b o u q),λb ps q=>?_⟩,λb u q=>?_,fl,λb o q hb hh=>?_,?_,hn,hE⟩
 ·have q1:=baseU.keep b o q n hb hx;have q2:=un.keep b o q1 (baseU.free b o q n hx) (noSt b o q hb) hx;exact fl.1 b o (cov b o q2 (noSt b o q hb) (.inr ⟨o,q1⟩))
 ·obtain⟨sl,q1⟩:=baseU.slot b o q n hb hx;obtain⟨sl2,q2⟩:=un.slot b _ q1 (baseU.free b o q n hx) ((fr2 b).mpr (.inr hb)) hx;obtain⟨sl3,q3⟩:=slotB b _ q2 ((fr2 b).mpr (.inr hb));exact⟨sl3,q3⟩
 ·obtain⟨o1,q1⟩:=baseU.there b o q hx;exact un.free b o1 q1 (baseU.free b o q n hx) hx
 ·obtain⟨o1,q1⟩:=baseU.there b o q hx;obtain⟨o2,q2⟩:=un.there b o1 q1 hx;by_cases hb:b∈frs outer
  ·obtain⟨sl,q3⟩:=slotB b o2 q2 ((fr2 b).mpr (.inr hb));exact⟨_,q3⟩
  ·exact⟨o2,fl.1 b o2 (cov b o2 q2 (noSt b o q hb) (.inr ⟨o1,q1⟩))⟩
 ·obtain⟨m1,e1⟩:=baseU.tbls b ps q;obtain⟨m2,e2⟩:=un.tbls b _ e1;exact⟨m1++m2,by rw[e2,IS]⟩
 ·refine (hok b u q).stay (λc v hc r=>?_) (λ_ r=>r) λ_ _ r=>r;have: ∃u,H2 c=some u:=by
   rcases hc with rfl|hc
   ·exact⟨u,q⟩
   ·exact⟨_,hc⟩
  obtain⟨u',qu⟩:=this;exact fl.1 c v (cov c v r (tr c u' qu) (.inl (by rw[qu];simp)))
 ·have: ∃o2,s2.heap.get? b=some o2/\B.get? b=some o2:=by
   rcases hh with hh|⟨o',hh⟩
   ·cases qu:H2 b with
    |none=>exact absurd qu hh
    |some u=>
     obtain⟨o2,q2⟩:=hok.there qu;exact⟨o2,q2,cov b o2 q2 (tr b u qu) (.inl hh)⟩
   ·obtain⟨o1,q1⟩:=baseU.there b o' hh ⇑_;obtain⟨o2,q2⟩:=un.there b o1 q1 ⇑_;exact⟨o2,q2,cov b o2 q2 (noSt b o' hh hb) (.inr ⟨o1,q1⟩)⟩
  obtain⟨o2,q2,q3⟩:=this;have q4:=fl.1 b o2 q3;rw[q] at q4;cases q4;exact q3
 ·cases q:s.heap.get? ea with
  |none=>rfl
  |some o'=>
   obtain⟨o1,q1⟩:=baseU.there ea o' q ⇑_;rw[new] at q1;cases q1
end
end
section
noncomputable def Its (x:Str):It:=⟨λi _=>i<x.cps.size,λi H v H'=>H'=H/\ ∃c,x.cps.toList[i]?=some c/\v=.str ⟨#[c]⟩,λi _=>i=x.cps.size⟩
theorem qG (x:Str):["enumerate", "zip", "dict_itemiterator", "dict_reverseitemiterator", "odict_iterator", "itertools.zip_longest", "itertools.pairwise"].contains (KQ x)=false:=by
 unfold KQ;split<;>decide
theorem mt {w:JC}(hh:A.handled=none)(I:JG)(x:Str)(t:Tok):Walks prog w A I [I] [I] x.cps.size (SignAt x) (λi h=>h.IsStrIter I (KQ x) x t i):=by
 unfold KQ;split
 ·exact Walks.strAscii hh I x t
 ·exact Walks.strWide hh I x t
theorem u4 {w:JC}{E:Jx->JJ->Prop}{x:Str}{i:Nat}{Q:Jx->JJ->Prop}(hit:s.heap.IsStrIter it (KQ x) x t i)(h:Q (.ref it) s):
  JN (JP prog w) A (pyIter (.ref it)) Q E s:=by
 unfold KQ at hit;split at hit
 ·exact wpAny_pyIter_striter_ascii hit h
 ·exact wpAny_pyIter_striter_wide hit h
theorem vN {P:JB}{w:JC}{K:Zf}{tg:Expr}(it:JG)(x:Str)(t:Tok):Lo P w K tg (Its x) [it] it (λi h=>h.IsStrIter it (KQ x) x t i) where
 mem:=⇑_
 obj:=λi h st b hb=>by
  have e:b=it:=by simpa using hb
  subst e;obtain⟨o,e,c,d⟩:=st;exact⟨o,e,λv z=>by rw[d] at z;cases z⟩
 keep:=λi h h' st k=>by
  obtain⟨o,e,r⟩:=st;exact⟨o,k it ⇑_ o e,r⟩
 item:=by
  intro X hP hw hK hc i pins s σ H E I hf st hg;subst hP hw hK;obtain⟨f0,f1,f2,f3,f4,f5⟩:=hf it ⇑_;refine (mt (I.ok.hd hc) it x t).item i s _ _ hg st λv h' tk hv st' kk=>?_;obtain⟨c,u,hcu,rfl⟩:=hv;have I1:Inv X pins σ H {s with heap:=h',toks:=tk}:=I.turned (λb o hb e=>kk b o (by simpa using hb) e) f0 f1 f3 f4 f5;obtain⟨o,e,c',d⟩:=id st';exact⟨_,rfl,tU (s:={s with heap:=h',toks:=tk}) e c' d (qG x) ⟨.str ⟨#[c]⟩,H,I1,⟨u,rfl⟩,⟨rfl,c,by simpa using hcu,rfl⟩,st',λb hb=>(hf b hb).1⟩⟩
 done:=by
  intro X hP hw hK hc i pins s σ H E I hf st hg;subst hP hw hK;obtain⟨f0,f1,f2,f3,f4,f5⟩:=hf it ⇑_;have hg:i=x.cps.size:=hg;subst hg;exact (mt (I.ok.hd hc) it x t).done s _ _ st λh' tk kk=>⟨rfl,I.turned (λb o hb e=>kk b o (by simpa using hb) e) f0 f1 f3 f4 f5⟩
 self:=λ_ _ _ _ _ st h=>u4 st h
section
variable {X:Cx}{tg:Expr}
noncomputable def iStr (tl:TE):TI:=λσ H R=>tl σ H λv H1=> ∃x,v=.str x/\R (Its x) H1
theorem wE (hl:PE X l tl):PI X tg l (iStr tl):=by
 intro pins s σ H R I h;refine thn (hl pins s σ H _ I h) λv s1 qz=>?_;obtain⟨y,H1,I1,r1,q1⟩:=qz;obtain⟨x,rfl,q⟩:=q1;obtain⟨t,rfl⟩:=r1;refine wpAny_pyIter_strU ?_;refine⟨↥s1,[↥s1],_,_,H1,rfl,I1.kept (t':=s1.toks) λb o e=>FD _ e,vN _ x t,⟨_,FX _ rfl,rfl,rfl⟩,λb hb=>?_,q⟩;have e:b=↥s1:=by simpa using hb
 subst e;exact I1.fpOk (Fy _) (I1.hok.fresh (Fy _))
end
theorem E6 {x:Str}{g:TG}{tb:TS}{D:K8}{σ:St}{H:Hp}(Pv:Nat->St->Hp->Prop)(h0:Pv 0 σ H)
  (hs: ∀i c σ H,x.cps.toList[i]?=some c->Pv i σ H->g (.str ⟨#[c]⟩) σ H λσ2 H2=>tb {D with nx:=Pv (i+1),ct:=Pv (i+1),bk:=D.nx} σ2 H2)(hd: ∀σ H,Pv x.cps.size σ H->D.nx σ H):
  ∃W:Nat->Nat->St->Hp->Prop,(∃m,W 0 m σ H)/\ ∀i m σ H,W i m σ H->
   ((Its x).stop i H/\D.nx σ H)\/((Its x).go i H/\ ∃N:St->Hp->Prop,(∀σ' H',N σ' H'-> ∃m',m'<m/\W (i+1) m' σ' H')/\ ∀v H',(Its x).yld i H v H'->g v σ H' λσ2 H2=>tb {D with nx:=N,ct:=N,bk:=D.nx} σ2 H2):=by
 refine⟨λi m σ H=>m=x.cps.size - i/\i<=x.cps.size/\Pv i σ H,⟨x.cps.size,⇑_,FY _,h0⟩,?_⟩
 rintro i m σ H ⟨rfl,hi,p⟩
 by_cases hlt:i<x.cps.size
 ·refine .inr ⟨hlt,Pv (i+1),λσ' H' p'=>⟨x.cps.size - (i+1),∅,rfl,hlt,p'⟩,λv H' y=>?_⟩;obtain⟨e,c,hc,rfl⟩:=y;subst e;exact hs i c σ _ hc p
 ·have e:i=x.cps.size:=∅;subst e;exact .inl ⟨rfl,hd σ H p⟩
theorem qd {x:Str}{ls:List Str}(Pv:Nat->List V->Hp->Prop)(h0:Pv 0 [] H)
  (hs: ∀i c ys H,x.cps.toList[i]?=some c->Pv i ys H->g (.str ⟨#[c]⟩) (List.replicate ls.length none++σ) H λσ2 H2=>σ2.drop ls.length=σ/\σ2.length=ls.length+σ.length/\tt σ2 H2 λb H3=>if b=true then te σ2 H3 λv H4=>ys.length<sizeLine/\Pv (i+1) (ys++[v]) H4 else Pv (i+1) ys H3)
  (hd: ∀ys H,Pv x.cps.size ys H-> ∀D,H D=none->Q (.ref D) (upd H D (.lst ys))):K5 (Its x) ls g tt te σ H Q:=by
 refine⟨λi m ys H=>m=x.cps.size - i/\i<=x.cps.size/\Pv i ys H,⟨x.cps.size,⇑_,FY _,h0⟩,?_⟩
 rintro i m ys H ⟨rfl,hi,p⟩
 by_cases hlt:i<x.cps.size
 ·refine .inr ⟨hlt,Pv (i+1),λys' H' p'=>⟨x.cps.size - (i+1),∅,rfl,hlt,p'⟩,λv H' y=>?_⟩;obtain⟨e,c,hc,rfl⟩:=y;subst e;exact hs i c ys _ hc p
 ·have e:i=x.cps.size:=∅;subst e;exact .inl ⟨rfl,hd ys H p⟩
section
variable {X:Cx}
theorem lY: ∀ {bs:List Bool}{us:List Jx},Vals (bs.map V.bl) us->LSm.BoolsAre us bs
 |[],_,.nil=>.nil
 |b::r,_,.cons h t=>by
  have h:_=Jx.bool b:=h;subst h;exact .cons b (lY t)
theorem lT (hc:X.calm=true):CallR X (.builtin "all") (λxs H Q=> ∃ (p:JG) (bs:List Bool),xs=[.ref p]/\SqL X.K H p (bs.map V.bl)/\Q (.bl (bs.all id)) H):=by
 intro pins s σ H xs us Q I r h;obtain⟨p,bs,rfl,hq,q⟩:=h;obtain⟨u,rfl,ru⟩:=Ql r;cases ru;obtain⟨its,rv,pl,hz⟩:=I.list hq;have hb:=lY rv;have hl:=pl.isList;have hlt:p<↥s:=by obtain⟨_,e,_⟩:=hl;exact FJ e
 refine call_all_walk (wpAny_pyIter_list hl ?_)
 refine⟨↥s,[↥s,p],[↥s],its.toArray.size,_,_,λi=>(bs[i]?).getD true,rfl,Walks.list (A:=X.A.in1) (I.ok.hd hc) _ p (F5 hlt) its.toArray,
  ⟨⟨_,FX _ rfl,rfl,rfl⟩,hl.push _⟩,λi v s' Q' E' hP hQ=>?_,λh' tk hk=>?_⟩
 ·obtain⟨b,e,rfl⟩:=hb.get i v (by simpa using hP);simp only[e,IX] at hQ;exact J2 hQ
 ·have e:((List.range its.toArray.size).all λi=>(bs[i]?).getD true)=bs.all id:=by
   rw[FP,hb.length];exact LSm.range_all bs
  rw[e];exact⟨.bl _,H,I.kept (t':=tk) (LSm.kept_iter hk),rfl,q⟩
theorem Py:SlR X (λx lo hi H Q=> ∃z,x=.str z/\z.length<=sizeLine/\Q (.str (StrLaws.sliceText z lo hi)) H):=by
 intro pins s σ H x v vl vu lo hi sl Q I rx hs pl pu h;obtain⟨z,rfl,hz,q⟩:=h;obtain⟨t,rfl⟩:=rx;have part: ∀ {v:Jx}{o:Option Int},IsPart v o-> ∃p:Option (Int×Tok),v=partValue p/\p.map (·.1)=o:=λ{v o} h=>by
  cases h with
  |none=>exact⟨none,rfl,rfl⟩
  |int i t=>exact⟨some (i,t),rfl,rfl⟩
 obtain⟨l,rfl,el⟩:=part pl;obtain⟨u,rfl,eu⟩:=part pu;refine⟨"str",_,slot_str_getitem.lookup,KG s z t,?_⟩;obtain⟨o,h1,h2,h3⟩:=hs;refine wpAny_getItem_str_slice (l:=l) (u:=u) (st:=none) ⟨o,h1,h2,h3⟩ rfl ?_;subst el eu;unfold sliceMade slicePicked;unfold StrLaws.sliceText at q;simp only[Option.map_none,Il];split
 ·rename_i hc;rw[if_pos hc] at q;exact⟨.str z,H,I,⟨t,rfl⟩,q⟩
 ·rename_i hc;rw[if_neg hc] at q;refine⟨?_,.str _,H,I.tok _,⟨_,rfl⟩,q⟩;show ((_:List Nat).toArray).size<=sizeLine;rw[FP];exact F6 (List.length_filterMap_le _ _) (F6 (sliceIndices_le _ _ _) hz)
theorem jv:CallR X (.type "int") (λxs H Q=> ∃ (z:Str) (n:Int),xs=[.str z]/\PySem.intText? z=some n/\z.length<=640/\Q (.int n) H):=by
 intro pins s σ H xs us Q I r h;obtain⟨z,n,rfl,hn,hl,q⟩:=h;obtain⟨u,rfl,t,rfl⟩:=Ql r;exact PySem.W.KIN.call_text hn hl ⟨.int n,H,I.tok _,⟨_,rfl⟩,q⟩
theorem oM:CallR X (.type "str") (λxs H Q=> ∃ (z:Str),xs=[.str z]/\Q (.str z) H):=by
 intro pins s σ H xs us Q I r h;obtain⟨z,rfl,q⟩:=h;obtain⟨u,rfl,t,rfl⟩:=Ql r;exact P.str_of_str ⟨.str z,H,I,⟨_,rfl⟩,q⟩
theorem Of:OpR X (Kt .Mult) (λx y H Q=> ∃ (z:Str) (n:Int),x=.str z/\y=.int n/\MulOk z n/\Q (.str (Txt.mul z n)) H):=by
 intro pins s σ H x y v u Q I rx ry h;obtain⟨z,n,rfl,rfl,ho,q⟩:=h;obtain⟨t,rfl⟩:=rx;obtain⟨t',rfl⟩:=ry;exact SB.mul ho λt' k=>⟨.str _,H,I.tok k,⟨_,rfl⟩,q⟩
end
theorem rP (x:Str)(c:Nat):(!(Jy.Str.occurrences x ⟨#[c]⟩ 0 x.length 1).isEmpty)=decide (c∈x.cps.toList):=StrLaws.found_one x c
noncomputable def uk (X:Cx)(E:XK):Prop:= ∀ (pins:List (JG×JK)) (σ:St) (H:Hp) (s:JJ) (h':JD) (e:JG) (C:Jx) (args:List Jx),Inv X pins σ H s->Is s.heap h' e C args->E C none H->X.xe (.ref e) {s with heap:=h'}
theorem fj {w:JC}{K:Zf}{mg:Str->Option Jx}{N:List Str}{qual:Str}:
 uk (LQ (CXx P w) P w K mg base N qual scope f cd A outer s H E) E:=λ_ _ _ _ _ _ _ _ I hx hE=>nR I hx hE
noncomputable def Bg (C:Jx)(E:XK)(t:TA):TS:=λ_ σ H=>t σ H λvs H1=>vs.length<=sizeLine/\E C none H1
noncomputable abbrev Ly:List Jx:=[.type "ValueError",.type "Exception",.type "BaseException",.type "object"]
section
variable {X:Cx}{C:JG}{E:XK}{x:Str}{np cpos pos:Kb}{a:Expr}{es:List Expr}{t:TA}
theorem fk (hX:uk X E)(hc:X.calm=true)(hg:Gl X x)(hm:X.mg x=some (.ref C))(q:PySem.W.excIn X.K C Ly "ValueError.__new__"=true)(ha:PA X (a::es) t)
  (he:Kd (a::es) X.env=(false,Ka a X.env)::Kd es X.env:=by rfl)(hplain:(Kc cpos (Kd es X.env)).any (·.1)=false:=by rfl)(hd:(x==("__debug__":Str))=false:=by decide):
  PS X (.Raise (some (.Call (.Name x np) (a::es) [] cpos)) none pos) (Bg (.ref C) E t):=by
 intro pins s σ H D I h;unfold PySem.W.excIn at q;split at q
 ·rename_i dd cd sl ho;split at q
  ·rename_i C' bm k0 k1 k2 k3 n k5 hm' hs;simp only[F7,beq_iff_eq,IY] at q;obtain⟨⟨⟨⟨⟨rfl,rfl⟩,hdel⟩,ht⟩,hok⟩,hni⟩:=q;obtain⟨nm,bs,mro,ns,qn,hd',sn,sub,ab,col,del⟩:=cd;dsimp only at hm' hdel hok hni;subst hm' hdel;have hsl:sl= #[k0,k1,k2,k3,some (.builtin "ValueError.__new__"),k5]:=by
    obtain⟨l⟩:=sl;simp only at hs;rw[hs]
   subst hsl
   have obj: ∀ {hh:JD},X.K.In hh->_:=λ{hh} (XX:X.K.In hh)=>(⟨XX _ _ ho,PySem.Heap.Ns.of_isNs (PySem.W.isNs_of_in XX hok),PySem.W.nsMap_none_of_in XX hok hni,PySem.W.tail_of_in XX ht⟩:
    hh.get? C'=some (excClassObj nm qn C' ns bs bm hd' sn sub ab col dd k0 k1 k2 k3 k5 "ValueError.__new__")/\hh.Ns ns (hh.nsMap ns)/\hh.nsMap ns "__init__"=none/\OwnTail hh Ly bm)
   have o0:=obj I.ok.mod.kin;refine wpAny_Raise_call_subT (C:=C') (nm:=nm) (q:=qn) (N:=ns) (bs:=bs) (bm:=bm) (hdct:=hd') (sn:=sn) (sub:=sub) (ab:=ab) (col:=col) (dd:=dd) (k0:=k0) (k1:=k1) (k2:=k2) (k3:=k3) (k5:=k5)
    F.excBase_ValueError (mN:=X.base.nsMap ns) (o0.2.2.2.hasType F.excBase_ValueError.hasBase) (I.ok.hd hc) (by rw[he];show (false||(Kc cpos (Kd es X.env)).any (·.1))=false;rw[hplain];rfl) o0.2.2.1 (jk I hg hm ⟨rfl,?_⟩ hd)
   rw[he];refine Calls.evalArgs_plain ?_;have hq:=ha cpos pins s σ H _ I h;rw[he] at hq;refine thn hq λus s2 qz=>?_;obtain⟨vs,H1,I1,r1,z,q1⟩:=qz;have kp: ∀b o,X.base.get? b=some o->s2.heap.get? b=some o:=I1.bk;exact⟨rfl,by rw[<-r1.length];exact z,(obj I1.kIn).1,o0.2.1.keeps kp,(obj I1.kIn).2.2.2,λh' e hx=>hX pins σ H1 s2 h' e _ _ I1 hx q1⟩
  ·cases q
 ·cases q
end
end
section
noncomputable def excO (ea:JG)(cls:Jx):HO:=.ext λh=> ∃o vs,h.get? ea=some o/\o.cls=cls/\o.data=.fields vs
section
variable {P:JB}{w:JC}{K:Zf}{mg:Str->Option Jx}{base:JD}
theorem Fun.okX {x qual:Str}{st:Ke}{N ps:List Str}{k:Nat}(F:Fun K x qual st f fd)(S:Lb N ps (ac st))(len: ∀vs H Q E,sp vs H Q E->vs.length=ps.length)
  (hbody: ∀ (cdv:Jx) (A:JL) (outer:List Env) (s:JJ) (H:Hp) (vs:List V) (Q:VK) (E:XK),Room k (A.deeper (KD qual (ac st) ↥s f cdv))->sp vs H Q E->
   ∃t,PSs (LQ (CXx P w) P w K mg base N qual (ac st) f cdv A outer s H E) (bE st) t/\t {nx:=λ_ H'=>Q .non H',rt:=Q} (PV N vs) H):FnOk P w K mg base (CXx P w) (k+1) f fd ps sp:=by
 obtain⟨oc,od,kV,doc,pm,an,cdv,ct,osl,rfl,lk,hcd⟩:=F.ex;exact A4 lk hcd S len λA outer s H vs Q E hr hsp=>hbody cdv A outer s H vs Q E hr hsp
end
end
section
noncomputable def Ite (K:Zf)(a:JG):It:=
 ⟨λi H=> ∃xs x,SqL K H a xs/\xs[i]?=some x,λi H v H'=> ∃T x,H T=none/\v=.ref T/\(∀xs,SqL K H a xs->xs[i]?=some x)/\H'=upd H T (.tup [.int i,x]),λi H=> ∃xs,SqL K H a xs/\xs.length=i⟩
theorem um {P:JB}{w:JC}{K:Zf}{elts:List Expr}{x1}{tpos:Kb}(a e it:JG)(hei:e≠it):Lo P w K (.Tuple elts x1 tpos) (Ite K a) [e,it] e (λi h=>(∃old,IsEnum h e it i old)/\h.IsListIter it a i) where
 mem:=⇑_
 obj:=λi h st b hb=>by
  obtain⟨⟨old,he⟩,st⟩:=st;rcases FC.mp hb with rfl|hb
  ·exact⟨_,he,λv z=>by cases z⟩
  ·have e':b=it:=by simpa using hb
   subst e';obtain⟨o,e,c,d⟩:=st;exact⟨o,e,λv z=>by rw[d] at z;cases z⟩
 keep:=λi h h' st k=>⟨let ⟨old,he⟩:=st.1;⟨old,k e ⇑_ _ he⟩,st.2.at λo e=>k it ⇑_ o e⟩
 item:=by
  intro X hP hw hK hc i pins s σ H E I hf st hg;subst hP hw hK;obtain⟨⟨old,he⟩,st⟩:=st;obtain⟨xs,x,hq,hx⟩:=hg;obtain⟨its,rv,p,hz⟩:=I.list hq;obtain⟨u,hu,ru⟩:=rv.get hx;have fe:=hf e ⇑_;have fi:=hf it ⇑_;obtain⟨oi,hoi,hoc,hod⟩:=id st;have nai:a≠it:=λz=>by
   obtain⟨o,h1,h2,_⟩:=p.isList;rw[z,hoi] at h1;cases h1;rw[hoc] at h2;exact absurd h2 ↥_
  have nae:e≠a:=λz=>by
   obtain⟨o,h1,h2,_⟩:=p.isList;rw[<-z,show s.heap.get? e=_ from he] at h1;cases h1;exact absurd (show Jx.type "enumerate"=Jx.type "list" from h2) ↥_
  have D:=Draws.list (prog:=X.prog) (w:=X.w) (A:=X.A.in1) (I.ok.hd hc) it a nai its.toArray
  refine wpAny_pyNext_enum_itemD D he ⟨st,p.isList⟩ (by
   have:=FO.mp hu;obtain⟨z,_⟩:=this
   simpa using z) hei (by simp [hei,nae]) λv h' tk hP hout hst hT hsz hk=>?_
  have hv:v=u:=by
   have hP:its.toArray[i]?=some v:=hP;rw[Iu,hu] at hP;exact (Option.some.inj hP).symm
  subst hv;have nT:H ↥s=none:=I.hok.fresh (Fy _);have lt: ∀b o,s.heap.get? b=some o->b≠↥s:=λb o q=>F5 (FJ q);have ltH: ∀b o,H b=some o->b≠↥s:=λb o q z=>by rw[z,nT] at q;cases q
  have neH: ∀b o,H b=some o->b≠e/\b≠it:=λb o q=>⟨λz=>by (rw[z,fe.1] at q;cases q),λz=>by (rw[z,fi.1] at q;cases q)⟩
  have I1:Inv X pins σ (upd H ↥s (.tup [.int i,x])) {s with heap:=h',toks:=tk+1}:=by
   refine I.call' (s':={s with heap:=h',toks:=tk+1}) (ch:=[e,it]) rfl ⟨λb o q n hb hx=>?_,λb o q n hb hx=>?_,λb o q n hx=>?_,λb o q hx=>?_,λb xs q=>?_,λb o u q=>?_,λb ps q=>?_⟩ (λb o q=>?_) I.bare λb hb=>?_
   ·exact hk b o (λz=>hx (by simp [z])) (λz=>hx (by simp [z])) q
   ·exact⟨o.slots,hk b o (λz=>hx (by simp [z])) (λz=>hx (by simp [z])) q⟩
   ·rw[ag (lt b o q)];exact n
   ·exact⟨o,hk b o (λz=>hx (by simp [z])) (λz=>hx (by simp [z])) q⟩
   ·rw[ag (ltH b _ q)];exact q
   ·rw[ag (ltH b _ q)];exact q
   ·exact⟨#[],by rw[ag (ltH b _ q),q];simp⟩
   ·by_cases hb:b=↥s
    ·subst hb;rw[ao] at q;cases q;exact⟨by show 2<=sizeLine;decide,_,.cons ⟨tk,rfl⟩ (.cons ru .nil),⟨_,hT,rfl,_,rfl⟩,_,hT,rfl⟩
    ·rw[ag hb] at q;refine (I.hok b o q).stay (λc v hc r=>?_) (λc r=>by rw[ag (ltH c _ r)];exact r) λc xs r=>by rw[ag (ltH c _ r)];exact r
     have: ∃o,H c=some o:=by
      rcases hc with rfl|hc
      ·exact⟨o,q⟩
      ·exact⟨_,hc⟩
     obtain⟨o',qo⟩:=this;exact hk c v (neH c o' qo).1 (neH c o' qo).2 r
   ·have fb:Lc X pins H b:=by
     rcases FC.mp hb with rfl|hb
     ·exact fe
     ·have e':b=it:=by simpa using hb
      subst e';exact fi
    exact⟨fb.2.2.2.1,fb.2.1,fb.2.2.2.2.1,fb.2.2.2.2.2⟩
  refine⟨_,rfl,wpAny_letOwnedTupleGo_enum (s:={s with heap:=h',toks:=tk+1}) hout λh2 he2 hs2=>?_⟩;have neT: ∀b∈[e,it],b≠↥s:=λb hb=>by
   rcases FC.mp hb with rfl|hb
   ·exact lt _ _ he
   ·have e':b=it:=by simpa using hb
    subst e';exact lt _ _ hoi
  have fe':(upd H ↥s (.tup [.int i,x])) e=none:=by rw[ag (neT e ⇑_)];exact fe.1
  refine⟨.ref ↥s,upd H ↥s (.tup [.int i,x]),?_,rfl,⟨↥s,x,nT,rfl,λys hy=>by rw[I.list_inj hy hq];exact hx,rfl⟩,⟨⟨_,by simpa using he2⟩,hst.1.at λo eo=>(hs2.2 it (Ne.symm hei)).trans eo⟩,λb hb=>?_⟩
  ·exact I1.turned (t':=tk+1) (λb o hb eo=>(hs2.2 b hb).trans eo) fe' fe.2.1 fe.2.2.2.1 fe.2.2.2.2.1 fe.2.2.2.2.2
  ·rw[ag (neT b hb)];exact (hf b hb).1
 done:=by
  intro X hP hw hK hc i pins s σ H E I hf st hg;subst hP hw hK;obtain⟨⟨old,he⟩,st⟩:=st;obtain⟨xs,hq,hx⟩:=hg;obtain⟨its,rv,p,hz⟩:=I.list hq;have fi:=hf it ⇑_;obtain⟨oi,hoi,hoc,hod⟩:=id st;have nai:a≠it:=λz=>by
   obtain⟨o,h1,h2,_⟩:=p.isList;rw[z,hoi] at h1;cases h1;rw[hoc] at h2;exact absurd h2 ↥_
  have D:=Draws.list (prog:=X.prog) (w:=X.w) (A:=X.A.in1) (I.ok.hd hc) it a nai its.toArray;have ei:i=its.toArray.size:=by rw[FP,<-rv.length];exact hx.symm
  refine wpAny_pyNext_enum_endD D he (by rw[<-ei];exact⟨st,p.isList⟩) λh' eb=>⟨rfl,I.turned (t':=s.toks) (λb o hb e=>eb b o hb e) fi.1 fi.2.1 fi.2.2.2.1 fi.2.2.2.2.1 fi.2.2.2.2.2⟩
 self:=λ_ _ _ _ _ st h=>let ⟨_,he⟩:=st.1;KR he h
section
variable {X:Cx}
noncomputable def iEnum (K:Zf)(ta:TA):TI:=λσ H R=>ta σ H λvs H1=> ∃a,vs=[.ref a]/\(∃xs,SqL K H1 a xs)/\R (Ite K a) H1
theorem zu {x1}(hg:Gl X "enumerate")(hm:X.mg "enumerate"=none)(ha:PA X [a] ta)(hs:Kd [a] X.env=[(false,Ka a X.env)]:=by rfl):PI X (.Tuple elts x1 tpos) (.Call (.Name "enumerate" p) [a] [] pos) (iEnum X.K ta):=by
 intro pins s σ H R I h;refine Call_ (f8 I hg hm boot_enumerate (PyProof.Rows.callWith_type1 (thn (ha pos pins s σ H _ I h) λus s1 qz=>?_) hs rfl));obtain⟨vs,H1,I1,r1,q1⟩:=qz;obtain⟨b,e,⟨xs,hq⟩,q⟩:=q1;subst e;cases r1 with
 |cons r rr=>
  cases rr;cases r;obtain⟨its,rv,pl,hz⟩:=I1.list hq;refine call_enumerate_list pl.isList λh' he hi hsz hk=>?_;refine KR he ?_;have I2:Inv X pins σ H1 {s1 with heap:=h'}:=I1.kept (t':=s1.toks) hk;refine⟨↥s1+1,[↥s1+1,↥s1],_,_,H1,rfl,I2,um b _ _ ⇑_,⟨⟨_,he⟩,hi⟩,λc hc=>?_,q⟩;have hc':↥s1<=c:=by
   rcases FC.mp hc with rfl|hc
   ·exact GS _
   ·have:c=↥s1:=by simpa using hc
    exact G8 this.symm
  exact I1.fpOk hc' (I1.hok.fresh hc')
end
end
end L2
namespace L2
open PySem PySem.Spec PyProof.Rows PySem.W
end L2
namespace L2
open PySem PySem.Spec PyProof.Rows
theorem sy: ∀ {ts:List Str}{us:List Jx},Vals (ts.map V.str) us-> ∃l:List (Str×Tok),us=strValues l/\l.map (·.1)=ts
 |[],_,.nil=>⟨[],rfl,rfl⟩
 |t::ts,_,.cons h r=>by
  obtain⟨k,rfl⟩:=h;obtain⟨l,e,e2⟩:=sy r;exact⟨(t,k)::l,by rw[e];rfl,by rw[<-e2];rfl⟩
theorem uj (a b:Str):(a++b).length=a.length+b.length:=by
 show (a.cps++b.cps).size=_;rw[Iv];rfl
theorem lx (sep:Str): ∀ (ts:List Str),(Str.join sep ts).length<=(ts.map (·.length)).sum+ts.length * sep.length
 |[]=>FY _
 |[x]=>by
  show x.length<=_;simp
 |x::y::r=>by
  show (x++sep++Str.join sep (y::r)).length<=_;have ih:=lx sep (y::r);rw[uj,uj,FK,Ho,FH];have:((y::r).length+1) * sep.length=(y::r).length * sep.length+sep.length:=by rw[Nat.succ_mul]
  omega
section
variable {X:Cx}
noncomputable def rJoin (K:Zf):V->List V->Hp->VK->Prop:=λx vs H Q=> ∃ (sep:Str) (p:JG) (ts:List Str),x=.str sep/\vs=[.ref p]/\SqL K H p (ts.map V.str)/\(ts.map (·.length)).sum+ts.length * sep.length<=sizeLine/\Q (.str (Str.join sep ts)) H
theorem zN:MtM X "str.join" (rJoin X.K):=by
 intro pins s σ H x vs v us Q I rx rv h;obtain⟨sep,p,ts,rfl,rfl,hq,hz,q⟩:=h;obtain⟨t,rfl⟩:=rx;obtain⟨u,rfl,ru⟩:=rv.one;cases ru;obtain⟨its,r,pl,_⟩:=I.list hq;obtain⟨l,rfl,rfl⟩:=sy r
 refine KI F.slot_str_join (KG s sep t) F.entry_str_join (F.args_str_join_2 _ _) (meets_str_join_list sep t p l (by
  rw[StrLaws.joinTotal];unfold Jy.Str.tooLong
  exact decide_eq_false ∅)) ⟨pl.isList,?_⟩
 cases l with
 |nil=>exact⟨by rw[StrLaws.glued_eq_join];exact F6 (lx sep _) hz,.str _,H,I.tok _,⟨_,by rw[StrLaws.glued_eq_join]⟩,q⟩
 |cons a l=>
  cases l with
  |nil=>exact⟨.str a.1,H,I,⟨a.2,rfl⟩,q⟩
  |cons b l=>exact⟨by rw[StrLaws.glued_eq_join];exact F6 (lx sep _) hz,.str _,H,I.tok _,⟨_,by rw[StrLaws.glued_eq_join]⟩,q⟩
end
end L2
namespace L2
open PySem
end L2
namespace L2
open PySem PySem.Spec PyProof.Rows
open Sem (wp)
open Builtin
section
variable {prog:JB}{w:JC}{A:JL}{E:Jx->JJ->Prop}{s:JJ}
theorem vO {i:Nat}{Q:Jx->JJ->Prop}(g:s.heap.IsTupleIter j t i)(gt:s.heap.IsTuple t its)(hx:its[i]?=some x)(k:∀h',h'.IsTupleIter j t (i+1)->GD j s.heap h'->Q x {s with heap:=h'}):JN (JP prog w) A (SmallTypes.nextOf (.ref j)) Q E s:=by
 obtain⟨o,q1,q2,q3⟩:=id g;obtain⟨u,z1,_,n,z2⟩:=gt;unfold SmallTypes.nextOf;refine JR (wpAny_callSpecial?_slot (name:=Str.ofString "__next__") g.typeIs F.slot_tuple_iterator_next (JV F.slot_tuple_iterator_next g.typeIs F.entry_tuple_iterator_next ?_ (F.args_tuple_iterator_next_1 _)));show JN _ _ (field (.ref j) 0>>=_) _ _ s;refine JR (KE q1 q3 (x:=.ref t) rfl ?_);show JN _ _ (if (Jx.ref t==Jx.none)=true then _ else _) _ _ s;rw[if_neg (show¬((Jx.ref t==Jx.none)=true) from FU)];show JN _ _ (field (.ref j) 1>>=_) _ _ s;refine JR (KE q1 q3 (x:=.int i 0) rfl ?_);show JN _ _ (seqItems? (.ref t)>>=_) _ _ s;refine JR (J3 z1 z2 ?_);simp only[Hm,hx];refine JR (wpAny_setField q1 q3 ⇑_ (JX ⟨x,rfl,JX (k _ ?_ (GD.update ..))⟩));exact⟨_,IV _ q1 (JK.isFreed_of_fields (JK.data_mapFields q3 _)),(JK.cls_mapFields ..).trans q2,by rw[JK.data_mapFields q3];simp [Kq]⟩
theorem vP {i:Nat}{Q:Jx->JJ->Prop}(hh:A.handled=none)(g:s.heap.IsTupleIter j t i)(gt:s.heap.IsTuple t its)(hx:its[i]?=none)(k:∀h' e,JD.ExtBut j s.heap h'->(∃o,h'.get? e=some o/\o.cls=.type "StopIteration")->E (.ref e) {s with heap:=h'}):JN (JP prog w) A (SmallTypes.nextOf (.ref j)) Q E s:=by
 obtain⟨o,q1,q2,q3⟩:=id g;obtain⟨u,z1,_,n,z2⟩:=gt;unfold SmallTypes.nextOf;refine JR (wpAny_callSpecial?_slot (name:=Str.ofString "__next__") g.typeIs F.slot_tuple_iterator_next (JV F.slot_tuple_iterator_next g.typeIs F.entry_tuple_iterator_next ?_ (F.args_tuple_iterator_next_1 _)));show JN _ _ (field (.ref j) 0>>=_) _ _ s;refine JR (KE q1 q3 (x:=.ref t) rfl ?_);show JN _ _ (if (Jx.ref t==Jx.none)=true then _ else _) _ _ s;rw[if_neg (show¬((Jx.ref t==Jx.none)=true) from FU)];show JN _ _ (field (.ref j) 1>>=_) _ _ s;refine JR (KE q1 q3 (x:=.int i 0) rfl ?_);show JN _ _ (seqItems? (.ref t)>>=_) _ _ s;refine JR (J3 z1 z2 ?_);simp only[Hm,hx];refine JR (JY (JR (wpAny_setField q1 q3 ⇑_ ?_)));show JN _ _ (newExc (.type "StopIteration") []>>=_) _ _ _;refine JR ?_;simp only[newExc,newTuple];refine JR (KF ?_ (by size_fits));refine JR (m:=firstArgMember _ _) (wpAny_of_eq (a:=Jx.none) (by first|rfl|(simp only[firstArgMember];rfl)) (KF ?_ (by size_fits)));simp only[raiseNew];refine JR (wpAny_handled ?_)
 first|rw[show A.in1.handled=none from hh]|rw[hh]
 exact JR (JX (wpAny_throw (k _ _ (((GD.update ..).extBut.push _).push _) ⟨_,FX _ rfl,rfl⟩)))
end
theorem iC {prog:JB}{w:JC}{A:JL}(hh:A.handled=none)(j t:JG)(hne:t≠j)(its:Array Jx):Draws prog w A j [j,t] its.size (λi v=>its[i]?=some v) (λi h=>h.IsTupleIter j t i/\h.IsTuple t its) where
 live:=λ_ _ st=>let ⟨o,q,_⟩:=st.1;⟨o,q⟩
 frame:=λ_ _ _ st k=>⟨let ⟨o,q,r⟩:=st.1;⟨o,k j ⇑_ o q,r⟩,let ⟨o,q,r⟩:=st.2;⟨o,k t ⇑_ o q,r⟩⟩
 item:=λi s Q E hi st k=>vO st.1 st.2 (x:=its[i]) (by simp [hi]) λh' a b=>k _ h' s.toks (by simp [hi]) ⟨a,st.2.extBut b.extBut hne⟩ b
 done:=λs Q E st k=>vP hh st.1 st.2 ⇑_ k
theorem Qg (p:IsTup h a its):h.IsTuple a its:=p
set_option maxRecDepth 100000 in
theorem pO (l:JG)(its:Array Jx)(n:Nat)(dct:Option JG)(sl:Array (Option Jx)):
  Meets (Jy.«enumerate.__new__» ⟨[.type "enumerate",.ref l],[]⟩) (λ_ R s=>s.heap.get? l=some {cls:=.type "tuple",dict:=dct,data:=.seq its n,slots:=sl}/\
   R (.ok (.ret (.ref (s.heap.push {cls:=.type "tuple_iterator",data:=.fields #[.ref l,.int 0 0]}).objs.size))) {s with heap:=(s.heap.push {cls:=.type "tuple_iterator",data:=.fields #[.ref l,.int 0 0]}).push {cls:=.type "enumerate",data:=.fields #[.none,.bool false,.ref ↥s,Kq 0,.none,.none]}}):=
 .of_wp λprog w A R s h=>by
  obtain⟨hp,g,d,tk,os⟩:=s;obtain⟨hl,h⟩:=h;have hsub:=sub_enumerate;have hT:JD.IsTuple (JJ.heap ⟨hp,g,d,tk,os⟩) l its:=⟨_,hl,rfl,n,rfl⟩
  wp_walk using AutoSeq1.wpAny_loadPart' hl
  refine wpAny_stack_any λst=>JX ?_;split
  ·rename_i c _ _ _ _ _;cases (c==Jx.type "enumerate")<;>(wp_walk using AutoSeq1.wpAny_loadPart' hl,Kr hT;exact⟨_,rfl,h⟩)
  ·wp_walk using AutoSeq1.wpAny_loadPart' hl,Kr hT
   exact⟨_,rfl,h⟩
section
variable {prog:JB}{w:JC}{A:JL}{E:Jx->JJ->Prop}{s:JJ}
theorem rZ {Q:Jx->JJ->Prop}(hT:s.heap.IsTuple l its)
  (k:∀h',IsEnum h' (↥s+1) ↥s 0 .none->h'.IsTupleIter ↥s l 0->h'.objs.size=↥s+2->(∀b o,s.heap.get? b=some o->h'.get? b=some o)->Q (.ref (↥s+1)) {s with heap:=h'}):
  JN (JP prog w) A (call (.type "enumerate") [.ref l]) Q E s:=by
 obtain⟨⟨c,dct,dt,sl⟩,hl,hc,n,hd⟩:=hT
 replace hc:c=.type "tuple":=hc
 replace hd:dt=.seq its n:=hd
 subst hc hd;refine callType_new F.called_enumerate ↥_ (F.typeCall_enumerate_1 _) (F.newCall_enumerate_1 _) (λobj=>F.args_object_init_2 obj _) F.entry_enumerate_new (pO l its n dct sl) ⟨hl,?_⟩;have hz:(s.heap.push {cls:=.type "tuple_iterator",data:=.fields #[.ref l,.int 0 0]}).objs.size=↥s+1:=GB ..;show _/\_;rw[hz];have he:IsEnum ((s.heap.push {cls:=.type "tuple_iterator",data:=.fields #[.ref l,.int 0 0]}).push {cls:=.type "enumerate",data:=.fields #[.none,.bool false,.ref ↥s,Kq 0,.none,.none]}) (↥s+1) ↥s 0 .none:=by
  have z:=FX (s.heap.push {cls:=.type "tuple_iterator",data:=.fields #[.ref l,.int 0 0]}) (o:={cls:=.type "enumerate",data:=.fields #[.none,.bool false,.ref ↥s,Kq 0,.none,.none]}) rfl;rw[hz] at z;exact z
 refine⟨⟨_,he,rfl⟩,k _ he ⟨_,FD _ (FX _ rfl),rfl,rfl⟩ (by rw[GB,hz]) λb o x=>FD _ (FD _ x)⟩
end
noncomputable def IteT (K:Zf)(a:JG):It:=
 ⟨λi H=> ∃xs x,SqT K H a xs/\xs[i]?=some x,λi H v H'=> ∃T x,H T=none/\v=.ref T/\(∀xs,SqT K H a xs->xs[i]?=some x)/\H'=upd H T (.tup [.int i,x]),λi H=> ∃xs,SqT K H a xs/\xs.length=i⟩
theorem qE {P:JB}{w:JC}{K:Zf}{elts:List Expr}{x1}{tpos:Kb}(a e it:JG)(hei:e≠it):Lo P w K (.Tuple elts x1 tpos) (IteT K a) [e,it] e (λi h=>(∃old,IsEnum h e it i old)/\h.IsTupleIter it a i) where
 mem:=⇑_
 obj:=λi h st b hb=>by
  obtain⟨⟨old,he⟩,st⟩:=st;rcases FC.mp hb with rfl|hb
  ·exact⟨_,he,λv z=>by cases z⟩
  ·have e':b=it:=by simpa using hb
   subst e';obtain⟨o,e,c,d⟩:=st;exact⟨o,e,λv z=>by rw[d] at z;cases z⟩
 keep:=λi h h' st k=>⟨let ⟨old,he⟩:=st.1;⟨old,k e ⇑_ _ he⟩,st.2.at λo e=>k it ⇑_ o e⟩
 item:=by
  intro X hP hw hK hc i pins s σ H E I hf st hg;subst hP hw hK;obtain⟨⟨old,he⟩,st⟩:=st;obtain⟨xs,x,hq,hx⟩:=hg;obtain⟨its,rv,p,hz⟩:=I.tuple hq;obtain⟨u,hu,ru⟩:=rv.get hx;have fe:=hf e ⇑_;have fi:=hf it ⇑_;obtain⟨oi,hoi,hoc,hod⟩:=id st;have nai:a≠it:=λz=>by
   obtain⟨o,h1,h2,_⟩:=(Qg p)
   rw[z,hoi] at h1;cases h1;rw[hoc] at h2;exact absurd h2 ↥_
  have nae:e≠a:=λz=>by
   obtain⟨o,h1,h2,_⟩:=(Qg p)
   rw[<-z,show s.heap.get? e=_ from he] at h1;cases h1;exact absurd (show Jx.type "enumerate"=Jx.type "tuple" from h2) ↥_
  have D:=iC (prog:=X.prog) (w:=X.w) (A:=X.A.in1) (I.ok.hd hc) it a nai its.toArray
  refine wpAny_pyNext_enum_itemD D he ⟨st,(Qg p)⟩ (by
   have:=FO.mp hu;obtain⟨z,_⟩:=this
   simpa using z) hei (by simp [hei,nae]) λv h' tk hP hout hst hT hsz hk=>?_
  have hv:v=u:=by
   have hP:its.toArray[i]?=some v:=hP;rw[Iu,hu] at hP;exact (Option.some.inj hP).symm
  subst hv;have nT:H ↥s=none:=I.hok.fresh (Fy _);have lt: ∀b o,s.heap.get? b=some o->b≠↥s:=λb o q=>F5 (FJ q);have ltH: ∀b o,H b=some o->b≠↥s:=λb o q z=>by rw[z,nT] at q;cases q
  have neH: ∀b o,H b=some o->b≠e/\b≠it:=λb o q=>⟨λz=>by (rw[z,fe.1] at q;cases q),λz=>by (rw[z,fi.1] at q;cases q)⟩
  have I1:Inv X pins σ (upd H ↥s (.tup [.int i,x])) {s with heap:=h',toks:=tk+1}:=by
   refine I.call' (s':={s with heap:=h',toks:=tk+1}) (ch:=[e,it]) rfl ⟨λb o q n hb hx=>?_,λb o q n hb hx=>?_,λb o q n hx=>?_,λb o q hx=>?_,λb xs q=>?_,λb o u q=>?_,λb ps q=>?_⟩ (λb o q=>?_) I.bare λb hb=>?_
   ·exact hk b o (λz=>hx (by simp [z])) (λz=>hx (by simp [z])) q
   ·exact⟨o.slots,hk b o (λz=>hx (by simp [z])) (λz=>hx (by simp [z])) q⟩
   ·rw[ag (lt b o q)];exact n
   ·exact⟨o,hk b o (λz=>hx (by simp [z])) (λz=>hx (by simp [z])) q⟩
   ·rw[ag (ltH b _ q)];exact q
   ·rw[ag (ltH b _ q)];exact q
   ·exact⟨#[],by rw[ag (ltH b _ q),q];simp⟩
   ·by_cases hb:b=↥s
    ·subst hb;rw[ao] at q;cases q;exact⟨by show 2<=sizeLine;decide,_,.cons ⟨tk,rfl⟩ (.cons ru .nil),⟨_,hT,rfl,_,rfl⟩,_,hT,rfl⟩
    ·rw[ag hb] at q;refine (I.hok b o q).stay (λc v hc r=>?_) (λc r=>by rw[ag (ltH c _ r)];exact r) λc xs r=>by rw[ag (ltH c _ r)];exact r
     have: ∃o,H c=some o:=by
      rcases hc with rfl|hc
      ·exact⟨o,q⟩
      ·exact⟨_,hc⟩
     obtain⟨o',qo⟩:=this;exact hk c v (neH c o' qo).1 (neH c o' qo).2 r
   ·have fb:Lc X pins H b:=by
     rcases FC.mp hb with rfl|hb
     ·exact fe
     ·have e':b=it:=by simpa using hb
      subst e';exact fi
    exact⟨fb.2.2.2.1,fb.2.1,fb.2.2.2.2.1,fb.2.2.2.2.2⟩
  refine⟨_,rfl,wpAny_letOwnedTupleGo_enum (s:={s with heap:=h',toks:=tk+1}) hout λh2 he2 hs2=>?_⟩;have neT: ∀b∈[e,it],b≠↥s:=λb hb=>by
   rcases FC.mp hb with rfl|hb
   ·exact lt _ _ he
   ·have e':b=it:=by simpa using hb
    subst e';exact lt _ _ hoi
  have fe':(upd H ↥s (.tup [.int i,x])) e=none:=by rw[ag (neT e ⇑_)];exact fe.1
  refine⟨.ref ↥s,upd H ↥s (.tup [.int i,x]),?_,rfl,⟨↥s,x,nT,rfl,λys hy=>by rw[I.tuple_inj hy hq];exact hx,rfl⟩,⟨⟨_,by simpa using he2⟩,hst.1.at λo eo=>(hs2.2 it (Ne.symm hei)).trans eo⟩,λb hb=>?_⟩
  ·exact I1.turned (t':=tk+1) (λb o hb eo=>(hs2.2 b hb).trans eo) fe' fe.2.1 fe.2.2.2.1 fe.2.2.2.2.1 fe.2.2.2.2.2
  ·rw[ag (neT b hb)];exact (hf b hb).1
 done:=by
  intro X hP hw hK hc i pins s σ H E I hf st hg;subst hP hw hK;obtain⟨⟨old,he⟩,st⟩:=st;obtain⟨xs,hq,hx⟩:=hg;obtain⟨its,rv,p,hz⟩:=I.tuple hq;have fi:=hf it ⇑_;obtain⟨oi,hoi,hoc,hod⟩:=id st;have nai:a≠it:=λz=>by
   obtain⟨o,h1,h2,_⟩:=(Qg p)
   rw[z,hoi] at h1;cases h1;rw[hoc] at h2;exact absurd h2 ↥_
  have D:=iC (prog:=X.prog) (w:=X.w) (A:=X.A.in1) (I.ok.hd hc) it a nai its.toArray;have ei:i=its.toArray.size:=by rw[FP,<-rv.length];exact hx.symm
  refine wpAny_pyNext_enum_endD D he (by rw[<-ei];exact⟨st,(Qg p)⟩) λh' eb=>⟨rfl,I.turned (t':=s.toks) (λb o hb e=>eb b o hb e) fi.1 fi.2.1 fi.2.2.2.1 fi.2.2.2.2.1 fi.2.2.2.2.2⟩
 self:=λ_ _ _ _ _ st h=>let ⟨_,he⟩:=st.1;KR he h
section
variable {X:Cx}
noncomputable def Di (K:Zf)(ta:TA):TI:=λσ H R=>ta σ H λvs H1=> ∃a,vs=[.ref a]/\(∃xs,SqT K H1 a xs)/\R (IteT K a) H1
theorem wG {x1}(hg:Gl X "enumerate")(hm:X.mg "enumerate"=none)(ha:PA X [a] ta)(hs:Kd [a] X.env=[(false,Ka a X.env)]:=by rfl):PI X (.Tuple elts x1 tpos) (.Call (.Name "enumerate" p) [a] [] pos) (Di X.K ta):=by
 intro pins s σ H R I h;refine Call_ (f8 I hg hm boot_enumerate (PyProof.Rows.callWith_type1 (thn (ha pos pins s σ H _ I h) λus s1 qz=>?_) hs rfl));obtain⟨vs,H1,I1,r1,q1⟩:=qz;obtain⟨b,e,⟨xs,hq⟩,q⟩:=q1;subst e;cases r1 with
 |cons r rr=>
  cases rr;cases r;obtain⟨its,rv,pl,hz⟩:=I1.tuple hq;refine rZ (Qg pl) λh' he hi hsz hk=>?_;refine KR he ?_;have I2:Inv X pins σ H1 {s1 with heap:=h'}:=I1.kept (t':=s1.toks) hk;refine⟨↥s1+1,[↥s1+1,↥s1],_,_,H1,rfl,I2,qE b _ _ ⇑_,⟨⟨_,he⟩,hi⟩,λc hc=>?_,q⟩;have hc':↥s1<=c:=by
   rcases FC.mp hc with rfl|hc
   ·exact GS _
   ·have:c=↥s1:=by simpa using hc
    exact G8 this.symm
  exact I1.fpOk hc' (I1.hok.fresh hc')
end
section
open Sem (wp)
open Builtin
noncomputable def ItAt (h:JD)(T:String)(j l:JG)(i:Nat):Prop:= ∃o,h.get? j=some o/\o.cls=.type T/\o.data=.fields #[.ref l,.int i 0]
noncomputable def SeqAt (h:JD)(T:String)(l:JG)(its:Array Jx):Prop:=(T= "list_iterator"/\h.IsList l its)\/(T= "tuple_iterator"/\h.IsTuple l its)
theorem SeqAt.keep (x:SeqAt h T l its)(k:∀o,h.get? l=some o->h'.get? l=some o):SeqAt h' T l its:=
 x.imp (λ⟨e,o,a,b⟩=>⟨e,o,k o a,b⟩) λ⟨e,o,a,b⟩=>⟨e,o,k o a,b⟩
theorem ItAt.keep {i:Nat}(x:ItAt h T j l i)(k:∀o,h.get? j=some o->h'.get? j=some o):ItAt h' T j l i:=let ⟨o,a,b⟩:=x;⟨o,k o a,b⟩
theorem fL {prog:JB}{w:JC}{A:JL}(hh:A.handled=none)(T:String)(j l:JG)(hne:l≠j)(its:Array Jx):Draws prog w A j [j,l] its.size (λi v=>its[i]?=some v) (λi h=>ItAt h T j l i/\SeqAt h T l its) where
 live:=λ_ _ st=>let ⟨o,q,_⟩:=st.1;⟨o,q⟩
 frame:=λ_ _ _ st k=>⟨st.1.keep λo q=>k j ⇑_ o q,st.2.keep λo q=>k l ⇑_ o q⟩
 item:=λi s Q E hi st k=>by
  obtain⟨a,⟨rfl,b⟩|⟨rfl,b⟩⟩:=st
  ·exact (Draws.list (prog:=prog) (w:=w) hh j l hne its).item i s Q E hi ⟨a,b⟩ λx h' tk p st sb=>k x h' tk p ⟨st.1,.inl ⟨rfl,st.2⟩⟩ sb
  ·exact (iC (prog:=prog) (w:=w) hh j l hne its).item i s Q E hi ⟨a,b⟩ λx h' tk p st sb=>k x h' tk p ⟨st.1,.inr ⟨rfl,st.2⟩⟩ sb
 done:=λs Q E st k=>by
  obtain⟨a,⟨rfl,b⟩|⟨rfl,b⟩⟩:=st
  ·exact (Draws.list (prog:=prog) (w:=w) hh j l hne its).done s Q E ⟨a,b⟩ k
  ·exact (iC (prog:=prog) (w:=w) hh j l hne its).done s Q E ⟨a,b⟩ k
section
variable {prog:JB}{w:JC}{A:JL}{E:Jx->JJ->Prop}{s:JJ}
theorem pW {Q:Jx->JJ->Prop}(hl:SeqAt s.heap T l its)(k:Q (.ref ↥s) {s with heap:=s.heap.push {cls:=.type T,data:=.fields #[.ref l,.int 0 0]}}):JN (JP prog w) A (pyIter (.ref l)) Q E s:=by
 obtain⟨rfl,hl⟩|⟨rfl,hl⟩:=hl
 ·exact wpAny_pyIter_list hl k
 ·exact Kr hl k
structure ZA (z TI TO i1 i2 l1 l2:JG):Prop where
 a1:TI≠z
 a2:TO≠z
 a3:i1≠z
 a4:i2≠z
 a5:TI≠TO
 a6:TI≠i1
 a7:TI≠i2
 a8:TO≠i1
 a9:TO≠i2
 b1:i1≠i2
 b2:l1≠z
 b3:l1≠TO
 b4:l1≠i1
 b5:l1≠i2
 b6:l2≠z
 b7:l2≠TO
 b8:l2≠i1
 b9:l2≠i2
structure ZS (h:JD)(z TI TO i1 i2 l1 l2:JG)(T1 T2:String)(xs ys:Array Jx)(n:Nat)(f0:Jx):Prop where
 z:IsZip h z TI TO f0
 ti:KS h TI (.ref i1) (.ref i2)
 to: ∃a b,KS h TO a b
 u1:ItAt h T1 i1 l1 n
 u2:ItAt h T2 i2 l2 n
 s1:SeqAt h T1 l1 xs
 s2:SeqAt h T2 l2 ys
theorem vH {z TI TO i1 i2 l1 l2:JG}{n:Nat}{Q:Jx->JJ->Prop}(hh:A.handled=none)(D:ZA z TI TO i1 i2 l1 l2)(Z:ZS s.heap z TI TO i1 i2 l1 l2 T1 T2 xs ys n .none)(hx:xs[n]?=some x)(hy:ys[n]?=some y)
  (k:∀h' tk,ZS h' z TI TO i1 i2 l1 l2 T1 T2 xs ys (n+1) (Kq ↥s)->KS h' ↥s x y->h'.objs.size=↥s+1->(∀c o,c≠z->c≠TO->c≠i1->c≠i2->s.heap.get? c=some o->h'.get? c=some o)->Q (.ref ↥s) {s with heap:=h',toks:=tk}):
  JN (JP prog w) A (Jy.«zip.__next__» ⟨[.ref z],[]⟩) (λfin s'=> ∃v,fin=.done (.ret v)/\Q v s') E s:=by
 obtain⟨hz,hti,⟨a,b,hto⟩,u1,u2,s1,s2⟩:=Z;have nx:n<xs.size:=(IZ.mp hx).1;have ny:n<ys.size:=(IZ.mp hy).1;show JN _ _ (field (.ref z) 2>>=_) _ _ s;refine JR (KE hz rfl (x:=.bool false) rfl ?_);show JN _ _ (field (.ref z) 3>>=_) _ _ s;refine JR (KE hz rfl (x:=.ref TI) rfl (JR (J3 hti rfl ?_)));show JN _ _ (SmallTypes.ownedTupleIsFree (.ref z)>>=_) _ _ s;refine JR ?_;unfold SmallTypes.ownedTupleIsFree;refine JR (KE hz rfl (x:=.none) rfl (JX ?_));simp only[if_true];refine JR (JY (JR (KE hz rfl (x:=.ref TO) rfl (JR (KU hz ⇑_ λh1 z1 e1=>?_)))))
 replace z1:IsZip h1 z TI TO .ellipsis:=z1
 refine JR ?_;simp only[List.zipIdx_cons,List.zipIdx_nil,GH,GN];refine JR (JR (KW ?_));show JN _ _ (SmallTypes.nextOf (.ref i1)>>=_) _ _ _;refine JR ((fL (prog:=prog) (w:=w) hh T1 i1 l1 D.b4 xs).item n _ _ _ nx ⟨u1.keep λo q=>e1.extBut _ _ D.a3 q,s1.keep λo q=>e1.extBut _ _ D.b2 q⟩ λx' h2 tk2 px st2 e2=>JX ?_);have:x'=x:=Option.some.inj (px.symm.trans hx);subst this;have to2:KS h2 TO a b:=e2.extBut _ _ D.a8 (e1.extBut _ _ D.a2 hto);refine JR (J3 to2 rfl (JR (KY to2 λh3 to3 e3=>?_)))
 replace to3:KS h3 TO x' b:=to3
 refine JR (KZ (JX (JR (JR (KW ?_)))));show JN _ _ (SmallTypes.nextOf (.ref i2)>>=_) _ _ _;refine JR ((fL (prog:=prog) (w:=w) hh T2 i2 l2 D.b9 ys).item n _ _ _ ny ⟨u2.keep λo q=>e3.extBut _ _ (Ne.symm D.a9) (e2.extBut _ _ (Ne.symm D.b1) (e1.extBut _ _ D.a4 q)),s2.keep λo q=>e3.extBut _ _ D.b7 (e2.extBut _ _ D.b8 (e1.extBut _ _ D.b6 q))⟩ λy' h4 tk4 py st4 e4=>JX ?_);have:y'=y:=Option.some.inj (py.symm.trans hy);subst this;have to4:KS h4 TO x' b:=e4.extBut _ _ D.a9 to3;refine JR (J3 to4 rfl (JR (KY to4 λh5 to5 e5=>?_)))
 replace to5:KS h5 TO x' y':=to5
 refine JR (KZ (JX (JX ?_)));refine JR (J3 to5 rfl (JR (wpAny_newTuple ?_)));have zs:h5.objs.size=↥s:=by rw[e5.1,e4.1,e3.1,e2.1,e1.1]
 have z5:IsZip h5 z TI TO .ellipsis:=e5.extBut _ _ (Ne.symm D.a2) (e4.extBut _ _ (Ne.symm D.a4) (e3.extBut _ _ (Ne.symm D.a2) (e2.extBut _ _ (Ne.symm D.a3) z1)));have k5: ∀c o,c≠z->c≠TO->c≠i1->c≠i2->s.heap.get? c=some o->h5.get? c=some o:=λc o c1 c2 c3 c4 e=>e5.extBut _ _ c2 (e4.extBut _ _ c4 (e3.extBut _ _ c2 (e2.extBut _ _ c3 (e1.extBut _ _ c1 e))));have zl:z<h5.objs.size:=FJ z5;show JN _ _ (SmallTypes.ownedTupleHandOut (.ref z) (.ref h5.objs.size)>>=_) _ _ _;refine JR ?_;unfold SmallTypes.ownedTupleHandOut;have z6:IsZip (h5.push {cls:=.type "tuple",data:=.seq #[x',y']}) z TI TO .ellipsis:=FD _ z5;refine JR (KU z6 ⇑_ λh7 z7 e7=>?_)
 replace z7:IsZip h7 z TI TO (Kq h5.objs.size):=z7
 refine KU z7 ⇑_ λh8 z8 e8=>?_
 replace z8:IsZip h8 z TI TO (Kq h5.objs.size):=z8
 have up: ∀c o,c≠z->h5.get? c=some o->h8.get? c=some o:=λc o c1 e=>e8.extBut _ _ c1 (e7.extBut _ _ c1 (FD _ e));have pr8:KS h8 h5.objs.size x' y':=e8.extBut _ _ (Hk zl) (e7.extBut _ _ (Hk zl) (FX _ rfl));have sz8:h8.objs.size=h5.objs.size+1:=by rw[e8.1,e7.1,GB]
 rw[zs] at z8 pr8 sz8;refine JX ⟨_,rfl,?_⟩;show Q (.ref h5.objs.size) _;rw[zs];refine k h8 _ ⟨z8,up _ _ D.a1 (k5 _ _ D.a1 D.a5 D.a6 D.a7 hti),⟨_,_,up _ _ D.a2 to5⟩,?_,?_,s1.keep λo q=>up _ _ D.b2 (k5 _ _ D.b2 D.b3 D.b4 D.b5 q),s2.keep λo q=>up _ _ D.b6 (k5 _ _ D.b6 D.b7 D.b8 D.b9 q)⟩ pr8 sz8 λc o c1 c2 c3 c4 e=>up c o c1 (k5 c o c1 c2 c3 c4 e)
 ·exact st2.1.keep λo q=>up _ _ D.a3 (e5.extBut _ _ (Ne.symm D.a8) (e4.extBut _ _ D.b1 (e3.extBut _ _ (Ne.symm D.a8) q)))
 ·exact st4.1.keep λo q=>up _ _ D.a4 (e5.extBut _ _ (Ne.symm D.a9) q)
theorem yT {z TI TO i1 i2 l1 l2:JG}{n:Nat}{Q:Fin->JJ->Prop}(hh:A.handled=none)(D:ZA z TI TO i1 i2 l1 l2)(Z:ZS s.heap z TI TO i1 i2 l1 l2 T1 T2 xs ys n .none)(he:(n=xs.size/\n<=ys.size)\/(n<xs.size/\n=ys.size))
  (k:∀h' tk e,(∀c o,c≠z->c≠TO->c≠i1->c≠i2->s.heap.get? c=some o->h'.get? c=some o)->(∃o,h'.get? e=some o/\o.cls=.type "StopIteration")->E (.ref e) {s with heap:=h',toks:=tk}):
  JN (JP prog w) A (Jy.«zip.__next__» ⟨[.ref z],[]⟩) Q E s:=by
 obtain⟨hz,hti,⟨a,b,hto⟩,u1,u2,s1,s2⟩:=Z;show JN _ _ (field (.ref z) 2>>=_) _ _ s;refine JR (KE hz rfl (x:=.bool false) rfl ?_);show JN _ _ (field (.ref z) 3>>=_) _ _ s;refine JR (KE hz rfl (x:=.ref TI) rfl (JR (J3 hti rfl ?_)));show JN _ _ (SmallTypes.ownedTupleIsFree (.ref z)>>=_) _ _ s;refine JR ?_;unfold SmallTypes.ownedTupleIsFree;refine JR (KE hz rfl (x:=.none) rfl (JX ?_));simp only[if_true];refine JR (JY (JR (KE hz rfl (x:=.ref TO) rfl (JR (KU hz ⇑_ λh1 z1 e1=>?_)))))
 replace z1:IsZip h1 z TI TO .ellipsis:=z1
 refine JR ?_;simp only[List.zipIdx_cons,List.zipIdx_nil,GH,GN];refine JR (JR (KW ?_));show JN _ _ (SmallTypes.nextOf (.ref i1)>>=_) _ _ _;have st1:ItAt h1 T1 i1 l1 n/\SeqAt h1 T1 l1 xs:=⟨u1.keep λo q=>e1.extBut _ _ D.a3 q,s1.keep λo q=>e1.extBut _ _ D.b2 q⟩
 rcases he with⟨rfl,_⟩|⟨nx,hy⟩
 ·refine JR ((fL (prog:=prog) (w:=w) hh T1 i1 l1 D.b4 xs).done _ _ _ st1 λh2 e e2 he=>?_);obtain⟨oe,g1,g2⟩:=he;have z2:IsZip h2 z TI TO .ellipsis:=e2 _ _ (Ne.symm D.a3) z1;have ez:e≠z:=λq=>by subst q;rw[z2] at g1;cases g1;simp at g2
  exact KU z2 ⇑_ λh3 _ e3=>k h3 _ e (λc o c1 _ c3 _ q=>e3.extBut _ _ c1 (e2 _ _ c3 (e1.extBut _ _ c1 q))) ⟨oe,e3.extBut _ _ ez g1,g2⟩
 ·refine JR ((fL (prog:=prog) (w:=w) hh T1 i1 l1 D.b4 xs).item n _ _ _ nx st1 λx' h2 tk2 px st2 e2=>JX ?_);have to2:KS h2 TO a b:=e2.extBut _ _ D.a8 (e1.extBut _ _ D.a2 hto);refine JR (J3 to2 rfl (JR (KY to2 λh3 to3 e3=>?_)));refine JR (KZ (JX (JR (JR (KW ?_)))));show JN _ _ (SmallTypes.nextOf (.ref i2)>>=_) _ _ _;subst hy;refine JR ((fL (prog:=prog) (w:=w) hh T2 i2 l2 D.b9 ys).done _ _ _ ⟨u2.keep λo q=>e3.extBut _ _ (Ne.symm D.a9) (e2.extBut _ _ (Ne.symm D.b1) (e1.extBut _ _ D.a4 q)),s2.keep λo q=>e3.extBut _ _ D.b7 (e2.extBut _ _ D.b8 (e1.extBut _ _ D.b6 q))⟩ λh4 e e4 he=>?_);obtain⟨oe,g1,g2⟩:=he;have z4:IsZip h4 z TI TO .ellipsis:=e4 _ _ (Ne.symm D.a4) (e3.extBut _ _ (Ne.symm D.a2) (e2.extBut _ _ (Ne.symm D.a3) z1));have ez:e≠z:=λq=>by subst q;rw[z4] at g1;cases g1;simp at g2
  exact KU z4 ⇑_ λh5 _ e5=>k h5 _ e (λc o c1 c2 c3 c4 q=>e5.extBut _ _ c1 (e4 _ _ c4 (e3.extBut _ _ c2 (e2.extBut _ _ c3 (e1.extBut _ _ c1 q))))) ⟨oe,e5.extBut _ _ ez g1,g2⟩
theorem xi {z TI TO i1 i2 l1 l2:JG}{n:Nat}{Q:Option Jx->JJ->Prop}(hh:A.in1.handled=none)(D:ZA z TI TO i1 i2 l1 l2)(Z:ZS s.heap z TI TO i1 i2 l1 l2 T1 T2 xs ys n .none)(hx:xs[n]?=some x)(hy:ys[n]?=some y)
  (k:∀h' tk,ZS h' z TI TO i1 i2 l1 l2 T1 T2 xs ys (n+1) (Kq ↥s)->KS h' ↥s x y->h'.objs.size=↥s+1->(∀c o,c≠z->c≠TO->c≠i1->c≠i2->s.heap.get? c=some o->h'.get? c=some o)->Q (some (.ref ↥s)) {s with heap:=h',toks:=tk}):
  JN (JP prog w) A (Ko (.ref z)) Q E s:=by
 have hT:s.TypeIs (.ref z) "zip":=⟨_,Z.z,rfl⟩
 unfold Ko;exact JR (wpAny_attempt (wpAny_callSpecial?_slot (name:=Str.ofString "__next__") hT F.slot_zip_next (JV F.slot_zip_next hT F.entry_zip_next (vH hh D Z hx hy λh' tk a1 a2 a3 a4=>JX (k h' tk a1 a2 a3 a4)) (F.args_zip_next_1 _))))
theorem AB {z TI TO i1 i2 l1 l2:JG}{n:Nat}{Q:Option Jx->JJ->Prop}(hh:A.in1.handled=none)(D:ZA z TI TO i1 i2 l1 l2)(Z:ZS s.heap z TI TO i1 i2 l1 l2 T1 T2 xs ys n .none)(he:(n=xs.size/\n<=ys.size)\/(n<xs.size/\n=ys.size))
  (k:∀h' tk,(∀c o,c≠z->c≠TO->c≠i1->c≠i2->s.heap.get? c=some o->h'.get? c=some o)->Q none {s with heap:=h',toks:=tk}):JN (JP prog w) A (Ko (.ref z)) Q E s:=by
 have hT:s.TypeIs (.ref z) "zip":=⟨_,Z.z,rfl⟩
 unfold Ko;refine JR (wpAny_attempt (wpAny_callSpecial?_slot (name:=Str.ofString "__next__") hT F.slot_zip_next (JV F.slot_zip_next hT F.entry_zip_next (yT hh D Z he λh' tk e hk ⟨o,g1,g2⟩=>?_) (F.args_zip_next_1 _))));exact JR (JZ (T:= "StopIteration") (b:=true) ⟨o,g1,g2⟩ isSubtype_stop (JX (k _ _ hk)))
end
noncomputable abbrev zA (h:JD)(T:String)(l:JG):JD:=h.push {cls:=.type T,data:=.fields #[.ref l,.int 0 0]}
theorem rA (l1 l2:JG)(T1 T2:String)(xs ys:Array Jx):
  Meets (Jy.«zip.__new__» ⟨[.type "zip",.ref l1,.ref l2],[]⟩) (λ_ R s=>SeqAt s.heap T1 l1 xs/\SeqAt s.heap T2 l2 ys/\
   R (.ok (.ret (.ref ((((zA (zA s.heap T1 l1) T2 l2).push {cls:=.type "tuple",data:=.seq #[.ref ↥s,.ref (zA s.heap T1 l1).objs.size]}).push {cls:=.type "tuple",data:=.seq #[.none,.none]}).objs.size))))
     {s with heap:=(((zA (zA s.heap T1 l1) T2 l2).push {cls:=.type "tuple",data:=.seq #[.ref ↥s,.ref (zA s.heap T1 l1).objs.size]}).push {cls:=.type "tuple",data:=.seq #[.none,.none]}).push {cls:=.type "zip",data:=.fields #[.none,.bool false,.bool false,.ref (zA (zA s.heap T1 l1) T2 l2).objs.size,.ref ((zA (zA s.heap T1 l1) T2 l2).push {cls:=.type "tuple",data:=.seq #[.ref ↥s,.ref (zA s.heap T1 l1).objs.size]}).objs.size]}}):=
 .of_wp λprog w A R s h=>by
  obtain⟨hp,g,d,tk,os⟩:=s;obtain⟨q1,q2,h⟩:=h;have hsub:=sub_zip;have r1:SeqAt (JJ.heap ⟨hp,g,d,tk,os⟩) T1 l1 xs:=q1;have r2:SeqAt (JJ.heap ⟨hp.push {cls:=.type T1,data:=.fields #[.ref l1,.int 0 0]},g,d,tk,os⟩) T2 l2 ys:=q2.keep λo e=>FD _ e
  wp_walk using pW r1,pW r2
  exact⟨_,rfl,h⟩
section
variable {prog:JB}{w:JC}{A:JL}{E:Jx->JJ->Prop}{s:JJ}
theorem vp {Q:Jx->JJ->Prop}(q1:SeqAt s.heap T1 l1 xs)(q2:SeqAt s.heap T2 l2 ys)
  (k:∀h',ZS h' (↥s+4) (↥s+2) (↥s+3) ↥s (↥s+1) l1 l2 T1 T2 xs ys 0 .none->h'.objs.size=↥s+5->(∀c o,s.heap.get? c=some o->h'.get? c=some o)->Q (.ref (↥s+4)) {s with heap:=h'}):
  JN (JP prog w) A (call (.type "zip") [.ref l1,.ref l2]) Q E s:=by
 refine callType_new F.called_zip ↥_ (F.typeCall_zip_2 _ _) (F.newCall_zip_2 _ _) (λobj=>F.args_object_init_3 obj _ _) F.entry_zip_new (rA l1 l2 T1 T2 xs ys) ⟨q1,q2,?_⟩;have y1:(zA s.heap T1 l1).objs.size=↥s+1:=GB ..;have y2:(zA (zA s.heap T1 l1) T2 l2).objs.size=↥s+2:=by rw[GB,y1]
 generalize e2:zA (zA s.heap T1 l1) T2 l2=H2 at *;have y3:(H2.push {cls:=.type "tuple",data:=.seq #[.ref ↥s,.ref (zA s.heap T1 l1).objs.size]}).objs.size=↥s+3:=by rw[GB,y2]
 have g3:(H2.push {cls:=.type "tuple",data:=.seq #[.ref ↥s,.ref (zA s.heap T1 l1).objs.size]}).get? H2.objs.size=some _:=FX _ rfl;have up3: ∀c o,H2.get? c=some o->(H2.push {cls:=.type "tuple",data:=.seq #[.ref ↥s,.ref (zA s.heap T1 l1).objs.size]}).get? c=some o:=λc o e=>FD _ e;generalize H2.push {cls:=.type "tuple",data:=.seq #[.ref ↥s,.ref (zA s.heap T1 l1).objs.size]}=H3 at *;have y4:(H3.push {cls:=.type "tuple",data:=.seq #[.none,.none]}).objs.size=↥s+4:=by rw[GB,y3]
 have g4:(H3.push {cls:=.type "tuple",data:=.seq #[.none,.none]}).get? H3.objs.size=some _:=FX _ rfl;have up4: ∀c o,H3.get? c=some o->(H3.push {cls:=.type "tuple",data:=.seq #[.none,.none]}).get? c=some o:=λc o e=>FD _ e;generalize H3.push {cls:=.type "tuple",data:=.seq #[.none,.none]}=H4 at *;have y5:(H4.push {cls:=.type "zip",data:=.fields #[.none,.bool false,.bool false,.ref H2.objs.size,.ref H3.objs.size]}).objs.size=↥s+5:=by rw[GB,y4]
 have g5:(H4.push {cls:=.type "zip",data:=.fields #[.none,.bool false,.bool false,.ref H2.objs.size,.ref H3.objs.size]}).get? H4.objs.size=some _:=FX _ rfl;have up5: ∀c o,H4.get? c=some o->(H4.push {cls:=.type "zip",data:=.fields #[.none,.bool false,.bool false,.ref H2.objs.size,.ref H3.objs.size]}).get? c=some o:=λc o e=>FD _ e;generalize H4.push {cls:=.type "zip",data:=.fields #[.none,.bool false,.bool false,.ref H2.objs.size,.ref H3.objs.size]}=H5 at *;have u2:H2.get? (↥s+1)=some {cls:=.type T2,data:=.fields #[.ref l2,.int 0 0]}:=by rw[<-e2,<-y1];exact FX _ rfl
 have u1:H2.get? ↥s=some {cls:=.type T1,data:=.fields #[.ref l1,.int 0 0]}:=by rw[<-e2];exact FD _ (FX _ rfl)
 have kk: ∀c o,s.heap.get? c=some o->H2.get? c=some o:=λc o e=>by rw[<-e2];exact FD _ (FD _ e)
 have up: ∀c o,H2.get? c=some o->H5.get? c=some o:=λc o e=>up5 c o (up4 c o (up3 c o e));show _/\_;rw[y4] at g5 ⊢;rw[y2,y3] at g5;rw[y2,y1] at g3;rw[y3] at g4;exact⟨⟨_,g5,rfl⟩,k _ ⟨g5,up5 _ _ (up4 _ _ g3),⟨_,_,up5 _ _ g4⟩,⟨_,up _ _ u1,rfl,rfl⟩,⟨_,up _ _ u2,rfl,rfl⟩,q1.keep λo e=>up _ _ (kk _ _ e),q2.keep λo e=>up _ _ (kk _ _ e)⟩ y5 λc o e=>up c o (kk c o e)⟩
end
end
section
noncomputable def SqK (k:Bool)(K:Zf)(H:Hp)(a:JG)(xs:List V):Prop:=match k with
 |true=>SqT K H a xs
 |false=>SqL K H a xs
noncomputable def tyK (k:Bool):String:=match k with
 |true=> "tuple_iterator"
 |false=> "list_iterator"
section
variable {X:Cx}{pins:List (JG×JK)}{σ:St}{H:Hp}{s:JJ}{a:JG}{xs ys:List V}{k:Bool}
theorem Inv.seqK (I:Inv X pins σ H s)(h:SqK k X.K H a xs): ∃its:List Jx,Vals xs its/\SeqAt s.heap (tyK k) a its.toArray:=by
 cases k with
 |false=>
  obtain⟨its,rv,p,_⟩:=I.list h;exact⟨its,rv,.inl ⟨rfl,p.isList⟩⟩
 |true=>
  obtain⟨its,rv,p,_⟩:=I.tuple h;exact⟨its,rv,.inr ⟨rfl,Qg p⟩⟩
theorem Inv.seqK_inj (I:Inv X pins σ H s)(h:SqK k X.K H a xs)(g:SqK k X.K H a ys):xs=ys:=by
 cases k with
 |false=>exact I.list_inj h g
 |true=>exact I.tuple_inj h g
end
noncomputable def Itz (j k:Bool)(K:Zf)(a b:JG):It:=
 ⟨λi H=> ∃xs ys x y,SqK j K H a xs/\SqK k K H b ys/\xs[i]?=some x/\ys[i]?=some y,λi H v H'=> ∃T x y,H T=none/\v=.ref T/\(∀xs ys,SqK j K H a xs->SqK k K H b ys->xs[i]?=some x/\ys[i]?=some y)/\H'=upd H T (.tup [x,y]),λi H=> ∃xs ys,SqK j K H a xs/\SqK k K H b ys/\min xs.length ys.length=i⟩
structure ZO (h:JD)(z TI TO i1 i2 a b:JG)(T1 T2:String)(n:Nat)(f0:Jx):Prop where
 z:IsZip h z TI TO f0
 ti:KS h TI (.ref i1) (.ref i2)
 to: ∃u v,KS h TO u v
 u1:ItAt h T1 i1 a n
 u2:ItAt h T2 i2 b n
theorem ZO.keep {z TI TO i1 i2 a b:JG}{n:Nat}(Z:ZO h z TI TO i1 i2 a b T1 T2 n f0)(k:∀c∈[z,TI,TO,i1,i2],∀o,h.get? c=some o->h'.get? c=some o):ZO h' z TI TO i1 i2 a b T1 T2 n f0:=
 ⟨k z ⇑_ _ Z.z,k TI ⇑_ _ Z.ti,let ⟨u,v,q⟩:=Z.to;⟨u,v,k TO ⇑_ _ q⟩,Z.u1.keep λo q=>k i1 ⇑_ o q,Z.u2.keep λo q=>k i2 ⇑_ o q⟩
theorem vM {P:JB}{w:JC}{K:Zf}{elts:List Expr}{x1}{tpos:Kb}{a b z TI TO i1 i2:JG}{j k:Bool}(D:ZA z TI TO i1 i2 a b):Lo P w K (.Tuple elts x1 tpos) (Itz j k K a b) [z,TI,TO,i1,i2] z (λi h=>ZO h z TI TO i1 i2 a b (tyK j) (tyK k) i .none) where
 mem:=⇑_
 obj:=λi h st c hc=>by
  simp only[FC,Ga,or_false] at hc;rcases hc with rfl|rfl|rfl|rfl|rfl
  ·exact⟨_,st.z,λv z=>by cases z⟩
  ·exact⟨_,st.ti,λv z=>by cases z⟩
  ·obtain⟨_,_,q⟩:=st.to;exact⟨_,q,λv z=>by cases z⟩
  ·obtain⟨o,e,c,d⟩:=st.u1;exact⟨o,e,λv z=>by rw[d] at z;cases z⟩
  ·obtain⟨o,e,c,d⟩:=st.u2;exact⟨o,e,λv z=>by rw[d] at z;cases z⟩
 keep:=λi h h' st kk=>st.keep kk
 item:=by
  intro X hP hw hK hc i pins s σ H E I hf st hg;subst hP hw hK;obtain⟨xs,ys,x,y,hq1,hq2,hx,hy⟩:=hg;obtain⟨is1,rv1,q1⟩:=I.seqK hq1;obtain⟨is2,rv2,q2⟩:=I.seqK hq2;obtain⟨u,hu,ru⟩:=rv1.get hx;obtain⟨v,hv,rv⟩:=rv2.get hy;have fz:=hf z ⇑_;have fO:=hf TO ⇑_;have f1:=hf i1 ⇑_;have f2:=hf i2 ⇑_;refine xi (I.ok.hd hc) D ⟨st.z,st.ti,st.to,st.u1,st.u2,q1,q2⟩ (by simpa using hu) (by simpa using hv) λh' tk Z' hT hsz hk=>?_;have nT:H ↥s=none:=I.hok.fresh (Fy _);have lt: ∀c o,s.heap.get? c=some o->c≠↥s:=λc o q=>F5 (FJ q);have ltH: ∀c o,H c=some o->c≠↥s:=λc o q z=>by rw[z,nT] at q;cases q
  have neH: ∀c o,H c=some o->c≠z/\c≠TO/\c≠i1/\c≠i2:=λc o q=>⟨λz=>by (rw[z,fz.1] at q;cases q),λz=>by (rw[z,fO.1] at q;cases q),λz=>by (rw[z,f1.1] at q;cases q),λz=>by (rw[z,f2.1] at q;cases q)⟩
  have hk': ∀c o,c ∉ [z,TO,i1,i2]->s.heap.get? c=some o->h'.get? c=some o:=λc o n q=>hk c o (λz=>n (by simp [z])) (λz=>n (by simp [z])) (λz=>n (by simp [z])) (λz=>n (by simp [z])) q;have I1:Inv X pins σ (upd H ↥s (.tup [x,y])) {s with heap:=h',toks:=tk}:=by
   refine I.call' (s':={s with heap:=h',toks:=tk}) (ch:=[z,TO,i1,i2]) rfl ⟨λb o q n hb hx=>?_,λb o q n hb hx=>?_,λb o q n hx=>?_,λb o q hx=>?_,λb xs q=>?_,λb o u q=>?_,λb ps q=>?_⟩ (λb o q=>?_) I.bare λb hb=>?_
   ·exact hk' b o hx q
   ·exact⟨o.slots,hk' b o hx q⟩
   ·rw[ag (lt b o q)];exact n
   ·exact⟨o,hk' b o hx q⟩
   ·rw[ag (ltH b _ q)];exact q
   ·rw[ag (ltH b _ q)];exact q
   ·exact⟨#[],by rw[ag (ltH b _ q),q];simp⟩
   ·by_cases hb:b=↥s
    ·subst hb;rw[ao] at q;cases q;exact⟨by show 2<=sizeLine;decide,_,.cons ru (.cons rv .nil),⟨_,hT,rfl,_,rfl⟩,_,hT,rfl⟩
    ·rw[ag hb] at q;refine (I.hok b o q).stay (λc v hc r=>?_) (λc r=>by rw[ag (ltH c _ r)];exact r) λc xs r=>by rw[ag (ltH c _ r)];exact r
     have: ∃o,H c=some o:=by
      rcases hc with rfl|hc
      ·exact⟨o,q⟩
      ·exact⟨_,hc⟩
     obtain⟨o',qo⟩:=this;obtain⟨n1,n2,n3,n4⟩:=neH c o' qo;exact hk c v n1 n2 n3 n4 r
   ·have fb:Lc X pins H b:=by
     simp only[FC,Ga,or_false] at hb;rcases hb with rfl|rfl|rfl|rfl
     ·exact fz
     ·exact fO
     ·exact f1
     ·exact f2
    exact⟨fb.2.2.2.1,fb.2.1,fb.2.2.2.2.1,fb.2.2.2.2.2⟩
  refine⟨_,rfl,wpAny_letOwnedTupleGo_zip (s:={s with heap:=h',toks:=tk}) Z'.z λh2 hz2 hs2=>?_⟩;have nn: ∀c∈[z,TI,TO,i1,i2],c≠↥s:=λc hc=>by
   simp only[FC,Ga,or_false] at hc;rcases hc with rfl|rfl|rfl|rfl|rfl
   ·exact lt _ _ st.z
   ·exact lt _ _ st.ti
   ·obtain⟨_,_,q⟩:=st.to;exact lt _ _ q
   ·obtain⟨o,e,_⟩:=st.u1;exact lt _ _ e
   ·obtain⟨o,e,_⟩:=st.u2;exact lt _ _ e
  have fe':(upd H ↥s (.tup [x,y])) z=none:=by rw[ag (nn z ⇑_)];exact fz.1
  refine⟨.ref ↥s,upd H ↥s (.tup [x,y]),?_,rfl,⟨↥s,x,y,nT,rfl,λxs' ys' h1 h2=>by rw[I.seqK_inj h1 hq1,I.seqK_inj h2 hq2];exact⟨hx,hy⟩,rfl⟩,?_,λc hc=>?_⟩
  ·exact I1.turned (t':=tk) (λb o hb eo=>(hs2.2 b hb).trans eo) fe' fz.2.1 fz.2.2.2.1 fz.2.2.2.2.1 fz.2.2.2.2.2
  ·have up: ∀c o,c≠z->h'.get? c=some o->h2.get? c=some o:=λc o n q=>hs2.extBut _ _ n q;obtain⟨u',v',q⟩:=Z'.to;exact⟨hz2,up _ _ D.a1 Z'.ti,⟨u',v',up _ _ D.a2 q⟩,Z'.u1.keep λo q=>up _ _ D.a3 q,Z'.u2.keep λo q=>up _ _ D.a4 q⟩
  ·rw[ag (nn c hc)];exact (hf c hc).1
 done:=by
  intro X hP hw hK hc i pins s σ H E I hf st hg;subst hP hw hK;obtain⟨xs,ys,hq1,hq2,hx⟩:=hg;obtain⟨is1,rv1,q1⟩:=I.seqK hq1;obtain⟨is2,rv2,q2⟩:=I.seqK hq2;have l1:=rv1.length;have l2:=rv2.length;have fz:=hf z ⇑_;have fO:=hf TO ⇑_;have f1:=hf i1 ⇑_;have f2:=hf i2 ⇑_
  refine AB (I.ok.hd hc) D ⟨st.z,st.ti,st.to,st.u1,st.u2,q1,q2⟩ (by
   rw[FP,FP]
   omega) λh' tk hk=>⟨rfl,?_⟩
  refine I.call' (s':={s with heap:=h',toks:=tk}) (ch:=[z,TO,i1,i2]) rfl ⟨λb o q n hb hx=>?_,λb o q n hb hx=>?_,λb o q n hx=>n,λb o q hx=>?_,λb xs q=>q,λb o u q=>q,λb ps q=>⟨#[],by rw[q];simp⟩⟩ (λb o q=>?_) I.bare λb hb=>?_
  ·exact hk b o (λz=>hx (by simp [z])) (λz=>hx (by simp [z])) (λz=>hx (by simp [z])) (λz=>hx (by simp [z])) q
  ·exact⟨o.slots,hk b o (λz=>hx (by simp [z])) (λz=>hx (by simp [z])) (λz=>hx (by simp [z])) (λz=>hx (by simp [z])) q⟩
  ·exact⟨o,hk b o (λz=>hx (by simp [z])) (λz=>hx (by simp [z])) (λz=>hx (by simp [z])) (λz=>hx (by simp [z])) q⟩
  ·refine (I.hok b o q).stay (λc v hc r=>?_) (λc r=>r) λc xs r=>r;have: ∃o,H c=some o:=by
    rcases hc with rfl|hc
    ·exact⟨o,q⟩
    ·exact⟨_,hc⟩
   obtain⟨o',qo⟩:=this;exact hk c v (λz=>by rw[z,fz.1] at qo;cases qo) (λz=>by rw[z,fO.1] at qo;cases qo) (λz=>by rw[z,f1.1] at qo;cases qo) (λz=>by rw[z,f2.1] at qo;cases qo) r
  ·have fb:Lc X pins H b:=by
    simp only[FC,Ga,or_false] at hb;rcases hb with rfl|rfl|rfl|rfl
    ·exact fz
    ·exact fO
    ·exact f1
    ·exact f2
   exact⟨fb.2.2.2.1,fb.2.1,fb.2.2.2.2.1,fb.2.2.2.2.2⟩
 self:=λ_ _ _ _ _ st h=>wpAny_pyIter_zip st.z h
section
variable {X:Cx}
noncomputable def iZip (j k:Bool)(K:Zf)(ta:TA):TI:=λσ H R=>ta σ H λvs H1=> ∃a b,vs=[.ref a,.ref b]/\(∃xs,SqK j K H1 a xs)/\(∃ys,SqK k K H1 b ys)/\R (Itz j k K a b) H1
theorem A8 (n a b:Nat)(h1:a<n)(h2:b<n):(n+2≠n+4/\n+3≠n+4/\n≠n+4/\n+1≠n+4/\n+2≠n+3/\n+2≠n/\n+2≠n+1/\n+3≠n/\n+3≠n+1)/\(n≠n+1/\a≠n+4/\a≠n+3/\a≠n/\a≠n+1/\b≠n+4/\b≠n+3/\b≠n/\b≠n+1):=∅
theorem A7 (h1:l1<n)(h2:l2<n):ZA (n+4) (n+2) (n+3) n (n+1) l1 l2:=
 by
 obtain⟨⟨a1,a2,a3,a4,a5,a6,a7,a8,a9⟩,b1,b2,b3,b4,b5,b6,b7,b8,b9⟩:=A8 n l1 l2 h1 h2;exact⟨a1,a2,a3,a4,a5,a6,a7,a8,a9,b1,b2,b3,b4,b5,b6,b7,b8,b9⟩
theorem BI {j k:Bool}{x1}(hg:Gl X "zip")(hm:X.mg "zip"=none)(ha:PA X [a,b] ta)(hs:Kd [a,b] X.env=[(false,Ka a X.env),(false,Ka b X.env)]:=by rfl)(hs2:Kd [b] X.env=[(false,Ka b X.env)]:=by rfl):PI X (.Tuple elts x1 tpos) (.Call (.Name "zip" p) [a,b] [] pos) (iZip j k X.K ta):=by
 intro pins s σ H R I h;refine Call_ (f8 I hg hm boot_zip (PyProof.Rows.callWith_type1 (thn (ha pos pins s σ H _ I h) λus s1 qz=>?_) (by rw[hs,hs2]) (by rw[hs2];rfl)));obtain⟨vs,H1,I1,r1,q1⟩:=qz;obtain⟨a',b',e,⟨xs,hq1⟩,⟨ys,hq2⟩,q⟩:=q1;subst e;obtain⟨u,v,rfl,ru,rv⟩:=r1.two;cases ru;cases rv;obtain⟨is1,rv1,t1⟩:=I1.seqK hq1;obtain⟨is2,rv2,t2⟩:=I1.seqK hq2;have lt: ∀ {T:String}{l:JG}{u:Array Jx},SeqAt s1.heap T l u->l<↥s1:=λ{T l u} h=>by
  rcases h with⟨_,o,e,_⟩|⟨_,o,e,_⟩<;>exact FJ e
 refine vp t1 t2 λh' Z hsz hk=>wpAny_pyIter_zip Z.z ?_;have I2:Inv X pins σ H1 {s1 with heap:=h'}:=I1.kept (t':=s1.toks) hk;refine⟨↥s1+4,[↥s1+4,↥s1+2,↥s1+3,↥s1,↥s1+1],_,_,H1,rfl,I2,vM (j:=j) (k:=k) (A7 (lt t1) (lt t2)),⟨Z.z,Z.ti,Z.to,Z.u1,Z.u2⟩,λc hc=>?_,q⟩;have hc':↥s1<=c:=by
  simp only[FC,Ga,or_false] at hc;rcases hc with rfl|rfl|rfl|rfl|rfl
  ·exact Hq _ _
  ·exact Hq _ _
  ·exact Hq _ _
  ·exact Fy _
  ·exact Hq _ _
 exact I1.fpOk hc' (I1.hok.fresh hc')
end
end
section
inductive W where
 |ty (n:String)|exc (c:Str)|cls (c:Str)|non|bl (b:Bool)|int (i:Int)|str (x:Str)
 |tup (l:List W)|tl (l:List W)|cl (l:List W)|dv (ks:List Key)(ws:List W)|dn (b:Bool)(ks:List PKy)(ws:List W)|kt (ks:List Key)|loc (k:Nat)
inductive Ob where
 |lst (l:List W)|dic (ks:List Key)(ws:List W)|dit (ks:List (List Key))(ws:List W)|din (b:Bool)(ks:List PKy)(ws:List W)|ins (c:Str)(ns:List Str)(ws:List W)|gone
structure Wo where
 mu:Nat->JG
 h:List Ob
 H:Hp
noncomputable def Lv (o:Wo)(a:JG):Prop:= ∃k b,o.h[k]?=some b/\b≠.gone/\o.mu k=a
noncomputable def FrL (K:Zf)(a:JG)(xs:List V):Prop:= ∃ (o:JK) (its:Array Jx) (n:Nat),K.lookup a=some o/\o.cls=.type "list"/\o.dict=none/\o.data=.seq its n/\its.size<=sizeLine/\Vals xs its.toList
noncomputable def KeyN (K:Zf)(H:Hp)(b:Bool)(c:JG)(k:PKy):Prop:= ∃d,SqT K H c (match b with
 |false=>[.int k.1,.ref d]
 |true=>[.ref d,.int k.1])/\SqT K H d (k.2.map V.int)
mutual
noncomputable def Rv (K:Zf)(o:Wo):W->V->Prop
 |.ty n,v=>v=.ty n
 |.exc c,v=> ∃a C,v=.ref a/\Jv K J6 c=some (some (.ref C))/\o.H a=some (excO a (.ref C))
 |.cls c,v=> ∃C,v=.ref C/\Jv K J6 c=some (some (.ref C))
 |.non,v=>v=.non
 |.bl b,v=>v=.bl b
 |.int i,v=>v=.int i
 |.str x,v=>v=.str x
 |.tup l,v=> ∃a vs,v=.ref a/\SqT K o.H a vs/\Rvs K o l vs
 |.tl l,v=> ∃a vs,v=.ref a/\o.H a=some (.lst vs)/\ ¬Lv o a/\Rvs K o l vs
 |.cl l,v=> ∃a vs,v=.ref a/\((Rd o.H a (.lst vs)/\ ¬Lv o a)\/FrL K a vs)/\Rvs K o l vs
 |.dv ks ws,v=> ∃a kvs,v=.ref a/\Rd o.H a (.dK kvs)/\ ¬Lv o a/\kvs.map (·.1)=ks/\Rvs K o ws (kvs.map (·.2))
 |.dn b ks ws,v=> ∃a,∃xs:List (PKy×JG×V)×Nat,v=.ref a/\o.H a=some (.dN b xs.1 xs.2)/\ ¬Lv o a/\xs.1.map (·.1)=ks/\(∀x∈xs.1,KeyN K o.H b x.2.1 x.1)/\Rvs K o ws (xs.1.map (·.2.2))
 |.kt ks,v=> ∃a,v=.ref a/\o.H a=some (.tup (ks.map kV))
 |.loc k,v=>k<o.h.length/\v=.ref (o.mu k)
noncomputable def Rvs (K:Zf)(o:Wo):List W->List V->Prop
 |[],vs=>vs=[]
 |w::l,vs=> ∃v r,vs=v::r/\Rv K o w v/\Rvs K o l r
end
noncomputable def Ro (K:Zf)(o:Wo)(a:JG):Ob->Prop
 |.lst l=> ∃vs,o.H a=some (.lst vs)/\Rvs K o l vs
 |.dic ks ws=> ∃kvs,o.H a=some (.dK kvs)/\kvs.map (·.1)=ks/\Rvs K o ws (kvs.map (·.2))
 |.dit ks ws=> ∃kvs,o.H a=some (.dT kvs)/\kvs.map (·.1)=ks/\Rvs K o ws (kvs.map (·.2))
 |.din b ks ws=> ∃xs:List (PKy×JG×V)×Nat,o.H a=some (.dN b xs.1 xs.2)/\xs.1.map (·.1)=ks/\(∀x∈xs.1,KeyN K o.H b x.2.1 x.1)/\Rvs K o ws (xs.1.map (·.2.2))
 |.ins c ns ws=> ∃C dx fs,Jv K J6 c=some (some (.ref C))/\o.H a=some (.ins C dx fs)/\fs.map (·.1)=ns/\Rvs K o ws (fs.map (·.2))
 |.gone=>True
structure Rel (K:Zf)(o:Wo):Prop where
 ob: ∀k b,o.h[k]?=some b->Ro K o (o.mu k) b
 inj: ∀j k b c,o.h[j]?=some b->o.h[k]?=some c->b≠.gone->c≠.gone->o.mu j=o.mu k->j=k
structure Ex (o p:Wo):Prop where
 le:o.h.length<=p.h.length
 mu: ∀k,k<o.h.length->p.mu k=o.mu k
 fr: ∀a u,o.H a=some u-> ¬Lv o a->p.H a=some u/\ ¬Lv p a
theorem Ex.refl (o:Wo):Ex o o:=⟨Fy _,λ_ _=>rfl,λ_ _ h n=>⟨h,n⟩⟩
theorem Ex.trans (a:Ex o p)(b:Ex p q):Ex o q:=⟨F6 a.le b.le,λk h=>(b.mu k (F8 h a.le)).trans (a.mu k h),λc u h n=>let ⟨h1,n1⟩:=a.fr c u h n;b.fr c u h1 n1⟩
section
variable {K:Zf}{o p:Wo}
theorem Lv.kind (R:Rel K o)(h:Lv o a):(∃vs,o.H a=some (.lst vs))\/(∃kvs,o.H a=some (.dK kvs))\/(∃C dx fs,o.H a=some (.ins C dx fs))\/(∃kvs,o.H a=some (.dT kvs))\/ ∃b,∃xs:List (PKy×JG×V)×Nat,o.H a=some (.dN b xs.1 xs.2):=by
 obtain⟨k,b,hk,hb,rfl⟩:=h;have q:=R.ob k b hk;cases b with
 |lst l=>exact .inl (let ⟨vs,e,_⟩:=q;⟨vs,e⟩)
 |dic ks ws=>exact .inr (.inl (let ⟨vs,e,_⟩:=q;⟨vs,e⟩))
 |ins c ns ws=>exact .inr (.inr (.inl (let ⟨C,dx,fs,_,e,_⟩:=q;⟨C,dx,fs,e⟩)))
 |dit ks ws=>exact .inr (.inr (.inr (.inl (let ⟨vs,e,_⟩:=q;⟨vs,e⟩))))
 |din b ks ws=>exact .inr (.inr (.inr (.inr (let ⟨vs,e,_⟩:=q;⟨b,vs,e⟩))))
 |gone=>exact absurd rfl hb
theorem Ex.keep (X:Ex o p)(R:Rel K o)(h:o.H a=some u)(n1: ∀vs,u≠.lst vs)(n2: ∀kvs,u≠.dK kvs)(n3: ∀C dx fs,u≠.ins C dx fs)(n4: ∀kvs,u≠.dT kvs)(n5: ∀b (xs:List (PKy×JG×V)×Nat),u≠.dN b xs.1 xs.2):p.H a=some u:=by
 refine (X.fr a u h λl=>?_).1;rcases l.kind R with⟨vs,e⟩|⟨vs,e⟩|⟨C,dx,fs,e⟩|⟨vs,e⟩|⟨b,vs,e⟩
 ·rw[h] at e;exact n1 vs (Option.some.inj e)
 ·rw[h] at e;exact n2 vs (Option.some.inj e)
 ·rw[h] at e;exact n3 C dx fs (Option.some.inj e)
 ·rw[h] at e;exact n4 vs (Option.some.inj e)
 ·rw[h] at e;exact n5 b vs (Option.some.inj e)
theorem Ex.rdT (X:Ex o p)(R:Rel K o)(h:SqT K o.H a vs):SqT K p.H a vs:=by
 rcases h with (h|⟨ob,h⟩)|h
 ·exact .inl (.inl (X.keep R h (λ_ z=>nomatch z) (λ_ z=>nomatch z) (λ_ _ _ z=>nomatch z) (λ_ z=>nomatch z) λ_ _ z=>nomatch z))
 ·exact .inl (.inr ⟨ob,X.keep R h (λ_ z=>nomatch z) (λ_ z=>nomatch z) (λ_ _ _ z=>nomatch z) (λ_ z=>nomatch z) λ_ _ z=>nomatch z⟩)
 ·exact .inr h
theorem KeyN.mono (X:Ex o p)(R:Rel K o){b:Bool}(h:KeyN K o.H b c k):KeyN K p.H b c k:=by
 obtain⟨d,h1,h2⟩:=h;exact⟨d,X.rdT R h1,X.rdT R h2⟩
theorem Ex.rd (X:Ex o p)(h:Rd o.H a u)(n:¬Lv o a):Rd p.H a u/\ ¬Lv p a:=by
 rcases h with h|⟨ob,h⟩
 ·exact⟨.inl (X.fr a _ h n).1,(X.fr a _ h n).2⟩
 ·exact⟨.inr ⟨ob,(X.fr a _ h n).1⟩,(X.fr a _ h n).2⟩
mutual
theorem Rv.mono (R:Rel K o)(X:Ex o p): ∀ (w:W) (v:V),Rv K o w v->Rv K p w v
 |.ty n,v,h=>h
 |.exc c,v,h=>by
  unfold Rv at h ⊢;obtain⟨a,C,e,h1,h2⟩:=h;exact⟨a,C,e,h1,X.keep R h2 (λ_ z=>nomatch z) (λ_ z=>nomatch z) (λ_ _ _ z=>nomatch z) (λ_ z=>nomatch z) λ_ _ z=>nomatch z⟩
 |.cls c,v,h=>by
  unfold Rv at h ⊢;exact h
 |.non,v,h=>h
 |.bl b,v,h=>h
 |.int i,v,h=>h
 |.str x,v,h=>h
 |.tup l,v,h=>by
  unfold Rv at h ⊢;obtain⟨a,vs,e,h1,h2⟩:=h;exact⟨a,vs,e,X.rdT R h1,Rvs.mono R X l vs h2⟩
 |.tl l,v,h=>by
  unfold Rv at h ⊢;obtain⟨a,vs,e,h1,n,h2⟩:=h;exact⟨a,vs,e,(X.fr a _ h1 n).1,(X.fr a _ h1 n).2,Rvs.mono R X l vs h2⟩
 |.cl l,v,h=>by
  unfold Rv at h ⊢;obtain⟨a,vs,e,h1,h2⟩:=h;refine⟨a,vs,e,?_,Rvs.mono R X l vs h2⟩;rcases h1 with⟨h1,n⟩|h1
  ·exact .inl (X.rd h1 n)
  ·exact .inr h1
 |.dv ks ws,v,h=>by
  unfold Rv at h ⊢;obtain⟨a,vs,e,h1,n,h2,h3⟩:=h;exact⟨a,vs,e,(X.rd h1 n).1,(X.rd h1 n).2,h2,Rvs.mono R X ws _ h3⟩
 |.dn b ks ws,v,h=>by
  unfold Rv at h ⊢;obtain⟨a,xs,e,h1,n,h2,hn,h3⟩:=h;exact⟨a,xs,e,(X.fr a _ h1 n).1,(X.fr a _ h1 n).2,h2,λx hx=>(hn x hx).mono X R,Rvs.mono R X ws _ h3⟩
 |.kt ks,v,h=>by
  unfold Rv at h ⊢;obtain⟨a,e,h⟩:=h;exact⟨a,e,X.keep R h (λ_ z=>nomatch z) (λ_ z=>nomatch z) (λ_ _ _ z=>nomatch z) (λ_ z=>nomatch z) λ_ _ z=>nomatch z⟩
 |.loc k,v,h=>by
  unfold Rv at h ⊢;exact⟨F8 h.1 X.le,by rw[X.mu k h.1];exact h.2⟩
theorem Rvs.mono (R:Rel K o)(X:Ex o p): ∀ (l:List W) (vs:List V),Rvs K o l vs->Rvs K p l vs
 |[],vs,h=>h
 |w::l,vs,h=>by
  unfold Rvs at h ⊢;obtain⟨v,r,e,h1,h2⟩:=h;exact⟨v,r,e,Rv.mono R X w v h1,Rvs.mono R X l r h2⟩
end
theorem Rel.keep (R:Rel K o)(X:Ex o p)(e1:p.h=o.h)(e2:p.mu=o.mu)(e3: ∀k b,o.h[k]?=some b->b≠.gone->p.H (o.mu k)=o.H (o.mu k)):Rel K p:=by
 refine⟨λk b hk=>?_,λj k b c h1 h2=>?_⟩
 ·rw[e1] at hk;rw[e2];have q:=R.ob k b hk;cases b with
  |lst l=>obtain⟨vs,h1,h2⟩:=q;exact⟨vs,by rw[e3 k _ hk ⇑_];exact h1,h2.mono R X⟩
  |dic ks ws=>obtain⟨vs,h1,h2,h3⟩:=q;exact⟨vs,by rw[e3 k _ hk ⇑_];exact h1,h2,h3.mono R X⟩
  |dit ks ws=>obtain⟨vs,h1,h2,h3⟩:=q;exact⟨vs,by rw[e3 k _ hk ⇑_];exact h1,h2,h3.mono R X⟩
  |din b ks ws=>obtain⟨vs,h1,h2,hn,h3⟩:=q;exact⟨vs,by rw[e3 k _ hk ⇑_];exact h1,h2,λx hx=>(hn x hx).mono X R,h3.mono R X⟩
  |ins c ns ws=>obtain⟨C,dx,fs,h0,h1,h2,h3⟩:=q;exact⟨C,dx,fs,h0,by rw[e3 k _ hk ⇑_];exact h1,h2,h3.mono R X⟩
  |gone=>trivial
 ·rw[e1] at h1 h2;rw[e2];exact R.inj j k b c h1 h2
theorem Lv.there (R:Rel K o)(h:Lv o a):o.H a≠none:=by
 rcases h.kind R with⟨vs,e⟩|⟨vs,e⟩|⟨C,dx,fs,e⟩|⟨vs,e⟩|⟨b,vs,e⟩<;>(rw[e];simp)
theorem Ex.new (h:o.H q=none):Ex o ⟨o.mu,o.h,upd o.H q u⟩:=by
 refine⟨Fy _,λ_ _=>rfl,λa w e n=>⟨?_,n⟩⟩;show upd o.H q u a=some w;rw[ag (bj e h)];exact e
theorem Rel.new (R:Rel K o)(h:o.H q=none):Rel K ⟨o.mu,o.h,upd o.H q u⟩:=by
 refine R.keep (Ex.new h) rfl rfl λk b hk hb=>?_;have l:Lv o (o.mu k):=⟨k,b,hk,hb,rfl⟩
 show upd o.H q u (o.mu k)=_;rw[ag λz=>l.there R (by rw[z];exact h)]
theorem Ex.same (g:Same o.H H'):Ex o ⟨o.mu,o.h,H'⟩:=⟨Fy _,λ_ _=>rfl,λa w e n=>⟨g a w e,n⟩⟩
theorem Rel.same (R:Rel K o)(g:Same o.H H'):Rel K ⟨o.mu,o.h,H'⟩:=by
 refine R.keep (Ex.same g) rfl rfl λk b hk hb=>?_;cases e:o.H (o.mu k) with
 |none=>exact absurd e (Lv.there R ⟨k,b,hk,hb,rfl⟩)
 |some u=>exact g _ _ e
noncomputable def Wo.add (o:Wo)(q:JG)(b:Ob)(u:HO):Wo:=⟨λk=>if k=o.h.length then q else o.mu k,o.h++[b],upd o.H q u⟩
theorem Ex.add (h:o.H q=none):Ex o (o.add q b u):=by
 refine⟨by show _<=(o.h++[b]).length;simp,λk hk=>?_,λa w e n=>⟨?_,λl=>?_⟩⟩
 ·show (if k=o.h.length then q else o.mu k)=_;rw[if_neg ∅]
 ·show upd o.H q u a=some w;rw[ag (bj e h)];exact e
 ·obtain⟨k,c,hk,hc,ha⟩:=l;have ha:(if k=o.h.length then q else o.mu k)=a:=ha;have hk:(o.h++[b])[k]?=some c:=hk;by_cases z:k=o.h.length
  ·rw[if_pos z] at ha;exact absurd ha.symm (bj e h)
  ·rw[if_neg z] at ha;have hl:k<o.h.length:=by
    have:=(FO.mp hk).1;rw[FE,Gc] at this;omega
   rw[Gr hl] at hk;exact n ⟨k,c,hk,hc,ha⟩
theorem Rel.add (R:Rel K o)(h:o.H q=none)(hb:Ro K (o.add q b u) q b):Rel K (o.add q b u):=by
 have X:Ex o (o.add q b u):=Ex.add h;have old: ∀ {k:Nat}{c:Ob},(o.add q b u).h[k]?=some c->k≠o.h.length->o.h[k]?=some c/\(o.add q b u).mu k=o.mu k:=λ{k c} hk z=>by
  have hk:(o.h++[b])[k]?=some c:=hk;have hl:k<o.h.length:=by
   have:=(FO.mp hk).1;rw[FE,Gc] at this;omega
  rw[Gr hl] at hk;exact⟨hk,X.mu k hl⟩
 have new: ∀ {k:Nat}{c:Ob},(o.add q b u).h[k]?=some c->k=o.h.length->c=b/\(o.add q b u).mu k=q:=λ{k c} hk z=>by
  subst z;have hk:(o.h++[b])[o.h.length]?=some c:=hk;rw[G0 (Fy _),Iw] at hk;exact⟨(Option.some.inj hk).symm,if_pos rfl⟩
 have ne: ∀ {k:Nat}{c:Ob},o.h[k]?=some c->c≠.gone->o.mu k≠q:=λ{k c} hk hc z=>Lv.there R ⟨k,c,hk,hc,rfl⟩ (by rw[z];exact h);refine⟨λk c hk=>?_,λj k c d h1 h2 n1 n2 e=>?_⟩
 ·by_cases z:k=o.h.length
  ·obtain⟨rfl,e⟩:=new hk z;rw[e];exact hb
  ·obtain⟨hk,e⟩:=old hk z;rw[e];have r:=R.ob k c hk;have st: ∀ {w:HO},c≠.gone->o.H (o.mu k)=some w->(o.add q b u).H (o.mu k)=some w:=λ{w} hc e=>by
    show upd o.H q u (o.mu k)=some w;rw[ag (ne hk hc)];exact e
   cases c with
   |lst l=>obtain⟨vs,h1,h2⟩:=r;exact⟨vs,st ⇑_ h1,h2.mono R X⟩
   |dic ks ws=>obtain⟨vs,h1,h2,h3⟩:=r;exact⟨vs,st ⇑_ h1,h2,h3.mono R X⟩
   |dit ks ws=>obtain⟨vs,h1,h2,h3⟩:=r;exact⟨vs,st ⇑_ h1,h2,h3.mono R X⟩
   |din b ks ws=>obtain⟨vs,h1,h2,hn,h3⟩:=r;exact⟨vs,st ⇑_ h1,h2,λx hx=>(hn x hx).mono X R,h3.mono R X⟩
   |ins c ns ws=>obtain⟨C,dx,fs,h0,h1,h2,h3⟩:=r;exact⟨C,dx,fs,h0,st ⇑_ h1,h2,h3.mono R X⟩
   |gone=>trivial
 ·by_cases z1:j=o.h.length
  ·by_cases z2:k=o.h.length
   ·omega
   ·obtain⟨_,e1⟩:=new h1 z1;obtain⟨hk,e2⟩:=old h2 z2;rw[e1,e2] at e;exact absurd e.symm (ne hk n2)
  ·obtain⟨hj,e1⟩:=old h1 z1;by_cases z2:k=o.h.length
   ·obtain⟨_,e2⟩:=new h2 z2;rw[e1,e2] at e;exact absurd e (ne hj n1)
   ·obtain⟨hk,e2⟩:=old h2 z2;rw[e1,e2] at e;exact R.inj j k c d hj hk n1 n2 e
theorem Rel.addL (R:Rel K o)(h:o.H q=none)(hl:Rvs K o l vs):Rel K (o.add q (.lst l) (.lst vs)):=R.add h ⟨vs,ao,hl.mono R (Ex.add h)⟩
theorem Rel.addT (R:Rel K o){ws:List W}(h:o.H q=none)(hk:kvs.map (·.1)=ks)(hl:Rvs K o ws (kvs.map (·.2))):Rel K (o.add q (.dit ks ws) (.dT kvs)):=R.add h ⟨kvs,ao,hk,hl.mono R (Ex.add h)⟩
noncomputable def Wo.put (o:Wo)(k:Nat)(b:Ob)(u:HO):Wo:=⟨o.mu,o.h.set k b,upd o.H (o.mu k) u⟩
theorem Lv.put {k:Nat}(hk:o.h[k]?=some c)(hc:c≠.gone)(h:Lv (o.put k b u) a):Lv o a:=by
 obtain⟨j,d,hj,hd,rfl⟩:=h;have hj:(o.h.set k b)[j]?=some d:=hj;by_cases z:j=k
 ·subst z;exact⟨j,c,hk,hc,rfl⟩
 ·rw[FR (Ne.symm z)] at hj;exact⟨j,d,hj,hd,rfl⟩
theorem Ex.put {k:Nat}(hk:o.h[k]?=some c)(hc:c≠.gone):Ex o (o.put k b u):=by
 refine⟨by show _<=(o.h.set k b).length;simp,λ_ _=>rfl,λa w e n=>⟨?_,λl=>n (l.put hk hc)⟩⟩;show upd o.H (o.mu k) u a=some w;rw[ag λz=>n ⟨k,c,hk,hc,z.symm⟩];exact e
theorem Rel.put (R:Rel K o){k:Nat}(hk:o.h[k]?=some c)(hc:c≠.gone)(hb:Ro K (o.put k b u) (o.mu k) b):Rel K (o.put k b u):=by
 have X:Ex o (o.put k b u):=Ex.put hk hc;have old: ∀ {j:Nat}{d:Ob},(o.put k b u).h[j]?=some d->j≠k->o.h[j]?=some d:=λ{j d} hj z=>by
  have hj:(o.h.set k b)[j]?=some d:=hj;rw[FR (Ne.symm z)] at hj;exact hj
 refine⟨λj d hj=>?_,λi j d e h1 h2 n1 n2 q=>?_⟩
 ·by_cases z:j=k
  ·subst z;have hl:=(FO.mp hk).1;have hj:(o.h.set j b)[j]?=some d:=hj;rw[G7 hl] at hj;cases hj;exact hb
  ·have hj:=old hj z;have r:=R.ob j d hj;have st: ∀ {w:HO},d≠.gone->o.H (o.mu j)=some w->(o.put k b u).H (o.mu j)=some w:=λ{w} hd e=>by
    show upd o.H (o.mu k) u (o.mu j)=some w;rw[ag λq=>z (R.inj j k d c hj hk hd hc q)];exact e
   cases d with
   |lst l=>obtain⟨vs,h1,h2⟩:=r;exact⟨vs,st ⇑_ h1,h2.mono R X⟩
   |dic ks ws=>obtain⟨vs,h1,h2,h3⟩:=r;exact⟨vs,st ⇑_ h1,h2,h3.mono R X⟩
   |dit ks ws=>obtain⟨vs,h1,h2,h3⟩:=r;exact⟨vs,st ⇑_ h1,h2,h3.mono R X⟩
   |din b ks ws=>obtain⟨vs,h1,h2,hn,h3⟩:=r;exact⟨vs,st ⇑_ h1,h2,λx hx=>(hn x hx).mono X R,h3.mono R X⟩
   |ins c ns ws=>obtain⟨C,dx,fs,h0,h1,h2,h3⟩:=r;exact⟨C,dx,fs,h0,st ⇑_ h1,h2,h3.mono R X⟩
   |gone=>trivial
 ·have ex: ∀ {j:Nat}{d:Ob},(o.put k b u).h[j]?=some d->d≠.gone-> ∃d',o.h[j]?=some d'/\d'≠.gone:=λ{j d} hj n=>by
   by_cases z:j=k
   ·subst z;exact⟨c,hk,hc⟩
   ·exact⟨d,old hj z,n⟩
  obtain⟨d',h1',n1'⟩:=ex h1 n1;obtain⟨e',h2',n2'⟩:=ex h2 n2;exact R.inj i j d' e' h1' h2' n1' n2' q
theorem Rel.putL (R:Rel K o){k:Nat}(hk:o.h[k]?=some c)(hc:c≠.gone)(hl:Rvs K o l vs):Rel K (o.put k (.lst l) (.lst vs)):=R.put hk hc ⟨vs,ao,hl.mono R (Ex.put hk hc)⟩
theorem Rel.putD (R:Rel K o){k:Nat}{ws:List W}(hk:o.h[k]?=some c)(hc:c≠.gone)(h1:kvs.map (·.1)=ks)(hl:Rvs K o ws (kvs.map (·.2))):Rel K (o.put k (.dic ks ws) (.dK kvs)):=R.put hk hc ⟨kvs,ao,h1,hl.mono R (Ex.put hk hc)⟩
theorem Rel.putT (R:Rel K o){k:Nat}{ws:List W}(hk:o.h[k]?=some c)(hc:c≠.gone)(h1:kvs.map (·.1)=ks)(hl:Rvs K o ws (kvs.map (·.2))):Rel K (o.put k (.dit ks ws) (.dT kvs)):=R.put hk hc ⟨kvs,ao,h1,hl.mono R (Ex.put hk hc)⟩
theorem Rel.putN (R:Rel K o){k:Nat}{b:Bool}{ws:List W}{ep:Nat}(hk:o.h[k]?=some c)(hc:c≠.gone)(h1:xs.map (·.1)=ks)(hn: ∀x∈xs,KeyN K o.H b x.2.1 x.1)(hl:Rvs K o ws (xs.map (·.2.2))):Rel K (o.put k (.din b ks ws) (.dN b xs ep)):=R.put hk hc ⟨(xs,ep),ao,h1,λx hx=>(hn x hx).mono (Ex.put hk hc) R,hl.mono R (Ex.put hk hc)⟩
noncomputable def Wo.ice (o:Wo)(k:Nat):Wo:=⟨o.mu,o.h.set k .gone,o.H⟩
theorem Lv.ice {k:Nat}(h:Lv (o.ice k) a): ∃j b,j≠k/\o.h[j]?=some b/\b≠.gone/\o.mu j=a:=by
 obtain⟨j,d,hj,hd,e⟩:=h;have hj:(o.h.set k .gone)[j]?=some d:=hj;by_cases z:j=k
 ·subst z;have hl:=(FO.mp hj).1;rw[Go] at hl;rw[G7 hl] at hj;cases hj;exact absurd rfl hd
 ·rw[FR (Ne.symm z)] at hj;exact⟨j,d,z,hj,hd,e⟩
theorem Ex.ice {k:Nat}:Ex o (o.ice k):=by
 refine⟨by show _<=(o.h.set k .gone).length;simp,λ_ _=>rfl,λa w e n=>⟨e,λl=>?_⟩⟩;obtain⟨j,b,_,h1,h2,h3⟩:=l.ice;exact n ⟨j,b,h1,h2,h3⟩
theorem Rel.ice (R:Rel K o){k:Nat}:Rel K (o.ice k):=by
 have X:Ex o (o.ice k):=Ex.ice;have old: ∀ {j:Nat}{d:Ob},(o.ice k).h[j]?=some d->d≠.gone->o.h[j]?=some d:=λ{j d} hj n=>by
  have hj:(o.h.set k .gone)[j]?=some d:=hj;by_cases z:j=k
  ·subst z;have hl:=(FO.mp hj).1;rw[Go] at hl;rw[G7 hl] at hj;cases hj;exact absurd rfl n
  ·rw[FR (Ne.symm z)] at hj;exact hj
 refine⟨λj d hj=>?_,λi j d e h1 h2 n1 n2 q=>R.inj i j d e (old h1 n1) (old h2 n2) n1 n2 q⟩;cases d with
 |lst l=>obtain⟨vs,h1,h2⟩:=R.ob j _ (old hj ⇑_);exact⟨vs,h1,h2.mono R X⟩
 |dic ks ws=>obtain⟨vs,h1,h2,h3⟩:=R.ob j _ (old hj ⇑_);exact⟨vs,h1,h2,h3.mono R X⟩
 |dit ks ws=>obtain⟨vs,h1,h2,h3⟩:=R.ob j _ (old hj ⇑_);exact⟨vs,h1,h2,h3.mono R X⟩
 |din b ks ws=>obtain⟨vs,h1,h2,hn,h3⟩:=R.ob j _ (old hj ⇑_);exact⟨vs,h1,h2,λx hx=>(hn x hx).mono X R,h3.mono R X⟩
 |ins c ns ws=>obtain⟨C,dx,fs,h0,h1,h2,h3⟩:=R.ob j _ (old hj ⇑_);exact⟨C,dx,fs,h0,h1,h2,h3.mono R X⟩
 |gone=>trivial
theorem Rv.iceL (R:Rel K o){k:Nat}(hk:o.h[k]?=some (.lst l)):Rv K (o.ice k) (.tl l) (.ref (o.mu k)):=by
 obtain⟨vs,h1,h2⟩:=R.ob k _ hk;unfold Rv;refine⟨_,vs,rfl,h1,λz=>?_,h2.mono R Ex.ice⟩;obtain⟨j,b,n,q1,q2,q3⟩:=z.ice;exact n (R.inj j k b _ q1 hk q2 ⇑_ q3)
theorem Rv.iceD (R:Rel K o){k:Nat}{ws:List W}(hk:o.h[k]?=some (.dic ks ws)):Rv K (o.ice k) (.dv ks ws) (.ref (o.mu k)):=by
 obtain⟨vs,h1,h0,h2⟩:=R.ob k _ hk;unfold Rv;refine⟨_,vs,rfl,.inl h1,λz=>?_,h0,h2.mono R Ex.ice⟩;obtain⟨j,b,n,q1,q2,q3⟩:=z.ice;exact n (R.inj j k b _ q1 hk q2 ⇑_ q3)
theorem Rv.iceN (R:Rel K o){k:Nat}{b:Bool}{ws:List W}(hk:o.h[k]?=some (.din b ks ws)):Rv K (o.ice k) (.dn b ks ws) (.ref (o.mu k)):=by
 obtain⟨vs,h1,h0,hn,h2⟩:=R.ob k _ hk;unfold Rv;refine⟨_,vs,rfl,h1,λz=>?_,h0,λx hx=>(hn x hx).mono Ex.ice R,h2.mono R Ex.ice⟩;obtain⟨j,b,n,q1,q2,q3⟩:=z.ice;exact n (R.inj j k b _ q1 hk q2 ⇑_ q3)
theorem Rvs.len: ∀ {l:List W}{vs:List V},Rvs K o l vs->vs.length=l.length
 |[],_,h=>by unfold Rvs at h;rw[h];rfl
 |w::l,_,h=>by unfold Rvs at h;obtain⟨v,r,rfl,_,h2⟩:=h;rw[FH,FH,Rvs.len h2]
theorem Rvs.get: ∀ {l:List W}{vs:List V}{i:Nat}{w:W},Rvs K o l vs->l[i]?=some w-> ∃v,vs[i]?=some v/\Rv K o w v
 |[],_,_,_,_,e=>by simp at e
 |x::l,_,0,w,h,e=>by unfold Rvs at h;obtain⟨v,r,rfl,h1,h2⟩:=h;cases e;exact⟨v,rfl,h1⟩
 |x::l,_,i+1,w,h,e=>by unfold Rvs at h;obtain⟨v,r,rfl,h1,h2⟩:=h;obtain⟨u,q1,q2⟩:=Rvs.get (l:=l) (i:=i) (w:=w) h2 (by simpa using e);exact⟨u,by simpa using q1,q2⟩
theorem Rvs.nil:Rvs K o [] []:=by unfold Rvs;rfl
theorem Rvs.cons {w:W}{v:V}{l:List W}{vs:List V}(h:Rv K o w v)(t:Rvs K o l vs):Rvs K o (w::l) (v::vs):=by unfold Rvs;exact⟨v,vs,rfl,h,t⟩
theorem Rvs.app: ∀ {l m:List W}{vs us:List V},Rvs K o l vs->Rvs K o m us->Rvs K o (l++m) (vs++us)
 |[],_,_,_,h,t=>by unfold Rvs at h;rw[h];exact t
 |w::l,m,_,us,h,t=>by unfold Rvs at h;obtain⟨v,r,rfl,h1,h2⟩:=h;exact Rvs.cons h1 (Rvs.app h2 t)
theorem Rvs.take: ∀ {l:List W}{vs:List V} (n:Nat),Rvs K o l vs->Rvs K o (l.take n) (vs.take n)
 |[],_,n,h=>by unfold Rvs at h;rw[h,List.take_nil,List.take_nil];exact Rvs.nil
 |w::l,_,0,h=>by rw[HE,HE];exact Rvs.nil
 |w::l,_,n+1,h=>by unfold Rvs at h;obtain⟨v,r,rfl,h1,h2⟩:=h;exact Rvs.cons h1 (Rvs.take n h2)
theorem Rvs.drop: ∀ {l:List W}{vs:List V} (n:Nat),Rvs K o l vs->Rvs K o (l.drop n) (vs.drop n)
 |[],_,n,h=>by unfold Rvs at h;rw[h,List.drop_nil,List.drop_nil];exact Rvs.nil
 |w::l,_,0,h=>h
 |w::l,_,n+1,h=>by unfold Rvs at h;obtain⟨v,r,rfl,h1,h2⟩:=h;exact Rvs.drop n h2
theorem Rvs.set (hx:Rv K o x y): ∀ {l:List W}{vs:List V} (i:Nat),Rvs K o l vs->Rvs K o (l.set i x) (vs.set i y)
 |[],_,n,h=>by unfold Rvs at h;rw[h];exact Rvs.nil
 |w::l,_,0,h=>by unfold Rvs at h;obtain⟨v,r,rfl,h1,h2⟩:=h;exact Rvs.cons hx h2
 |w::l,_,n+1,h=>by unfold Rvs at h;obtain⟨v,r,rfl,h1,h2⟩:=h;exact Rvs.cons h1 (Rvs.set hx n h2)
noncomputable abbrev La:=List (Option W)
noncomputable def RvO (K:Zf)(o:Wo):Option W->Option V->Prop
 |some w,s=> ∃v,s=some v/\Rv K o w v
 |none,s=>s=none
noncomputable def Re (K:Zf)(o:Wo):La->St->Prop
 |[],s=>s=[]
 |w::r,s=> ∃x t,s=x::t/\RvO K o w x/\Re K o r t
theorem RvO.mono (R:Rel K o)(X:Ex o p): ∀ {w:Option W}{s:Option V},RvO K o w s->RvO K p w s
 |some w,_,⟨v,e,h⟩=>⟨v,e,h.mono R X⟩
 |none,_,h=>h
theorem Re.mono (R:Rel K o)(X:Ex o p): ∀ {r:La}{s:St},Re K o r s->Re K p r s
 |[],_,h=>h
 |w::r,_,⟨x,t,e,h1,h2⟩=>⟨x,t,e,h1.mono R X,Re.mono R X h2⟩
theorem Re.get: ∀ {r:La}{s:St}{i:Nat}{w:W},Re K o r s->r[i]?=some (some w)-> ∃v,s[i]?=some (some v)/\Rv K o w v
 |[],_,_,_,_,e=>by simp at e
 |x::r,_,0,w,⟨y,t,rfl,h1,h2⟩,e=>by cases e;obtain⟨v,rfl,q⟩:=h1;exact⟨v,rfl,q⟩
 |x::r,_,i+1,w,⟨y,t,rfl,h1,h2⟩,e=>by obtain⟨u,q1,q2⟩:=Re.get (r:=r) (i:=i) (w:=w) h2 (by simpa using e);exact⟨u,by simpa using q1,q2⟩
theorem Re.set {w:W}(q:Rv K o w v): ∀ {r:La}{s:St} (i:Nat),Re K o r s->Re K o (r.set i (some w)) (s.set i (some v))
 |[],_,_,h=>by rw[show _=[] from h];rfl
 |x::r,_,0,⟨y,t,rfl,h1,h2⟩=>⟨_,_,rfl,⟨v,rfl,q⟩,h2⟩
 |x::r,_,i+1,⟨y,t,rfl,h1,h2⟩=>⟨_,_,rfl,h1,Re.set q i h2⟩
theorem Re.front: ∀ {r:La}{s:St} (n:Nat),Re K o r s->Re K o (List.replicate n none++r) (List.replicate n none++s)
 |_,_,0,h=>h
 |_,_,n+1,h=>⟨none,_,rfl,rfl,Re.front n h⟩
theorem Re.args: ∀ {ws:List W}{vs:List V} (n:Nat),Rvs K o ws vs->Re K o (ws.map some++List.replicate n none) (vs.map some++List.replicate n none)
 |[],_,n,h=>by
  unfold Rvs at h;rw[h]
  induction n with
  |zero=>rfl
  |succ n ih=>exact⟨none,_,rfl,rfl,ih⟩
 |w::l,_,n,h=>by unfold Rvs at h;obtain⟨v,r,rfl,h1,h2⟩:=h;exact⟨_,_,rfl,⟨v,rfl,h1⟩,Re.args n h2⟩
end
inductive Rs (α:Type) where
 |ok (a:α)(h:List Ob)|ex (c:Str)(h:List Ob)|bad
noncomputable abbrev M (α:Type):=List Ob->Rs α
noncomputable def bd {α β:Type}(f:M α)(g:α->M β):M β:=λh=>match f h with
 |.ok a h'=>g a h'
 |.ex c h'=>.ex c h'
 |.bad=>.bad
noncomputable def pr {α:Type}(a:α):M α:=λh=>.ok a h
noncomputable def no {α:Type}:M α:=λ_=>.bad
noncomputable def gd {α:Type}(p:Prop) [Decidable p] (m:M α):M α:=λh=>if p then m h else .bad
structure Cg where
 K:Zf
 mg:Str->Option Jx
 E:XK
noncomputable def Ps {α β:Type}(c:Cg)(r:Wo->α->β->Prop)(o:Wo)(R:Rs α)(Q:β->Hp->Prop):Prop:=match R with
 |.ok a h'=> ∀p b,p.h=h'->Ex o p->Rel c.K p->r p a b->Q b p.H
 |.ex x h'=> ∃u,c.mg x=some u/\ ∀p,p.h=h'->Ex o p->Rel c.K p->c.E u none p.H
 |.bad=>False
noncomputable def tG {α β:Type}(c:Cg)(r:Wo->α->β->Prop)(f:La->M α)(σ:St)(H:Hp)(Q:β->Hp->Prop):Prop:= ∃o ρ,o.H=H/\Rel c.K o/\Re c.K o ρ σ/\Ps c r o (f ρ o.h) Q
noncomputable abbrev tM (c:Cg)(f:La->M W):TE:=tG c (Rv c.K) f
noncomputable abbrev tT (c:Cg)(f:La->M Bool):TT:=tG c (λ_ a b=>a=b) f
noncomputable abbrev tA (c:Cg)(f:La->M (List W)):TA:=tG c (Rvs c.K) f
section
variable {c:Cg}{o p:Wo}{α β γ δ:Type}{r:Wo->α->β->Prop}{r2:Wo->γ->δ->Prop}
theorem Ps.after {R:Rs α}{Q:β->Hp->Prop}(X:Ex o p)(h:Ps c r o R Q):Ps c r p R Q:=by
 cases R with
 |ok a h'=>exact λq b e X2 Rq rq=>h q b e (X.trans X2) Rq rq
 |ex x h'=>obtain⟨u,hu,h⟩:=h;exact⟨u,hu,λq e X2 Rq=>h q e (X.trans X2) Rq⟩
 |bad=>exact h
theorem Ps.bd {f:M α}{g:α->M γ}{Q:δ->Hp->Prop}{N:β->Hp->Prop}(h:Ps c r2 o (bd f g o.h) Q)(k:∀p a b,Ex o p->Rel c.K p->r p a b->Ps c r2 p (g a p.h) Q->N b p.H):Ps c r o (f o.h) N:=by
 unfold L2.bd at h;cases e:f o.h with
 |ok a h'=>
  rw[e] at h;intro p b hp X R rb;subst hp;exact k p a b X R rb (h.after X)
 |ex x h'=>
  rw[e] at h;exact h
 |bad=>
  rw[e] at h;exact h
theorem Ps.pr {a:α}{Q:β->Hp->Prop}{b:β}(h:Ps c r o (pr a o.h) Q)(R:Rel c.K o)(hb:r o a b):Q b o.H:=h o b rfl (Ex.refl _) R hb
theorem Ps.at {a:α}{Q:β->Hp->Prop}{b:β}(h:Ps c r o (.ok a h') Q)(e:p.h=h')(X:Ex o p)(R:Rel c.K p)(hb:r p a b):Q b p.H:=h p b e X R hb
theorem Ps.gd {P:Prop} [Decidable P] {m:M α}{Q:β->Hp->Prop}(h:Ps c r o (gd P m o.h) Q):P/\Ps c r o (m o.h) Q:=by
 unfold L2.gd at h;by_cases q:P
 ·rw[if_pos q] at h;exact⟨q,h⟩
 ·rw[if_neg q] at h;exact h.elim
end
end
section
noncomputable abbrev cg (X:Cx)(E:XK):Cg:=⟨X.K,X.mg,E⟩
noncomputable def tF (c:Cg)(f:La->M (List W)):TE:=λσ H Q=>tG c (Rvs c.K) f σ H λvs H1=> ∀q,H1 q=none->Q (.ref q) (upd H1 q (.lst vs))
structure JE (X:Cx)(E:XK)(e:Expr)(f:La->M W):Prop where
 h:PE X e (tM (cg X E) f)
structure JT (X:Cx)(E:XK)(e:Expr)(f:La->M Bool):Prop where
 h:PT X e (tT (cg X E) f)
structure JW (X:Cx)(E:XK)(e:Expr)(f:La->M Bool):Prop where
 h:PW X e (tT (cg X E) f)
structure JA (X:Cx)(E:XK)(es:List Expr)(f:La->M (List W)):Prop where
 h:PA X es (tA (cg X E) f)
structure JF (X:Cx)(E:XK)(e:Expr)(f:La->M (List W)):Prop where
 h:PE X e (tF (cg X E) f)
theorem PE.imp {f:La->M W}(h:PE X e t)(k:∀σ H Q,tM (cg X E) f σ H Q->t σ H Q):JE X E e f:=⟨λpins s σ H Q I q=>h pins s σ H Q I (k σ H Q q)⟩
theorem PE.impF {f:La->M (List W)}(h:PE X e t)(k:∀σ H Q,tF (cg X E) f σ H Q->t σ H Q):JF X E e f:=⟨λpins s σ H Q I q=>h pins s σ H Q I (k σ H Q q)⟩
theorem PT.imp {f:La->M Bool}(h:PT X e t)(k:∀σ H Q,tT (cg X E) f σ H Q->t σ H Q):JT X E e f:=⟨λpins s σ H Q I q=>h pins s σ H Q I (k σ H Q q)⟩
theorem PW.imp {f:La->M Bool}(h:PW X e t)(k:∀σ H Q,tT (cg X E) f σ H Q->t σ H Q):JW X E e f:=⟨λw pins s σ H Q I q=>h w pins s σ H Q I (k σ H Q q)⟩
theorem PA.imp {f:La->M (List W)}(h:PA X e t)(k:∀σ H Q,tA (cg X E) f σ H Q->t σ H Q):JA X E e f:=⟨λpos pins s σ H Q I q=>h pos pins s σ H Q I (k σ H Q q)⟩
theorem A1 {f:La->M Bool}(q:JW X E e f):JT X E e f:=⟨(q.h).pt⟩
section
variable {X:Cx}{E:XK}
noncomputable def NE (i:Nat):La->M W:=λρ=>match ρ[i]? with
 |some (some w)=>pr w
 |_=>no
noncomputable def mC (w:W):La->M W:=λ_=>pr w
theorem Bi {i:Nat}(h:tM (cg X E) (NE i) σ H Q):P9 i σ H Q:=by
 obtain⟨o,ρ,rfl,R,S,h⟩:=h;unfold NE at h;cases e:ρ[i]? with
 |none=>rw[e] at h;exact h.elim
 |some x=>
  cases x with
  |none=>rw[e] at h;exact h.elim
  |some w=>
   rw[e] at h;obtain⟨v,e1,r⟩:=S.get e;exact⟨v,e1,h.pr R r⟩
theorem CA (i:Nat){x:Str}(hN:X.N[i]?=some x:=by rfl)(hv:Vis X.env.scope x:=by trace_state)(hd:(x==("__debug__":Str))=false:=by decide)
 (hcd:(x==("__classdict__":Str))=false:=by decide):JE X E (.Name x pos) (NE i):=(pv i hN hv hd hcd).imp λ_ _ _ h=>Bi h
theorem yY {w:W}(hr: ∀o,Rv X.K o w v)(h:tM (cg X E) (mC w) σ H Q):tC v σ H Q:=by
 obtain⟨o,ρ,rfl,R,S,h⟩:=h;exact Ps.pr (c:=cg X E) h R (hr o)
theorem CY {i j pos}:JE X E (.Constant (.int i) j pos) (mC (.int i)):=Ou.imp λ_ _ _ h=>yY (λo=>by unfold Rv;rfl) h
theorem EI {i j pos}:JE X E (.Constant (.bool i) j pos) (mC (.bl i)):=Os.imp λ_ _ _ h=>yY (λo=>by unfold Rv;rfl) h
theorem CH {i j pos}:JE X E (.Constant (.str i) j pos) (mC (.str i)):=Ov.imp λ_ _ _ h=>yY (λo=>by unfold Rv;rfl) h
theorem j6 {x:Str}{w:W}(hg:Gl X x)(hm:X.mg x=some u)(r:RelV v u)(hr: ∀o,Rv X.K o w v)(hd:(x==("__debug__":Str))=false:=by decide):JE X E (.Name x pos) (mC w):=
 (cW hg hm r hd).imp λ_ _ _ h=>yY hr h
noncomputable def m2 (f:W->W->M W)(fa fb:La->M W):La->M W:=λρ=>bd (fa ρ) λx=>bd (fb ρ) λy=>f x y
noncomputable def OpM (X:Cx)(E:XK)(r:R2)(f:W->W->M W):Prop:= ∀ (o:Wo) (x y:W) (vx vy:V) (Q:VK),Rel X.K o->Rv X.K o x vx->Rv X.K o y vy->Ps (cg X E) (Rv X.K) o (f x y o.h) Q->r vx vy o.H Q
theorem vR {f:W->W->M W}(hf:OpM X E r f){fa fb:La->M W}(h:tM (cg X E) (m2 f fa fb) σ H Q):tOp r (tM (cg X E) fa) (tM (cg X E) fb) σ H Q:=by
 obtain⟨o,ρ,rfl,R,S,h⟩:=h;exact⟨o,ρ,rfl,R,S,Ps.bd h λp x vx e1 R1 r1 h1=>⟨p,ρ,rfl,R1,S.mono R e1,Ps.bd h1 λq y vy e2 R2 r2 h2=>hf q x y vx vy Q R2 (r1.mono R1 e2) r2 h2⟩⟩
theorem mV {f:W->W->M W}{fa fb:La->M W}(ho:OpR X (Kt op) r)(hf:OpM X E r f)(ha:JE X E a fa)(hb:JE X E b fb):
 JE X E (.BinOp a op b pos) (m2 f fa fb):=(sU ho ha.h hb.h).imp λ_ _ _ h=>vR hf h
theorem C0 {f:W->W->M W}{fa fb:La->M W}(ho:OpR X (Kg op) r)(hf:OpM X E r f)(ha:JE X E a fa)(hb:JE X E b fb)(hm:Kh op b=false):
 JE X E (.Compare a [op] [b] pos) (m2 f fa fb):=(im ho ha.h hb.h hm).imp λ_ _ _ h=>vR hf h
noncomputable def asB (w:W):M Bool:=match w with
 |.bl b=>pr b
 |_=>no
noncomputable def mB (f:La->M W):La->M Bool:=λρ=>bd (f ρ) asB
theorem Bk {f:La->M W}{Q:Bool->Hp->Prop}(h:tT (cg X E) (mB f) σ H Q):tM (cg X E) f σ H λx H'=> ∃k,x=.bl k/\Q k H':=by
 ac_nf;unfold asB at h1;split at h1
 ·rename_i b;unfold Rv at r1;exact⟨b,r1,h1.pr R1 rfl⟩
 ·exact h1.elim
theorem Ck {f:W->W->M W}{fa fb:La->M W}(ho:OpR X (Kg op) r)(hf:OpM X E r f)(ha:JE X E a fa)(hb:JE X E b fb)(hm:Kh op b=false):
 JT X E (.Compare a [op] [b] pos) (mB (m2 f fa fb)):=(dh ho ha.h hb.h hm).imp λ_ _ _ h=>vR hf (Bk h)
theorem Ci {f:La->M W}(h:JE X E e f)(he: ∀whole,isTrue e X.env whole=(do let v<-whole;Ki e.pos;Kj [v] (truthy v))):JT X E e (mB f):=
 (fW h.h he).imp λ_ _ _ h=>Bk h
noncomputable def Nm (f g:La->M Bool):La->M Bool:=λρ=>bd (f ρ) λb=>if b=true then g ρ else pr false
noncomputable def mOr (f g:La->M Bool):La->M Bool:=λρ=>bd (f ρ) λb=>if b=true then pr true else g ρ
noncomputable def Ny (f:La->M Bool):La->M Bool:=λρ=>bd (f ρ) λb=>pr (!b)
variable {a b:Expr}{rest:List Expr}{pos:Kb}{f g:La->M Bool}
theorem Be {Q:Bool->Hp->Prop}(h:tT (cg X E) (Nm f g) σ H Q):tAnd (tT (cg X E) f) (tT (cg X E) g) σ H Q:=by
 ac_nf;subst r1;cases x with
 |true=>exact MH ⟨p,ρ,rfl,R1,S.mono R e1,h1⟩
 |false=>exact MG (h1.pr R1 rfl)
theorem DM {Q:Bool->Hp->Prop}(h:tT (cg X E) (mOr f g) σ H Q):tOr (tT (cg X E) f) (tT (cg X E) g) σ H Q:=by
 ac_nf;subst r1;cases x with
 |false=>exact MG ⟨p,ρ,rfl,R1,S.mono R e1,h1⟩
 |true=>exact MH (h1.pr R1 rfl)
theorem Cj (ha:JT X E a f):JT X E (.UnaryOp .Not a pos) (Ny f):=(qX ha.h).imp λσ H Q h=>by
 ac_nf;subst r1;exact h1.pr R1 rfl
theorem zK (ha:JT X E a f):JW X E (.BoolOp .And [a] pos) f:=⟨sO ha.h⟩
theorem Ch (ha:JT X E a f):JW X E (.BoolOp .Or [a] pos) f:=⟨qW ha.h⟩
theorem xo (ha:JT X E a f)(hb:JW X E (.BoolOp .And (b::rest) pos) g):JW X E (.BoolOp .And (a::b::rest) pos) (Nm f g):=(wu ha.h hb.h).imp λ_ _ _ h=>Be h
theorem AY (ha:JT X E a f)(hb:JW X E (.BoolOp .Or (b::rest) pos) g):JW X E (.BoolOp .Or (a::b::rest) pos) (mOr f g):=(wr ha.h hb.h).imp λ_ _ _ h=>DM h
theorem DD {α β:Type}{r:Wo->α->β->Prop}{w:W}{k:Bool->M α}{Q:β->Hp->Prop}(hr:Rv X.K o w v)(h:Ps (cg X E) r o (bd (asB w) k o.h) Q): ∃b,w=.bl b/\v=.bl b/\Ps (cg X E) r o (k b o.h) Q:=by
 cases w with
 |bl b=>unfold Rv at hr;exact⟨b,rfl,hr,h⟩
 |_=>exact h.elim
variable {u v:La->M W}
noncomputable def mIf (f:La->M Bool)(u v:La->M W):La->M W:=λρ=>bd (f ρ) λb=>if b=true then u ρ else v ρ
theorem xC (hc:JT X E c f)(ha:JE X E a u)(hb:JE X E b v):JE X E (.IfExp c a b pos) (mIf f u v):=(wK hc.h ha.h hb.h).imp λσ H Q h=>by
 ac_nf;subst r1;cases x with
 |true=>exact MH ⟨p,ρ,rfl,R1,S.mono R e1,h1⟩
 |false=>exact MG ⟨p,ρ,rfl,R1,S.mono R e1,h1⟩
noncomputable def m1 (f:W->M W)(fa:La->M W):La->M W:=λρ=>bd (fa ρ) f
noncomputable def NQ (w:W):M W:=match w with
 |.int i=>pr (.int (-i))
 |_=>no
theorem CL (ha:JE X E a u):JE X E (.UnaryOp .USub a pos) (m1 NQ u):=(D6 Ba ha.h).imp λσ H Q h=>by
 ac_nf;unfold NQ at h1;split at h1
 ·unfold Rv at r1;exact⟨_,r1,h1.pr R1 (by unfold Rv;rfl)⟩
 ·exact h1.elim
noncomputable def Nx:La->M (List W):=λ_=>pr []
noncomputable def Np (fa:La->M W)(fr:La->M (List W)):La->M (List W):=λρ=>bd (fa ρ) λx=>bd (fr ρ) λl=>pr (x::l)
variable {es:List Expr}{l:La->M (List W)}{e:Expr}
theorem C5:JA X E [] Nx:=Oo.imp λσ H Q h=>by
 obtain⟨o,ρ,rfl,R,S,h⟩:=h;exact h.pr R Rvs.nil
theorem Ag (ha:JE X E e u)(hr:JA X E es l)(hs:Kd (e::es) X.env=(false,Ka e X.env)::Kd es X.env:=by rfl):JA X E (e::es) (Np u l):=(aj ha.h hr.h hs).imp λσ H Q h=>by
 obtain⟨o,ρ,rfl,R,S,h⟩:=h;exact⟨o,ρ,rfl,R,S,Ps.bd h λp x vx e1 R1 r1 h1=>⟨p,ρ,rfl,R1,S.mono R e1,Ps.bd h1 λq y vy e2 R2 r2 h2=>h2.pr R2 (Rvs.cons (r1.mono R1 e2) r2)⟩⟩
noncomputable def Qh (l:List W):M W:=gd (l.length<=sizeLine) (pr (.tup l))
noncomputable def ND (l:La->M (List W)):La->M W:=λρ=>bd (l ρ) Qh
theorem Rv.newT {K:Zf}{o:Wo}(R:Rel K o){q:JG}{l:List W}{vs:List V}(h:o.H q=none)(hl:Rvs K o l vs):Rv K ⟨o.mu,o.h,upd o.H q (.tup vs)⟩ (.tup l) (.ref q):=by
 unfold Rv;exact⟨q,vs,rfl,.of ao,hl.mono R (Ex.new h)⟩
theorem Rv.newL {K:Zf}{o:Wo}(R:Rel K o){q:JG}{l:List W}{vs:List V}(h:o.H q=none)(hl:Rvs K o l vs):Rv K ⟨o.mu,o.h,upd o.H q (.lst vs)⟩ (.tl l) (.ref q):=by
 unfold Rv;exact⟨q,vs,rfl,ao,λz=>Lv.there R (show Lv o q from z) h,hl.mono R (Ex.new h)⟩
theorem CB {x1}(h:JA X E es l):JE X E (.Tuple es x1 pos) (ND l):=(jE h.h).imp λσ H Q h=>by
 ac_nf;obtain⟨hz,h1⟩:=h1.gd;exact⟨by rw[r1.len];exact hz,λq hq=>Ps.at (p:=⟨p.mu,p.h,upd p.H q (.tup vx)⟩) h1 rfl (Ex.new hq) (R1.new hq) (Rv.newT R1 hq r1)⟩
noncomputable def mTl (l:La->M (List W)):La->M W:=λρ=>bd (l ρ) λx=>pr (.tl x)
noncomputable def NR (x:List W):M W:=λh=>.ok (.loc h.length) (h++[.lst x])
noncomputable def Nv (l:La->M (List W)):La->M W:=λρ=>bd (l ρ) NR
theorem xz (h:JF X E e l):JE X E e (mTl l):=h.h.imp λσ H Q h=>by
 obtain⟨o,ρ,rfl,R,S,h⟩:=h;exact⟨o,ρ,rfl,R,S,Ps.bd h λp x vx e1 R1 r1 h1=>λq hq=>Ps.at (p:=⟨p.mu,p.h,upd p.H q (.lst vx)⟩) h1 rfl (Ex.new hq) (R1.new hq) (Rv.newL R1 hq r1)⟩
theorem rD (h:JF X E e l):JE X E e (Nv l):=h.h.imp λσ H Q h=>by
 obtain⟨o,ρ,rfl,R,S,h⟩:=h;refine⟨o,ρ,rfl,R,S,Ps.bd h λp x vx e1 R1 r1 h1=>λq hq=>?_⟩;refine Ps.at (p:=p.add q (.lst x) (.lst vx)) h1 rfl (Ex.add hq) (R1.addL hq r1) ?_;unfold Rv;exact⟨by show _<(p.h++[_]).length;simp,by show V.ref q=V.ref (if p.h.length=p.h.length then q else _);rw[if_pos rfl]⟩
noncomputable def M8 (l:La->M (List W)):La->M (List W):=λρ=>bd (l ρ) λx=>gd (x.length<=sizeLine) (pr x)
theorem Cy (h:JA X E es l):JF X E (.List es pos) (M8 l):=(BN h.h).impF λσ H Q h=>by
 ac_nf;obtain⟨hz,h1⟩:=h1.gd;exact⟨by rw[r1.len];exact hz,h1.pr R1 r1⟩
end
end
section
section
variable {X:Cx}{E:XK}
theorem OV {K:Zf}{i:Int}:Rv K o (.int i) v↔v=.int i:=by unfold Rv;exact Iff.rfl
theorem OY {K:Zf}{i:Str}:Rv K o (.str i) v↔v=.str i:=by unfold Rv;exact Iff.rfl
theorem OU {K:Zf}{i:Bool}:Rv K o (.bl i) v↔v=.bl i:=by unfold Rv;exact Iff.rfl
theorem OX {K:Zf}:Rv K o .non v↔v=.non:=by unfold Rv;exact Iff.rfl
noncomputable def Nk (w:W):M (List W):=match w with
 |.tl l=>pr l
 |.cl l=>pr l
 |.loc k=>λh=>match h[k]? with
  |some (.lst l)=>.ok l h
  |_=>.bad
 |_=>no
theorem ck {α β:Type}{r:Wo->α->β->Prop}{w:W}{k:List W->M α}{Q:β->Hp->Prop}(R:Rel X.K o)(hr:Rv X.K o w v)(h:Ps (cg X E) r o (bd (Nk w) k o.h) Q):
  ∃l a vs,v=.ref a/\SqL X.K o.H a vs/\Rvs X.K o l vs/\Ps (cg X E) r o (k l o.h) Q:=by
 cases w with
 |tl l=>unfold Rv at hr;obtain⟨a,vs,e,h1,_,h2⟩:=hr;exact⟨l,a,vs,e,.of h1,h2,h⟩
 |cl l=>
  unfold Rv at hr;obtain⟨a,vs,e,h1,h2⟩:=hr;rcases h1 with⟨h1,_⟩|h1
  ·exact⟨l,a,vs,e,.inl h1,h2,h⟩
  ·exact⟨l,a,vs,e,.inr h1,h2,h⟩
 |loc j=>
  unfold Rv at hr;unfold Nk bd at h;cases e:o.h[j]? with
  |none=>simp only[e] at h;exact h.elim
  |some b=>
   cases b with
   |lst l=>
    simp only[e] at h;obtain⟨vs,h1,h2⟩:=R.ob j _ e;exact⟨l,_,vs,hr.2,.of h1,h2,h⟩
   |_=>simp only[e] at h;exact h.elim
 |_=>exact h.elim
noncomputable def Nj (w:W):M (List W):=match w with
 |.tl l=>pr l
 |.loc k=>λh=>match h[k]? with
  |some (.lst l)=>.ok l h
  |_=>.bad
 |_=>no
theorem eA {α β:Type}{r:Wo->α->β->Prop}{w:W}{k:List W->M α}{Q:β->Hp->Prop}(R:Rel X.K o)(hr:Rv X.K o w v)(h:Ps (cg X E) r o (bd (Nj w) k o.h) Q):
  ∃l a vs,v=.ref a/\o.H a=some (.lst vs)/\Rvs X.K o l vs/\Ps (cg X E) r o (k l o.h) Q:=by
 cases w with
 |tl l=>unfold Rv at hr;obtain⟨a,vs,e,h1,_,h2⟩:=hr;exact⟨l,a,vs,e,h1,h2,h⟩
 |loc j=>
  unfold Rv at hr;unfold Nj bd at h;cases e:o.h[j]? with
  |none=>simp only[e] at h;exact h.elim
  |some b=>
   cases b with
   |lst l=>
    simp only[e] at h;obtain⟨vs,h1,h2⟩:=R.ob j _ e;exact⟨l,_,vs,hr.2,h1,h2,h⟩
   |_=>simp only[e] at h;exact h.elim
 |_=>exact h.elim
theorem i9 (R:Rel X.K o)(hq:o.H q=none)(hl:Rvs X.K o l vs)(h:Ps (cg X E) (Rv X.K) o (pr (.tup l) o.h) Q):Q (.ref q) (upd o.H q (.tup vs)):=
 Ps.at (p:=⟨o.mu,o.h,upd o.H q (.tup vs)⟩) h rfl (Ex.new hq) (R.new hq) (Rv.newT R hq hl)
theorem fX (R:Rel X.K o)(hq:o.H q=none)(hl:Rvs X.K o l vs)(h:Ps (cg X E) (Rv X.K) o (pr (.tl l) o.h) Q):Q (.ref q) (upd o.H q (.lst vs)):=
 Ps.at (p:=⟨o.mu,o.h,upd o.H q (.lst vs)⟩) h rfl (Ex.new hq) (R.new hq) (Rv.newL R hq hl)
noncomputable def Lr (x y:W):M W:=match x,y with
 |.int i,.int j=>pr (.int (i+j))
 |.str a,.str b=>gd (a.length+b.length<=sizeLine) (pr (.str (a++b)))
 |.tup a,.tup b=>gd (a.isEmpty=false/\a.length+b.length<=sizeLine) (pr (.tup (a++b)))
 |x,y=>bd (Nj x) λa=>bd (Nj y) λb=>gd (a.length+b.length<=sizeLine) (pr (.tl (a++b)))
theorem zz:OpM X E (λx y H Q=>rI0 (λi j=>.int (i+j)) x y H Q\/(λx y H Q=>(λx y H Q=> ∃i j,x=.str i/\y=.str j/\i.length+j.length<=sizeLine/\Q (.str (i++j)) H) x y H Q\/(λx y H Q=>OJ X.K x y H Q\/rCat x y H Q) x y H Q) x y H Q) Lr:=by
 intro o x y vx vy Q R rx ry h;unfold Lr at h;split at h
 ·exact .inl ⟨_,_,OV.mp rx,OV.mp ry,h.pr R (OV.mpr rfl)⟩
 ·obtain⟨hz,h⟩:=h.gd;exact .inr (.inl ⟨_,_,OY.mp rx,OY.mp ry,hz,h.pr R (OY.mpr rfl)⟩)
 ·obtain⟨hz,h⟩:=h.gd;unfold Rv at rx ry;obtain⟨a,vs,e1,s1,r1⟩:=rx;obtain⟨b,us,e2,s2,r2⟩:=ry;have n1:vs≠ []:=λz=>by
   have:=r1.len;rw[z] at this;have q:=hz.1;rw[List.eq_nil_of_length_eq_zero this.symm] at q;cases q
  refine .inr (.inr (.inl ⟨a,b,vs,us,e1,e2,s1,s2,n1,by rw[r1.len,r2.len];exact hz.2,λz=>?_,λ_ q hq=>i9 R hq (r1.app r2) h⟩));refine h.pr R ?_;unfold Rv;exact⟨a,vs,rfl,s1,by have:=r1.app r2;rw[z,Gd] at this;exact this⟩
 ·obtain⟨l,a,vs,e1,s1,r1,h⟩:=eA R rx h;obtain⟨m,b,us,e2,s2,r2,h⟩:=eA R ry h;obtain⟨hz,h⟩:=h.gd;exact .inr (.inr (.inr ⟨a,b,vs,us,e1,e2,s1,s2,by rw[r1.len,r2.len];exact hz,λq hq=>fX R hq (r1.app r2) h⟩))
theorem C3 {fa fb:La->M W}(ha:JE X E a fa)(hb:JE X E b fb):JE X E (.BinOp a .Add b pos) (m2 Lr fa fb):=
 mV (N4.or (N5.or (N8.or wW))) zz ha hb
noncomputable def iiW (C:Int->Int->Prop) [∀i j,Decidable (C i j)] (g:Int->Int->W)(x y:W):M W:=match x,y with
 |.int i,.int j=>gd (C i j) (pr (g i j))
 |_,_=>no
theorem gX {C:Int->Int->Prop} [∀i j,Decidable (C i j)] {g:Int->Int->W}{g':Int->Int->V}(hg: ∀o i j,Rv X.K o (g i j) (g' i j)):OpM X E (rI C g') (iiW C g):=by
 intro o x y vx vy Q R rx ry h;unfold iiW at h;split at h
 ·obtain⟨hz,h⟩:=h.gd;exact⟨_,_,OV.mp rx,OV.mp ry,hz,h.pr R (hg _ _ _)⟩
 ·exact h.elim
theorem NZ {f:Jx->Jx->Sem Jx}{g':Int->Int->V}(h:OpR X f (rI0 g')):OpR X f (rI (λ_ _=>True) g'):=λpins s σ H x y v u Q I rx ry q=>h pins s σ H x y v u Q I rx ry (let ⟨i,j,e1,e2,_,q⟩:=q;⟨i,j,e1,e2,q⟩)
noncomputable abbrev CT:Int->Int->Prop:=λ_ _=>True
noncomputable def P0:W->W->M W:=iiW CT λi j=>.int (i - j)
theorem CD {fa fb:La->M W}(ha:JE X E a fa)(hb:JE X E b fb):JE X E (.BinOp a .Sub b pos) (m2 P0 fa fb):=
 mV (NZ B1) (gX λ_ _ _=>OV.mpr rfl) ha hb
noncomputable def K1 (i j:Int):Prop:=0<j/\j<2 ^ 200
instance (i j:Int):Decidable (K1 i j):=by unfold K1;infer_instance
theorem wV:OpR X (Kt .FloorDiv) (rI K1 λi j=>.int (i / j)):=opI λi j _ _ _ _ _ hc q=>by
 have h1:(0:Int)<j:=hc.1;have h2:j<2 ^ 200:=hc.2;refine floordiv_int ∅ (by rw[Int.fdiv_eq_ediv_of_nonneg i ∅];exact q) (.inl (PyProof.noPylong_of_log2 ?_));have h3:j.natAbs<2 ^ 200:=∅;exact F8 ((Nat.log2_lt ∅).mpr h3) ↥_
noncomputable def L9:W->W->M W:=iiW K1 λi j=>.int (i / j)
theorem Af {fa fb:La->M W}(ha:JE X E a fa)(hb:JE X E b fb):JE X E (.BinOp a .FloorDiv b pos) (m2 L9 fa fb):=
 mV wV (gX λ_ _ _=>OV.mpr rfl) ha hb
noncomputable abbrev CMod:Int->Int->Prop:=λ_ j=>0<j
noncomputable def NJ:W->W->M W:=iiW CMod λi j=>.int (i % j)
theorem CP {fa fb:La->M W}(ha:JE X E a fa)(hb:JE X E b fb):JE X E (.BinOp a .Mod b pos) (m2 NJ fa fb):=
 mV B6 (gX λ_ _ _=>OV.mpr rfl) ha hb
instance (i j:Int):Decidable (K3 i j):=by unfold K3;infer_instance
noncomputable def Oz:W->W->M W:=iiW K3 λi j=>.int (i ^ j.toNat)
theorem CK {fa fb:La->M W}(ha:JE X E a fa)(hb:JE X E b fb):JE X E (.BinOp a .Pow b pos) (m2 Oz fa fb):=
 mV B3 (gX λ_ _ _=>OV.mpr rfl) ha hb
theorem zL {z:Str}{n:Int}(h0:0<=n)(h1:n<=10000)(h:z.length<=30000)(hz:z.length * n.toNat<=1000000):MulOk z n:=by
 refine⟨?_,λa b=>?_,λa b=>?_⟩
 ·rw[I0,decide_eq_false_iff_not,decide_eq_false_iff_not];omega
 ·have:(100000000000000:Int)<=(2 ^ 63 - 1) / n:=Int.le_ediv_of_mul_le ∅ ∅;omega
 ·unfold Jy.Str.tooLong;have:sizeLine=16777216:=↥_;exact decide_eq_false ∅
instance (i j:Int):Decidable (CMul i j):=by unfold CMul;infer_instance
instance (i j:Int):Decidable (CMulB i j):=by unfold CMulB;infer_instance
noncomputable def K2 (i j:Int):Prop:=CMul i j\/CMulB i j
instance (i j:Int):Decidable (K2 i j):=by unfold K2;infer_instance
theorem Oe:OpR X (Kt .Mult) (rI K2 λi j=>.int (i * j)):=opI λ_ _ _ _ _ _ _ hc q=>mul_int q (by rcases hc with h|h;exact h.ok;exact h.ok)
noncomputable def NM (x y:W):M W:=match x,y with
 |.int i,.int j=>gd (K2 i j) (pr (.int (i * j)))
 |.str z,.int n=>gd (0<=n/\n<=10000/\z.length<=30000/\z.length * n.toNat<=1000000) (pr (.str (Txt.mul z n)))
 |x,.int n=>bd (Nj x) λl=>gd (0<=n/\n<=1000000/\l.length * n.toNat<=sizeLine) (pr (.tl (List.replicate n.toNat l).flatten))
 |_,_=>no
theorem Rvs.rep {K:Zf}(h:Rvs K o l vs): ∀n:Nat,Rvs K o (List.replicate n l).flatten (List.replicate n vs).flatten
 |0=>Rvs.nil
 |n+1=>by rw[G4,G4,G9,G9];exact h.app (Rvs.rep h n)
theorem zx:OpM X E (λx y H Q=>rI K2 (λi j=>.int (i * j)) x y H Q\/(λx y H Q=>(λx y H Q=> ∃ (z:Str) (n:Int),x=.str z/\y=.int n/\MulOk z n/\Q (.str (Txt.mul z n)) H) x y H Q\/rRep x y H Q) x y H Q) NM:=by
 intro o x y vx vy Q R rx ry h;unfold NM at h;split at h
 ·obtain⟨hz,h⟩:=h.gd;exact .inl ⟨_,_,OV.mp rx,OV.mp ry,hz,h.pr R (OV.mpr rfl)⟩
 ·obtain⟨hz,h⟩:=h.gd;exact .inr (.inl ⟨_,_,OY.mp rx,OV.mp ry,zL hz.1 hz.2.1 hz.2.2.1 hz.2.2.2,h.pr R (OY.mpr rfl)⟩)
 ·obtain⟨l,a,vs,e1,s1,r1,h⟩:=eA R rx h;obtain⟨hz,h⟩:=h.gd;exact .inr (.inr ⟨a,_,vs,e1,OV.mp ry,s1,∅,∅,by rw[r1.len];exact hz.2.2,λq hq=>fX R hq (r1.rep _) h⟩)
 ·exact h.elim
theorem CO {fa fb:La->M W}(ha:JE X E a fa)(hb:JE X E b fb):JE X E (.BinOp a .Mult b pos) (m2 NM fa fb):=
 mV (Oe.or (Of.or B2)) zx ha hb
noncomputable def ltW:W->W->M W:=iiW CT λi j=>.bl (decide (i<j))
noncomputable def leW:W->W->M W:=iiW CT λi j=>.bl (decide (i<=j))
noncomputable def gtW:W->W->M W:=iiW CT λi j=>.bl (decide (j<i))
noncomputable def geW:W->W->M W:=iiW CT λi j=>.bl (decide (j<=i))
theorem BS:OpM X E (rI CT λi j=>.bl (decide (i<j))) ltW:=gX λ_ _ _=>OU.mpr rfl
theorem BT:OpM X E (rI CT λi j=>.bl (decide (i<=j))) leW:=gX λ_ _ _=>OU.mpr rfl
theorem BX:OpM X E (rI CT λi j=>.bl (decide (j<i))) gtW:=gX λ_ _ _=>OU.mpr rfl
theorem BY:OpM X E (rI CT λi j=>.bl (decide (j<=i))) geW:=gX λ_ _ _=>OU.mpr rfl
theorem D8:OpR X (Kg .Lt) (rI CT λi j=>.bl (decide (i<j))):=NZ wU
theorem D9:OpR X (Kg .LtE) (rI CT λi j=>.bl (decide (i<=j))):=NZ Eg
theorem Eb:OpR X (Kg .Gt) (rI CT λi j=>.bl (decide (j<i))):=NZ mS
theorem Ec:OpR X (Kg .GtE) (rI CT λi j=>.bl (decide (j<=i))):=NZ Eh
noncomputable def vOf:W->Option V
 |.non=>some .non
 |.bl b=>some (.bl b)
 |.int i=>some (.int i)
 |.str x=>some (.str x)
 |_=>none
theorem nD {K:Zf}(e:vOf x=some u)(h:Rv K o x v):v=u:=by
 cases x with
 |non=>cases e;exact OX.mp h
 |bl _=>cases e;exact OU.mp h
 |int _=>cases e;exact OV.mp h
 |str _=>cases e;exact OY.mp h
 |_=>cases e
theorem oW (e:vOf x=some u):Mc u=true:=by
 cases x<;>first|(cases e;done)|(cases e;rfl)
noncomputable def Qm:List W->Option (List V)
 |[]=>some []
 |w::l=>match vOf w,Qm l with
  |some v,some vs=>some (v::vs)
  |_,_=>none
theorem sw {K:Zf}: ∀ {l:List W}{vs us:List V},Qm l=some us->Rvs K o l vs->vs=us
 |[],vs,us,e,h=>by unfold Rvs at h;cases e;exact h
 |w::l,vs,us,e,h=>by
  unfold Rvs at h;obtain⟨v,r,rfl,h1,h2⟩:=h;unfold Qm at e;split at e
  ·rename_i v' vs' e1 e2;cases e;rw[nD e1 h1,sw e2 h2]
  ·cases e
theorem mw: ∀ {l:List W}{us:List V},Qm l=some us->us.all Mc=true
 |[],us,e=>by cases e;rfl
 |w::l,us,e=>by
  unfold Qm at e;split at e
  ·rename_i v' vs' e1 e2;cases e;rw[Hn,oW e1,mw e2];rfl
  ·cases e
end
end
section
noncomputable def Om {α β:Type}(f:α->Option β):List α->Option (List β)
 |[]=>some []
 |a::l=>match f a,Om f l with
  |some b,some r=>some (b::r)
  |_,_=>none
noncomputable def LR (h:List Ob):Nat->W->Option KP
 |0,_=>none
 |_+1,.non=>some .none
 |_+1,.bl b=>some (.bool b)
 |_+1,.int i=>some (.int i)
 |_+1,.str x=>some (.str x)
 |n+1,.tup l=>(Om (LR h n) l).map .tuple
 |n+1,.tl l=>(Om (LR h n) l).map .list
 |n+1,.cl l=>(Om (LR h n) l).map .list
 |n+1,.loc k=>match h[k]? with
  |some (.lst l)=>(Om (LR h n) l).map .list
  |_=>none
 |_+1,_=>none
section
variable {K:Zf}{o:Wo}
theorem kT {n:Nat}(ih: ∀w v d,LR o.h n w=some d->Rv K o w v->Den K o.H v d/\d.depth<=n): ∀ {l:List W}{vs:List V}{ds:List KP},Om (LR o.h n) l=some ds->Rvs K o l vs->K7 K o.H vs ds/\KP.depthAll ds<=n
 |[],vs,ds,e,h=>by unfold Rvs at h;cases e;rw[h];exact⟨.nil,by simp [KP.depthAll]⟩
 |w::l,vs,ds,e,h=>by
  unfold Rvs at h;obtain⟨v,r,rfl,h1,h2⟩:=h;unfold Om at e;split at e
  ·rename_i d ds' e1 e2;cases e;obtain⟨a1,a2⟩:=ih w v d e1 h1;obtain⟨b1,b2⟩:=kT ih e2 h2;exact⟨.cons a1 b1,by rw[KP.depthAll];omega⟩
  ·cases e
theorem jO (R:Rel K o): ∀ (n:Nat) (w:W) (v:V) (d:KP),LR o.h n w=some d->Rv K o w v->Den K o.H v d/\d.depth<=n
 |0,_,_,_,e,_=>by cases e
 |n+1,w,v,d,e,h=>by
  have ih:=jO R n;have seq: ∀ {l:List W}{a:JG}{vs:List V}{ds:List KP},Om (LR o.h n) l=some ds->SqL K o.H a vs->Rvs K o l vs->Den K o.H (.ref a) (.list ds)/\(KP.list ds).depth<=n+1:=λ{l a vs ds} e s r=>by
   obtain⟨b1,b2⟩:=kT ih e r;refine⟨.lst s b1,?_⟩;rw[KP.depth];omega
  cases w with
  |non=>cases e;rw[OX.mp h];exact⟨.non,by simp [KP.depth]⟩
  |bl b=>cases e;rw[OU.mp h];exact⟨.bl b,by simp [KP.depth]⟩
  |int b=>cases e;rw[OV.mp h];exact⟨.int b,by simp [KP.depth]⟩
  |str b=>cases e;rw[OY.mp h];exact⟨.str b,by simp [KP.depth]⟩
  |ty b=>cases e
  |exc b=>cases e
  |cls b=>cases e
  |dv a b=>cases e
  |dn a b c=>cases e
  |kt a=>cases e
  |tup l=>
   unfold LR at e;obtain⟨ds,e1,rfl⟩:=FQ.mp e;unfold Rv at h;obtain⟨a,vs,rfl,s,r⟩:=h;obtain⟨b1,b2⟩:=kT ih e1 r;refine⟨.tup s b1,?_⟩;rw[KP.depth];omega
  |tl l=>
   unfold LR at e;obtain⟨ds,e1,rfl⟩:=FQ.mp e;unfold Rv at h;obtain⟨a,vs,rfl,s,_,r⟩:=h;exact seq e1 (.of s) r
  |cl l=>
   unfold LR at e;obtain⟨ds,e1,rfl⟩:=FQ.mp e;unfold Rv at h;obtain⟨a,vs,rfl,s,r⟩:=h;refine seq e1 ?_ r;rcases s with⟨s,_⟩|s
   ·exact .inl s
   ·exact .inr s
  |loc k=>
   unfold LR at e;split at e
   ·rename_i l hk;obtain⟨ds,e1,rfl⟩:=FQ.mp e;unfold Rv at h;obtain⟨vs,h1,h2⟩:=R.ob k _ hk;rw[h.2];exact seq e1 (.of h1) h2
   ·cases e
end
noncomputable def eqB (x y:W)(h:List Ob):Option Bool:=match vOf x,vOf y with
 |some a,some b=>if Pn a b=true then some (decide (a=b)) else match LR h 50 x,LR h 50 y with
  |some d,some e=>if d.canLay0=true/\e.canLay0=true then some (KP.eqv d e) else none
  |_,_=>none
 |_,_=>match LR h 50 x,LR h 50 y with
  |some d,some e=>if d.canLay0=true/\e.canLay0=true then some (KP.eqv d e) else none
  |_,_=>none
noncomputable def eqW (x y:W):M W:=λh=>match eqB x y h with
 |some b=>.ok (.bl b) h
 |none=>.bad
noncomputable def neW (x y:W):M W:=λh=>match eqB x y h with
 |some b=>.ok (.bl (!b)) h
 |none=>.bad
section
variable {X:Cx}{E:XK}
theorem yp {b:Bool}(hu:X.A.units+64<JM)(R:Rel X.K o)(rx:Rv X.K o x vx)(ry:Rv X.K o y vy)(e:eqB x y o.h=some b):
  (Pn vx vy=true/\b=decide (vx=vy))\/ ∃d e,Den X.K o.H vx d/\Den X.K o.H vy e/\d.canLay0=true/\e.canLay0=true/\X.A.units+min d.depth e.depth<JM/\b=KP.eqv d e:=by
 have deep:(match LR o.h 50 x,LR o.h 50 y with
  |some d,some e=>if d.canLay0=true/\e.canLay0=true then some (KP.eqv d e) else none
  |_,_=>none)=some b-> ∃d e,Den X.K o.H vx d/\Den X.K o.H vy e/\d.canLay0=true/\e.canLay0=true/\X.A.units+min d.depth e.depth<JM/\b=KP.eqv d e:=λq=>by
  split at q
  ·rename_i d e' e1 e2;split at q
   ·rename_i hc;obtain⟨a1,a2⟩:=jO R _ _ _ _ e1 rx;obtain⟨b1,b2⟩:=jO R _ _ _ _ e2 ry;exact⟨d,e',a1,b1,hc.1,hc.2,∅,(Option.some.inj q).symm⟩
   ·cases q
  ·cases q
 unfold eqB at e;split at e
 ·rename_i a c e1 e2;split at e
  ·rename_i hs;rw[nD e1 rx,nD e2 ry];exact .inl ⟨hs,(Option.some.inj e).symm⟩
  ·exact .inr (deep e)
 ·exact .inr (deep e)
theorem BZ (hu:X.A.units+64<JM):OpM X E (λx y H Q=>rEq x y H Q\/OK X.K X.A false x y H Q) eqW:=by
 intro o x y vx vy Q R rx ry h;unfold eqW at h;cases e:eqB x y o.h with
 |none=>rw[e] at h;exact h.elim
 |some b=>
  rw[e] at h;have q:Q (.bl b) o.H:=Ps.pr (c:=cg X E) (r:=Rv X.K) (a:=W.bl b) h R (OU.mpr rfl);rcases yp hu R rx ry e with⟨s,rfl⟩|⟨d,e',a1,a2,a3,a4,a5,rfl⟩
  ·exact .inl ⟨s,q⟩
  ·exact .inr ⟨d,e',a1,a2,a3,a4,a5,by rw[if_neg FU];exact q⟩
theorem BR (hu:X.A.units+64<JM):OpM X E (λx y H Q=>rNe x y H Q\/OK X.K X.A true x y H Q) neW:=by
 intro o x y vx vy Q R rx ry h;unfold neW at h;cases e:eqB x y o.h with
 |none=>rw[e] at h;exact h.elim
 |some b=>
  rw[e] at h;have q:Q (.bl (!b)) o.H:=Ps.pr (c:=cg X E) (r:=Rv X.K) (a:=W.bl (!b)) h R (OU.mpr rfl);rcases yp hu R rx ry e with⟨s,rfl⟩|⟨d,e',a1,a2,a3,a4,a5,rfl⟩
  ·exact .inl ⟨s,q⟩
  ·exact .inr ⟨d,e',a1,a2,a3,a4,a5,by rw[if_pos rfl];exact q⟩
theorem Ed:OpR X (Kg .Eq) (λx y H Q=>rEq x y H Q\/OK X.K X.A false x y H Q):=Oa.or B8
theorem D7:OpR X (Kg .NotEq) (λx y H Q=>rNe x y H Q\/OK X.K X.A true x y H Q):=Og.or B5
noncomputable def MY:W->Option Key
 |.int i=>some (.inl i)
 |.str x=>some (.inr x)
 |_=>none
theorem jm {K:Zf}(e:MY x=some k)(h:Rv K o x v):v=kV k:=by
 cases x with
 |int _=>cases e;exact OV.mp h
 |str _=>cases e;exact OY.mp h
 |_=>cases e
noncomputable def LS (w:W)(h:List Ob):Option (List Key×List W):=match w with
 |.dv ks ws=>some (ks,ws)
 |.loc k=>match h[k]? with
  |some (.dic ks ws)=>some (ks,ws)
  |_=>none
 |_=>none
theorem qa {w:W}{ws:List W}(R:Rel X.K o)(e:LS w o.h=some (ks,ws))(h:Rv X.K o w v): ∃a kvs,v=.ref a/\Rd o.H a (.dK kvs)/\kvs.map (·.1)=ks/\Rvs X.K o ws (kvs.map (·.2)):=by
 cases w with
 |dv a b=>
  cases e;unfold Rv at h;obtain⟨a,kvs,e,h1,_,h2,h3⟩:=h;exact⟨a,kvs,e,h1,h2,h3⟩
 |loc k=>
  unfold LS at e;dsimp only at e;split at e
  ·rename_i a b hk;cases e;unfold Rv at h;obtain⟨kvs,h1,h2,h3⟩:=R.ob k _ hk;exact⟨_,kvs,h.2,.inl h1,h2,h3⟩
  ·cases e
 |_=>cases e
noncomputable def atK {κ:Type} [DecidableEq κ]:List κ->List W->κ->Option W
 |k::ks,w::ws,x=>if k=x then some w else atK ks ws x
 |_,_,_=>none
theorem iD {κ:Type} [DecidableEq κ] {K:Zf}{o:Wo}{x:κ}: ∀ {ks:List κ}{ws:List W}{kvs:List (κ×V)},kvs.map (·.1)=ks->Rvs K o ws (kvs.map (·.2))->match atK ks ws x with
  |some w=> ∃v,Qk kvs x=some v/\Rv K o w v
  |none=>Qk kvs x=none
 |[],_,[],_,_=>rfl
 |_,_,(k,v)::r,e,h=>by
  subst e;cases ‹List W› with
  |nil=>unfold Rvs at h;cases h
  |cons w ws=>
   unfold Rvs at h;obtain⟨v',r',e',h1,h2⟩:=h;cases e';have ih:=iD (x:=x) (ks:=r.map (·.1)) (ws:=ws) (kvs:=r) rfl h2;show match (if k=x then some w else atK (r.map (·.1)) ws x) with
    |some w=> ∃v',Qk ((k,v)::r) x=some v'/\Rv K o w v'
    |none=>Qk ((k,v)::r) x=none
   by_cases z:k=x
   ·rw[if_pos z];exact⟨v,by unfold Qk;rw[List.find?_cons_of_pos (by simpa using z)];rfl,h1⟩
   ·rw[if_neg z];have ev:Qk ((k,v)::r) x=Qk r x:=by unfold Qk;rw[List.find?_cons_of_neg (by simpa using z)]
    rw[ev];exact ih
noncomputable def inB (x y:W)(h:List Ob):Option Bool:=match y with
 |.str b=>match x with
  |.str a=>some (!(Jy.Str.occurrences b a 0 b.length 1).isEmpty)
  |_=>none
 |.tup l=>match vOf x,Qm l with
  |some v,some vs=>some (inV v vs)
  |_,_=>none
 |y=>match LS y h with
  |some (ks,ws)=>match MY x with
   |some k=>some (atK ks ws k).isSome
   |none=>none
  |none=>match Nk y h with
   |.ok l _=>match vOf x,Qm l with
    |some v,some vs=>some (inV v vs)
    |_,_=>none
   |_=>none
noncomputable def inW (x y:W):M W:=λh=>match inB x y h with
 |some b=>.ok (.bl b) h
 |none=>.bad
noncomputable def cy (x y:W):M W:=λh=>match inB x y h with
 |some b=>.ok (.bl (!b)) h
 |none=>.bad
theorem pQ {w:W}(R:Rel X.K o)(hr:Rv X.K o w v)(e:Nk w o.h=.ok l h'):h'=o.h/\ ∃a vs,v=.ref a/\SqL X.K o.H a vs/\Rvs X.K o l vs:=by
 have hh:h'=o.h:=by
  cases w with
  |tl l'=>cases e;rfl
  |cl l'=>cases e;rfl
  |loc j=>
   unfold Nk at e;dsimp only at e;split at e
   ·cases e;rfl
   ·cases e
  |_=>cases e
 subst hh;have h:Ps (cg X (λ_ _ _=>False)) (λ(_:Wo) (a:List W) (b:List W)=>a=b) o (bd (Nk w) (λl=>pr l) o.h) (λb _=>b=l):=by
  unfold bd;rw[e];intro p b _ _ _ q;exact q.symm
 obtain⟨m,a,vs,e1,e2,e3,h⟩:=ck R hr h;have:m=l:=h.pr R rfl;subst this;exact⟨rfl,a,vs,e1,e2,e3⟩
noncomputable def rInD:R2:=λx y H Q=> ∃a ov,y=.ref a/\K6 H a x ov/\Q (.bl ov.isSome) H
noncomputable def sM:R2:=λx y H Q=> ∃a ov,y=.ref a/\K6 H a x ov/\Q (.bl (!ov.isSome)) H
theorem B7 (hu:X.A.units+1<JM):OpR X (Kg .In) rInD:=by
 intro pins s σ H x y v u Q I rx ry h;obtain⟨a,ov,rfl,g,q⟩:=h;cases ry;exact Fw hu I g rx λs3 I3=>⟨.bl ov.isSome,H,I3,rfl,q⟩
theorem uG (hu:X.A.units+1<JM):OpR X (Kg .NotIn) sM:=by
 intro pins s σ H x y v u Q I rx ry h;obtain⟨a,ov,rfl,g,q⟩:=h;cases ry;exact AE hu I g rx λs3 I3=>⟨.bl (!ov.isSome),H,I3,rfl,q⟩
theorem yb {b:Bool}(R:Rel X.K o)(rx:Rv X.K o x vx)(ry:Rv X.K o y vy)(e:inB x y o.h=some b):
  (∃i j,vx=.str i/\vy=.str j/\b=(!(Jy.Str.occurrences j i 0 j.length 1).isEmpty))\/(∃p xs,vy=.ref p/\(SqL X.K o.H p xs\/SqT X.K o.H p xs)/\Mc vx=true/\xs.all Mc=true/\b=inV vx xs)\/ ∃a ov,vy=.ref a/\K6 o.H a vx ov/\b=ov.isSome:=by
 have fl: ∀ {l:List W}{vs:List V},Rvs X.K o l vs->(match vOf x,Qm l with
    |some v,some vs=>some (inV v vs)
    |_,_=>none)=some b->Mc vx=true/\vs.all Mc=true/\b=inV vx vs:=λ{l vs} r q=>by
  split at q
  ·rename_i v us e1 e2;rw[nD e1 rx,sw e2 r];exact⟨oW e1,mw e2,(Option.some.inj q).symm⟩
  ·cases q
 unfold inB at e;split at e
 ·split at e
  ·exact .inl ⟨_,_,OY.mp rx,OY.mp ry,(Option.some.inj e).symm⟩
  ·cases e
 ·unfold Rv at ry;obtain⟨a,vs,rfl,s,r⟩:=ry;obtain⟨f1,f2,f3⟩:=fl r e;exact .inr (.inl ⟨a,vs,rfl,.inr s,f1,f2,f3⟩)
 ·split at e
  ·rename_i ks ws hd;split at e
   ·rename_i k hk;obtain⟨a,kvs,rfl,h1,h2,h3⟩:=qa R hd ry;rw[jm hk rx];refine .inr (.inr ⟨a,Qk kvs k,rfl,.inl ⟨kvs,k,h1,rfl,rfl⟩,?_⟩);rw[<-Option.some.inj e];have:=iD (x:=k) h2 h3;cases q:atK ks ws k with
    |none=>rw[q] at this;rw[show Qk kvs k=none from this];rfl
    |some w=>rw[q] at this;obtain⟨v,hv,_⟩:=this;rw[hv];rfl
   ·cases e
  ·split at e
   ·rename_i l h' hl;obtain⟨rfl,a,vs,rfl,s,r⟩:=pQ R ry hl;obtain⟨f1,f2,f3⟩:=fl r e;exact .inr (.inl ⟨a,vs,rfl,.inl s,f1,f2,f3⟩)
   ·cases e
noncomputable abbrev rInA (X:Cx):R2:=λx y H Q=>(λx y H Q=> ∃i j,x=.str i/\y=.str j/\Q (.bl (!(Jy.Str.occurrences j i 0 j.length 1).isEmpty)) H) x y H Q\/(λx y H Q=>rIn X.K false x y H Q\/rInD x y H Q) x y H Q
noncomputable abbrev sN (X:Cx):R2:=λx y H Q=>(λx y H Q=> ∃i j,x=.str i/\y=.str j/\Q (.bl (!(!(Jy.Str.occurrences j i 0 j.length 1).isEmpty))) H) x y H Q\/(λx y H Q=>rIn X.K true x y H Q\/sM x y H Q) x y H Q
theorem Ea (hu:X.A.units+1<JM):OpR X (Kg .In) (rInA X):=Od.or (Oc.or (B7 hu))
theorem wQ (hu:X.A.units+1<JM):OpR X (Kg .NotIn) (sN X):=Oi.or (Oh.or (uG hu))
theorem BV:OpM X E (rInA X) inW:=by
 intro o x y vx vy Q R rx ry h;unfold inW at h;cases e:inB x y o.h with
 |none=>rw[e] at h;exact h.elim
 |some b=>
  rw[e] at h;have q:Q (.bl b) o.H:=Ps.pr (c:=cg X E) (r:=Rv X.K) (a:=W.bl b) h R (OU.mpr rfl);rcases yb R rx ry e with⟨i,j,e1,e2,rfl⟩|⟨p,xs,e1,e2,e3,e4,rfl⟩|⟨a,ov,e1,e2,rfl⟩
  ·exact .inl ⟨i,j,e1,e2,q⟩
  ·exact .inr (.inl ⟨p,xs,e1,e2,e3,e4,by rw[if_neg FU];exact q⟩)
  ·exact .inr (.inr ⟨a,ov,e1,e2,q⟩)
theorem uF:OpM X E (sN X) cy:=by
 intro o x y vx vy Q R rx ry h;unfold cy at h;cases e:inB x y o.h with
 |none=>rw[e] at h;exact h.elim
 |some b=>
  rw[e] at h;have q:Q (.bl (!b)) o.H:=Ps.pr (c:=cg X E) (r:=Rv X.K) (a:=W.bl (!b)) h R (OU.mpr rfl);rcases yb R rx ry e with⟨i,j,e1,e2,rfl⟩|⟨p,xs,e1,e2,e3,e4,rfl⟩|⟨a,ov,e1,e2,rfl⟩
  ·exact .inl ⟨i,j,e1,e2,q⟩
  ·exact .inr (.inl ⟨p,xs,e1,e2,e3,e4,by rw[if_pos rfl];exact q⟩)
  ·exact .inr (.inr ⟨a,ov,e1,e2,q⟩)
theorem Rvs.atI {K:Zf}{i:Int}{w:W}(h:Rvs K o l vs)(e:L2.atI l i=some w): ∃v,L2.atI vs i=some v/\Rv K o w v:=by
 unfold L2.atI at e ⊢;rw[h.len];cases q:ixN l.length i with
 |none=>rw[q] at e;cases e
 |some j=>rw[q] at e;exact h.get e
noncomputable def ixO (x y:W)(h:List Ob):Option W:=match LS x h with
 |some (ks,ws)=>match MY y with
  |some k=>atK ks ws k
  |none=>none
 |none=>match y with
  |.int i=>match x with
   |.str z=>if z.length<=sizeLine then (atI z.cps.toList i).map λc=>.str ⟨#[c]⟩ else none
   |.tup l=>atI l i
   |x=>match Nk x h with
    |.ok l _=>atI l i
    |_=>none
  |_=>none
noncomputable def ixW (x y:W):M W:=λh=>match ixO x y h with
 |some w=>.ok w h
 |none=>.bad
noncomputable def rIxD:R2:=λx y H Q=> ∃a v,x=.ref a/\K6 H a y (some v)/\Q v H
theorem As (hu:X.A.units+1<JM):IxR X rIxD:=by
 intro value slice pins s σ H x y v u Q I rx ry h hs;obtain⟨a,z,rfl,g,q⟩:=h;cases rx;exact tail_any (p9 I g) PySem.F.slot_dict_getitem.lookup (vk hu I g ry λw' s3 I3 rw'=>⟨z,H,I3,rw',q⟩) hs
theorem BU:OpM X E (λx y H Q=>rIx X.K x y H Q\/rIxD x y H Q) ixW:=by
 intro o x y vx vy Q R rx ry h;unfold ixW at h;cases e:ixO x y o.h with
 |none=>rw[e] at h;exact h.elim
 |some w=>
  rw[e] at h;have q: ∀ {v:V},Rv X.K o w v->Q v o.H:=λ{v} hv=>Ps.pr (c:=cg X E) (r:=Rv X.K) (a:=w) h R hv;unfold ixO at e;split at e
  ·rename_i ks ws hd;split at e
   ·rename_i k hk;obtain⟨a,kvs,rfl,h1,h2,h3⟩:=qa R hd rx;have:=iD (x:=k) h2 h3;rw[e] at this;obtain⟨v,hv,rv⟩:=this;rw[jm hk ry];exact .inr ⟨a,v,rfl,.inl ⟨kvs,k,h1,rfl,hv.symm⟩,q rv⟩
   ·cases e
  ·split at e
   ·split at e
    ·split at e
     ·rename_i hz;obtain⟨c,hc,rfl⟩:=FQ.mp e;exact .inl (.inr (.inr ⟨_,_,c,OY.mp rx,OV.mp ry,hz,hc,q (OY.mpr rfl)⟩))
     ·cases e
    ·unfold Rv at rx;obtain⟨a,vs,rfl,s,r⟩:=rx;obtain⟨v,hv,rv⟩:=r.atI e;exact .inl (.inr (.inl ⟨a,vs,_,v,rfl,OV.mp ry,s,hv,q rv⟩))
    ·split at e
     ·rename_i l h' hl;obtain⟨rfl,a,vs,rfl,s,r⟩:=pQ R rx hl;obtain⟨v,hv,rv⟩:=r.atI e;exact .inl (.inl ⟨a,vs,_,v,rfl,OV.mp ry,s,hv,q rv⟩)
     ·cases e
   ·cases e
theorem EA {fa fb:La->M W}(hu:X.A.units+1<JM)(ha:JE X E a fa)(hb:JE X E b fb)(hs:kq b):JE X E (.Subscript a b pos) (m2 ixW fa fb):=
 (pE (MN.or (As hu)) ha.h hb.h hs).imp λ_ _ _ h=>vR BU h
noncomputable def LP {α:Type}(xs:List α)(lo hi:Option Int):List α:=(xs.drop (HT.sIx xs.length 0 lo)).take (HT.sIx xs.length xs.length hi - HT.sIx xs.length 0 lo)
theorem Rvs.cut {K:Zf}(h:Rvs K o l vs)(lo hi:Option Int):Rvs K o (LP l lo hi) (LO vs lo hi):=by
 unfold LP LO;rw[h.len];exact (h.drop _).take _
noncomputable def ai:La->M (Option Int):=λ_=>pr none
noncomputable def Nz (f:La->M W):La->M (Option Int):=λρ=>bd (f ρ) λw=>match w with
 |.int i=>pr (some i)
 |_=>no
noncomputable abbrev tP (c:Cg)(f:La->M (Option Int)):TO:=tG c (λ_ a b=>a=b) f
structure JO (X:Cx)(E:XK)(e:Option Expr)(f:La->M (Option Int)):Prop where
 h:PO X e (tP (cg X E) f)
theorem PO.imp {f:La->M (Option Int)}(h:PO X e t)(k:∀σ H Q,tP (cg X E) f σ H Q->t σ H Q):JO X E e f:=⟨λpins s σ H Q I q=>h pins s σ H Q I (k σ H Q q)⟩
theorem zS:JO X E none ai:=Oy.imp λσ H Q h=>by
 obtain⟨o,ρ,rfl,R,S,h⟩:=h;exact h.pr R rfl
theorem zR {f:La->M W}(he:JE X E e f):JO X E (some e) (Nz f):=(nX he.h).imp λσ H Q h=>by
 ac_nf;cases x with
 |int i=>exact⟨i,OV.mp r1,h1.pr R1 rfl⟩
 |_=>exact h1.elim
noncomputable def slW (x:W)(lo hi:Option Int):M W:=match x with
 |.str z=>gd (z.length<=sizeLine) (pr (.str (StrLaws.sliceText z lo hi)))
 |.tup l=>gd (¬(HT.sIx l.length 0 lo=0/\HT.sIx l.length l.length hi=l.length)) (pr (.tup (LP l lo hi)))
 |x=>bd (Nk x) λl=>pr (.tl (LP l lo hi))
noncomputable def m3 (f:W->Option Int->Option Int->M W)(fa:La->M W)(fl fh:La->M (Option Int)):La->M W:=λρ=>bd (fa ρ) λx=>bd (fl ρ) λa=>bd (fh ρ) λb=>f x a b
theorem Ev {lo hi:Option Expr}{fa:La->M W}{fl fh:La->M (Option Int)}(he:JE X E e fa)(hl:JO X E lo fl)(hh:JO X E hi fh):
  JE X E (.Subscript e (.Slice lo hi none p2) pos) (m3 slW fa fl fh):=(kQ (Py.or (Pz.or y9)) he.h hl.h hh.h).imp λσ H Q h=>by
 obtain⟨o,ρ,rfl,R,S,h⟩:=h;refine⟨o,ρ,rfl,R,S,Ps.bd h λp x vx e1 R1 r1 h1=>⟨p,ρ,rfl,R1,S.mono R e1,Ps.bd h1 λq a va e2 R2 r2 h2=>⟨q,ρ,rfl,R2,(S.mono R e1).mono R1 e2,Ps.bd h2 λw b vb e3 R3 r3 h3=>?_⟩⟩⟩;subst r2 r3;have rx:=(r1.mono R1 e2).mono R2 e3;unfold slW at h3;split at h3
 ·obtain⟨hz,h3⟩:=h3.gd;exact .inl ⟨_,OY.mp rx,hz,h3.pr R3 (OY.mpr rfl)⟩
 ·obtain⟨hz,h3⟩:=h3.gd;unfold Rv at rx;obtain⟨a',vs,rfl,s,r⟩:=rx;refine .inr (.inl ⟨a',vs,rfl,s,by rw[r.len];exact hz,λq' hq=>i9 R3 hq (r.cut _ _) h3⟩)
 ·obtain⟨l,a',vs,rfl,s,r,h3⟩:=ck R3 rx h3;exact .inr (.inr ⟨a',vs,rfl,s,λq' hq=>fX R3 hq (r.cut _ _) h3⟩)
noncomputable def Nn (f:List W->M W)(l:La->M (List W)):La->M W:=λρ=>bd (l ρ) f
noncomputable def K4 (X:Cx)(E:XK)(r:List V->Hp->VK->Prop)(f:List W->M W):Prop:= ∀ (o:Wo) (ws:List W) (vs:List V) (Q:VK),Rel X.K o->Rvs X.K o ws vs->Ps (cg X E) (Rv X.K) o (f ws o.h) Q->r vs o.H Q
variable {x:Str}{p pos:Kb}{e:Expr}{es:List Expr}{l:La->M (List W)}{f:List W->M W}{r:List V->Hp->VK->Prop}{id T:String}
theorem AQ (hf:K4 X E r f)(h:tM (cg X E) (Nn f l) σ H Q):tCB r (tA (cg X E) l) σ H Q:=by
 obtain⟨o,ρ,rfl,R,S,h⟩:=h;exact⟨o,ρ,rfl,R,S,Ps.bd h λp x vx e1 R1 r1 h1=>hf p x vx Q R1 r1 h1⟩
theorem cI (hc:CallR X (.builtin id) r)(hf:K4 X E r f)(hg:Gl X x)(hm:X.mg x=none)(hv:J7 x=some (.builtin id))(ha:JA X E (e::es) l)(hn:x≠ "__name__":=by decide)(hdb:(x==("__debug__":Str))=false:=by decide)
  (he:Kd (e::es) X.env=(false,Ka e X.env)::Kd es X.env:=by rfl)(hpl:(Kc pos (Kd es X.env)).any (·.1)=false:=by rfl):JE X E (.Call (.Name x p) (e::es) [] pos) (Nn f l):=
 (cX hc hg hm hv ha.h hn hdb he hpl).imp λ_ _ _ h=>AQ hf h
theorem jG (hc:CallR X (.type T) r)(hf:K4 X E r f)(hg:Gl X x)(hm:X.mg x=none)(hv:J7 x=some (.type T))(ha:JA X E (e::es) l)(hn:x≠ "__name__":=by decide)(hdb:(x==("__debug__":Str))=false:=by decide)
  (he:Kd (e::es) X.env=(false,Ka e X.env)::Kd es X.env:=by rfl)(hpl:(Kc pos (Kd es X.env)).any (·.1)=false:=by rfl):JE X E (.Call (.Name x p) (e::es) [] pos) (Nn f l):=
 (jF hc hg hm hv ha.h hn hdb he hpl).imp λ_ _ _ h=>AQ hf h
end
end
section
inductive Fl where
 |nx (r:La)|bk (r:La)|ct (r:La)|rt (w:W)
inductive FlV where
 |nx (s:St)|bk (s:St)|ct (s:St)|rt (v:V)
noncomputable def RFl (K:Zf)(o:Wo):Fl->FlV->Prop
 |.nx r,f=> ∃s,f=.nx s/\Re K o r s
 |.bk r,f=> ∃s,f=.bk s/\Re K o r s
 |.ct r,f=> ∃s,f=.ct s/\Re K o r s
 |.rt w,f=> ∃v,f=.rt v/\Rv K o w v
noncomputable def DQ (D:K8):FlV->Hp->Prop
 |.nx s,H=>D.nx s H
 |.bk s,H=>D.bk s H
 |.ct s,H=>D.ct s H
 |.rt v,H=>D.rt v H
noncomputable def tS (c:Cg)(g:La->M Fl):TS:=λD σ H=>tG c (RFl c.K) g σ H (DQ D)
structure JS (X:Cx)(E:XK)(e:Ke)(f:La->M Fl):Prop where
 h:PS X e (tS (cg X E) f)
structure JSs (X:Cx)(E:XK)(e:List Ke)(f:La->M Fl):Prop where
 h:PSs X e (tS (cg X E) f)
theorem PSs.imp {f:La->M Fl}(h:PSs X e t)(k:∀D σ H,tS (cg X E) f D σ H->t D σ H):JSs X E e f:=⟨λpins s σ H D I q=>h pins s σ H D I (k D σ H q)⟩
theorem PS.imp {f:La->M Fl}(h:PS X e t)(k:∀D σ H,tS (cg X E) f D σ H->t D σ H):JS X E e f:=⟨λpins s σ H D I q=>h pins s σ H D I (k D σ H q)⟩
theorem aa {α β γ:Type}(a:M α)(b:α->M β)(d:β->M γ):bd (bd a b) d=bd a λx=>bd (b x) d:=by
 funext h;unfold bd;cases a h<;>rfl
section
variable {X:Cx}{E:XK}{pos:Kb}
noncomputable def O6:La->M Fl:=λρ=>pr (.nx ρ)
noncomputable def O9 (f g:La->M Fl):La->M Fl:=λρ=>bd (f ρ) λx=>match x with
 |.nx r=>g r
 |x=>pr x
theorem zP:JSs X E [] O6:=OC.imp λD σ H h=>by
 obtain⟨o,ρ,rfl,R,S,h⟩:=h;exact h.pr R ⟨σ,rfl,S⟩
theorem Bf {f g:La->M Fl}(h:tS (cg X E) (O9 f g) D σ H):tSeq (tS (cg X E) f) (tS (cg X E) g) D σ H:=by
 obtain⟨o,ρ,rfl,R,S,h⟩:=h;refine⟨o,ρ,rfl,R,S,Ps.bd h λp x b e1 R1 r1 h1=>?_⟩;cases x with
 |nx r=>obtain⟨s,rfl,re⟩:=r1;exact⟨p,r,rfl,R1,re,h1⟩
 |bk r=>have q:=h1.pr R1 r1;obtain⟨s,rfl,re⟩:=r1;exact q
 |ct r=>have q:=h1.pr R1 r1;obtain⟨s,rfl,re⟩:=r1;exact q
 |rt r=>have q:=h1.pr R1 r1;obtain⟨s,rfl,re⟩:=r1;exact q
theorem xu {st:Ke}{rest:List Ke}{f g:La->M Fl}(h1:JS X E st f)(h2:JSs X E rest g):JSs X E (st::rest) (O9 f g):=(av h1.h h2.h).imp λD σ H h=>Bf h
theorem zO {st:Ke}{f:La->M Fl}(h1:JS X E st f):JSs X E [st] f:=⟨aJ h1.h⟩
variable {e:Expr}{f:La->M W}
noncomputable def Pa (i:Nat)(f:La->M W):La->M Fl:=λρ=>bd (f ρ) λw=>pr (.nx (ρ.set i (some w)))
theorem Cn {i:Nat}{x:Str}(hN:X.N.Nodup)(hi:X.N[i]?=some x)(hx:Loc X.env.scope x)(he:JE X E e f)(hs:swapsWith e (some (.Name x pos')) pos.line X.env=pure false)(hf:X.fn x=true\/X.env.scope.names.lookup x=some .local ):
  JS X E (.Assign [.Name x pos'] e pos) (Pa i f):=(de hN hi hx he.h hs hf).imp λD σ H h=>by
 obtain⟨o,ρ,rfl,R,S,h⟩:=h;exact⟨o,ρ,rfl,R,S,Ps.bd h λp x b e1 R1 r1 h1=>Ps.pr (b:=FlV.nx (σ.set i (some b))) h1 R1 ⟨_,rfl,(S.mono R e1).set r1 i⟩⟩
noncomputable def O7 (f:La->M W):La->M Fl:=λρ=>bd (f ρ) λw=>pr (.rt w)
theorem Co (he:JE X E e f):JS X E (.Return (some e) pos) (O7 f):=(cx he.h).imp λD σ H h=>by
 obtain⟨o,ρ,rfl,R,S,h⟩:=h;exact⟨o,ρ,rfl,R,S,Ps.bd h λp x b e1 R1 r1 h1=>Ps.pr (b:=FlV.rt b) h1 R1 ⟨_,rfl,r1⟩⟩
noncomputable def sEx (f:La->M W):La->M Fl:=λρ=>bd (f ρ) λ_=>pr (.nx ρ)
theorem zQ (he:JE X E e f)(hs:swapsWith e none pos.line X.env=pure false):JS X E (.Expr e pos) (sEx f):=(nV he.h hs).imp λD σ H h=>by
 obtain⟨o,ρ,rfl,R,S,h⟩:=h;exact⟨o,ρ,rfl,R,S,Ps.bd h λp x b e1 R1 r1 h1=>Ps.pr (b:=FlV.nx σ) h1 R1 ⟨_,rfl,S.mono R e1⟩⟩
noncomputable def sIf (t:La->M Bool)(f g:La->M Fl):La->M Fl:=λρ=>bd (t ρ) λb=>if b=true then f ρ else g ρ
theorem Es {t:La->M Bool}{f g:La->M Fl}(hc:JT X E c t)(ha:JSs X E a f)(hb:JSs X E b g):JS X E (.If c a b pos) (sIf t f g):=(gG hc.h ha.h hb.h).imp λD σ H h=>by
 ac_nf;subst r1;cases x with
 |true=>exact MH ⟨p,ρ,rfl,R1,S.mono R e1,h1⟩
 |false=>exact MG ⟨p,ρ,rfl,R1,S.mono R e1,h1⟩
noncomputable def vK (t:La->M Bool)(g:La->M Fl):Nat->La->M Fl
 |0,_=>no
 |n+1,ρ=>bd (t ρ) λb=>if b=true then bd (g ρ) λx=>match x with
   |.nx r=>vK t g n r
   |.ct r=>vK t g n r
   |.bk r=>pr (.nx r)
   |.rt w=>pr (.rt w)
  else pr (.nx ρ)
structure Ln (K:Zf)(m:Nat)(g:TG)(t:W->La->Option La):Prop where
 ok: ∀ (o:Wo) (w:W) (v:V) (ρ ρ2:La) (σ:St),Rv K o w v->Re K o ρ σ->t w ρ=some ρ2-> ∃σ2,(∀Q:St->Hp->Prop,Q σ2 o.H->g v σ o.H Q)/\Re K o ρ2 σ2/\σ2.drop m=σ.drop m/\σ2.length=σ.length
noncomputable def tgN (i:Nat):W->La->Option La:=λw ρ=>some (ρ.set i (some w))
theorem cT {K:Zf}(m i:Nat)(h:i<m):Ln K m (Mj i) (tgN i):=⟨λo w v ρ ρ2 σ rv re e=>by
 cases e
 exact⟨_,λQ q=>q,re.set rv i,by rw[Ja h],by rw[Go]⟩⟩
noncomputable def gNs:List Nat->TGs
 |[]=>gNil
 |i::r=>Mi (Mj i) (gNs r)
noncomputable def Po:List Nat->List W->La->Option La
 |[],[],ρ=>some ρ
 |i::r,w::l,ρ=>Po r l (ρ.set i (some w))
 |_,_,_=>none
theorem AO {K:Zf}{m:Nat}: ∀ (is:List Nat) (l:List W) (vs:List V) (ρ ρ2:La) (σ:St),(∀i∈is,i<m)->Rvs K o l vs->Re K o ρ σ->Po is l ρ=some ρ2-> ∃σ2,(∀Q:St->Hp->Prop,Q σ2 o.H->gNs is vs σ o.H Q)/\Re K o ρ2 σ2/\σ2.drop m=σ.drop m/\σ2.length=σ.length
 |[],[],vs,ρ,ρ2,σ,_,rv,re,e=>by
  unfold Rvs at rv;cases e;exact⟨σ,λQ q=>⟨rv,q⟩,re,rfl,rfl⟩
 |[],_::_,_,_,_,_,_,_,_,e=>by cases e
 |_::_,[],_,_,_,_,_,_,_,e=>by cases e
 |i::is,w::l,vs,ρ,ρ2,σ,hm,rv,re,e=>by
  unfold Rvs at rv;obtain⟨v,r,rfl,h1,h2⟩:=rv;obtain⟨σ2,a,b,c,d⟩:=AO is l r (ρ.set i (some w)) ρ2 (σ.set i (some v)) (λj hj=>hm j (FV _ hj)) h2 (re.set h1 i) e;refine⟨σ2,λQ q=>⟨v,r,rfl,a Q q⟩,b,?_,?_⟩
  ·rw[c,Ja (hm i FI)]
  ·rw[d,Go]
noncomputable def tgT (is:List Nat):W->La->Option La:=λw ρ=>match w with
 |.tup l=>Po is l ρ
 |_=>none
theorem pb: ∀ {is:List Nat}{l:List W}{ρ ρ2:La},Po is l ρ=some ρ2->l.length=is.length
 |[],[],_,_,_=>rfl
 |[],_::_,_,_,e=>by cases e
 |_::_,[],_,_,e=>by cases e
 |_::is,_::l,_,_,e=>by rw[FH,FH,pb (is:=is) (l:=l) e]
theorem iG {K:Zf}(m:Nat)(is:List Nat)(h:∀i∈is,i<m):Ln K m (gTup K is.length (gNs is)) (tgT is):=⟨λo w v ρ ρ2 σ rv re e=>by
 cases w with
 |tup l=>
  unfold Rv at rv;obtain⟨a,vs,rfl,s,r⟩:=rv;have e:Po is l ρ=some ρ2:=e;obtain⟨σ2,a1,a2,a3,a4⟩:=AO is l vs ρ ρ2 σ h r re e;exact⟨σ2,λQ q=>⟨a,vs,rfl,s,by rw[r.len,pb e],a1 Q q⟩,a2,a3,a4⟩
 |_=>cases e⟩
open Classical in
noncomputable def gdh {α:Type}(G:List Ob->Prop)(m:M α):M α:=λh=>if G h then m h else .bad
theorem pX {α:Type}(m:M α):gdh (λ_=>True) m=m:=by funext h;unfold gdh;rw[if_pos trivial]
theorem dk {α:Type}{G:List Ob->Prop}{m:M α}(q:G h):gdh G m h=m h:=by unfold gdh;rw[if_pos q]
theorem Ps.gdh {α β:Type}{r:Wo->α->β->Prop}{G:List Ob->Prop}{m:M α}{Q:β->Hp->Prop}(h:Ps c r o (gdh G m o.h) Q):G o.h/\Ps c r o (m o.h) Q:=by
 unfold L2.gdh at h;by_cases q:G o.h
 ·rw[if_pos q] at h;exact⟨q,h⟩
 ·rw[if_neg q] at h;exact h.elim
structure Sr where
 l:List W
 G:List Ob->Prop
structure Ll (K:Zf)(o0:Wo)(J:It)(s:Sr):Prop where
 stop: ∀o,Ex o0 o->Rel K o->s.G o.h->J.stop s.l.length o.H
 go: ∀o i w,Ex o0 o->Rel K o->s.G o.h->s.l[i]?=some w->J.go i o.H/\ ∀x H',J.yld i o.H x H'-> ∃p,p.H=H'/\p.h=o.h/\Ex o p/\Rel K p/\Rv K p w x
noncomputable def tI (c:Cg)(src:La->M Sr):TI:=λσ H R=>tG c (λp s J=>Ll c.K p J s) src σ H R
structure JI (X:Cx)(E:XK)(tg iter:Expr)(f:La->M Sr):Prop where
 h:PI X tg iter (tI (cg X E) f)
theorem PI.imp {tg iter:Expr}{t:TI}{f:La->M Sr}(h:PI X tg iter t)(k:∀σ H R,tI (cg X E) f σ H R->t σ H R):JI X E tg iter f:=⟨λpins s σ H R I q=>h pins s σ H R I (k σ H R q)⟩
noncomputable def PQ (w:W):M Sr:=match w with
 |.tl l=>pr ⟨l,λ_=>True⟩
 |.cl l=>pr ⟨l,λ_=>True⟩
 |.loc k=>λh=>match h[k]? with
  |some (.lst l)=>.ok ⟨l,λh=>h[k]?=some (.lst l)⟩ h
  |_=>.bad
 |_=>no
noncomputable def NB (f:La->M W)(g:W->M Sr):La->M Sr:=λρ=>bd (f ρ) g
theorem kA {K:Zf}(h:∀o,Ex o0 o->Rel K o->s.G o.h-> ∃vs,SqL K o.H a vs/\Rvs K o s.l vs):Ll K o0 (Itl K a) s:=by
 refine⟨λo X R g=>?_,λo i w X R g e=>?_⟩
 ·obtain⟨vs,s,r⟩:=h o X R g;exact⟨vs,s,G8 r.len⟩
 ·obtain⟨vs,s,r⟩:=h o X R g;obtain⟨v,hv,rv⟩:=r.get e;refine⟨⟨vs,v,s,hv⟩,λx H' y=>?_⟩;obtain⟨rfl,y⟩:=y;have:x=v:=by have:=y vs s;rw[hv] at this;exact (Option.some.inj this).symm
  subst this;exact⟨o,rfl,rfl,Ex.refl _,R,rv⟩
theorem zV {fl:La->M W}(hl:JE X E l fl):JI X E tg l (NB fl PQ):=(zt hl.h).imp λσ H Q h=>by
 ac_nf;cases x with
 |tl l=>
  have r1':=r1;unfold Rv at r1;obtain⟨a,vs,rfl,s,n,r⟩:=r1;refine⟨a,rfl,⟨vs,.of s⟩,h1.pr R1 (kA λo X R g=>?_)⟩;exact⟨vs,.of (X.fr a _ s n).1,r.mono R1 X⟩
 |cl l=>
  unfold Rv at r1;obtain⟨a,vs,rfl,s,r⟩:=r1;have sq: ∀o,Ex p o->SqL X.K o.H a vs:=λo X=>by
   rcases s with⟨s,n⟩|s
   ·exact .inl (X.rd s n).1
   ·exact .inr s
  exact⟨a,rfl,⟨vs,sq p (Ex.refl _)⟩,h1.pr R1 (kA λo X R g=>⟨vs,sq o X,r.mono R1 X⟩)⟩
 |loc k=>
  unfold Rv at r1;obtain⟨hk,rfl⟩:=r1;unfold PQ at h1;dsimp only at h1;split at h1
  ·rename_i l hl;obtain⟨vs,h3,h4⟩:=R1.ob k _ hl;refine⟨_,rfl,⟨vs,.of h3⟩,Ps.at (p:=p) h1 rfl (Ex.refl _) R1 (kA λo X R g=>?_)⟩;obtain⟨vs',h5,h6⟩:=R.ob k _ g;rw[X.mu k hk] at h5;exact⟨vs',.of h5,h6⟩
  ·exact h1.elim
 |_=>exact h1.elim
noncomputable def PR (w:W):M Sr:=match w with
 |.tup l=>pr ⟨l,λ_=>True⟩
 |_=>no
theorem Cw {fl:La->M W}(hl:JE X E l fl):JI X E tg l (NB fl PR):=(BJ hl.h).imp λσ H Q h=>by
 ac_nf;cases x with
 |tup l=>
  unfold Rv at r1;obtain⟨a,vs,rfl,s,r⟩:=r1;refine⟨a,rfl,⟨vs,s⟩,h1.pr R1 ⟨λo X R g=>⟨vs,X.rdT R1 s,G8 r.len⟩,λo i w X R g e=>?_⟩⟩;obtain⟨v,hv,rv⟩:=(r.mono R1 X).get e;have sq:=X.rdT R1 s;refine⟨⟨vs,v,sq,hv⟩,λx H' y=>?_⟩;obtain⟨rfl,y⟩:=y;have:x=v:=by have:=y vs sq;rw[hv] at this;exact (Option.some.inj this).symm
  subst this;exact⟨o,rfl,rfl,Ex.refl _,R,rv⟩
 |_=>exact h1.elim
noncomputable def Mw (lo:Int):Nat->List W
 |0=>[]
 |n+1=>.int lo::Mw (lo+1) n
theorem cB: ∀ (n:Nat) (lo:Int),(Mw lo n).length=n
 |0,_=>rfl
 |n+1,lo=>by rw[Mw,FH,cB n]
theorem cJ: ∀ (n:Nat) (lo:Int) (i:Nat) (w:W),(Mw lo n)[i]?=some w->w=.int (lo+i)/\i<n
 |0,_,_,_,h=>by simp [Mw] at h
 |n+1,lo,0,w,h=>by rw[Mw] at h;cases h;exact⟨⇑_,Nat.succ_pos _⟩
 |n+1,lo,i+1,w,h=>by
  rw[Mw,HF] at h;obtain⟨e,l⟩:=cJ n (lo+1) i w h;exact⟨by rw[e];congr 1;omega,∅⟩
theorem mE {K:Zf}{lo:Int}{n:Nat}:Ll K o0 (Itr lo n) ⟨Mw lo n,λ_=>True⟩:=by
 refine⟨λo X R g=>?_,λo i w X R g e=>?_⟩
 ·show n<=(Mw lo n).length;rw[cB];exact Fy _
 ·obtain⟨rfl,hi⟩:=cJ n lo i w e;refine⟨hi,λx H' y=>?_⟩;obtain⟨rfl,rfl⟩:=y;exact⟨o,rfl,rfl,Ex.refl _,R,OV.mpr rfl⟩
noncomputable def OO (l:List W):M Sr:=match l with
 |[.int j]=>gd (-(2 ^ 62)<=j/\j<2 ^ 62) (pr ⟨Mw 0 j.toNat,λ_=>True⟩)
 |_=>no
noncomputable def OP (l:List W):M Sr:=match l with
 |[.int i,.int j]=>gd (-(2 ^ 62)<=i/\i<2 ^ 62/\ -(2 ^ 62)<=j/\j<2 ^ 62) (pr ⟨Mw i (j - i).toNat,λ_=>True⟩)
 |_=>no
noncomputable def NC (f:La->M (List W))(g:List W->M Sr):La->M Sr:=λρ=>bd (f ρ) g
theorem uR {fl:La->M (List W)}(hg:Gl X "range")(hm:X.mg "range"=none)(ha:JA X E [a] fl)(hs:Kd [a] X.env=[(false,Ka a X.env)]):JI X E tg (.Call (.Name "range" p) [a] [] pos) (NC fl OO):=
 (uD hg hm ha.h hs).imp λσ H Q h=>by
 ac_nf;unfold OO at h1;split at h1
 ·obtain⟨hz,h1⟩:=h1.gd;unfold Rvs Rvs at r1;obtain⟨v,r,rfl,a1,rfl⟩:=r1;exact⟨_,by rw[OV.mp a1],hz.1,hz.2,h1.pr R1 mE⟩
 ·exact h1.elim
theorem uQ {fl:La->M (List W)}(hg:Gl X "range")(hm:X.mg "range"=none)(ha:JA X E [a,b] fl)(hs:Kd [a,b] X.env=[(false,Ka a X.env),(false,Ka b X.env)])(hs2:Kd [b] X.env=[(false,Ka b X.env)]):
  JI X E tg (.Call (.Name "range" p) [a,b] [] pos) (NC fl OP):=(uC hg hm ha.h hs hs2).imp λσ H Q h=>by
 ac_nf;unfold OP at h1;split at h1
 ·obtain⟨hz,h1⟩:=h1.gd;unfold Rvs Rvs Rvs at r1;obtain⟨v,r,rfl,a1,v',r',rfl,a2,rfl⟩:=r1;exact⟨_,_,by rw[OV.mp a1,OV.mp a2],hz,h1.pr R1 mE⟩
 ·exact h1.elim
noncomputable def Mh (G:List Ob->Prop)(t:W->La->Option La)(g:La->M Fl):List W->La->M Fl
 |[],ρ=>gdh G (pr (.nx ρ))
 |w::l,ρ=>gdh G (match t w ρ with
  |none=>no
  |some r=>bd (g r) λx=>match x with
   |.nx r'=>Mh G t g l r'
   |.ct r'=>Mh G t g l r'
   |.bk r'=>pr (.nx r')
   |.rt v=>pr (.rt v))
noncomputable def O4 (src:La->M Sr)(t:W->La->Option La)(g:La->M Fl):La->M Fl:=λρ=>bd (src ρ) λs=>Mh s.G t g s.l ρ
theorem Cp {tg iter:Expr}{body:List Ke}{src:La->M Sr}{t:W->La->Option La}{gT:TG}{g:La->M Fl}{m:Nat}(hp:Km (JP X.prog X.w) X.A X.env X.xe)(hc:X.calm=true)(hi:JI X E tg iter src)(hg:PG X tg gT)(ht:Ln X.K m gT t)(hb:JSs X E body g)
  (hs: ∀x,Ks iter X.env x=pure x:=by intro _;rfl):JS X E (.For tg iter body [] pos) (O4 src t g):=(BE hp hc hi.h hg hb.h hs).imp λD σ H h=>by
 obtain⟨o,ρ,rfl,R,S,h⟩:=h;refine⟨o,ρ,rfl,R,S,Ps.bd h λo1 s J e1 R1 sk h1=>?_⟩;refine⟨λi n σ H=>n=s.l.length - i/\i<=s.l.length/\ ∃o ρ,o.H=H/\Ex o1 o/\Rel X.K o/\Re X.K o ρ σ/\Ps (cg X E) (RFl X.K) o (Mh s.G t g (s.l.drop i) ρ o.h) (DQ D),⟨_,rfl,FY _,o1,ρ,rfl,Ex.refl _,R1,S.mono R e1,h1⟩,?_⟩
 rintro i n σ H ⟨rfl,hi,o,ρ,rfl,X1,R,S,h⟩
 by_cases hlt:i<s.l.length
 ·obtain⟨w,hw⟩: ∃w,s.l[i]?=some w:=⟨_,F4 hlt⟩
  have hd:s.l.drop i=w::s.l.drop (i+1):=by
   rw[Ha hlt];rw[F4 hlt] at hw;rw[Option.some.inj hw]
  rw[hd] at h;unfold Mh at h;obtain⟨hG,h⟩:=h.gdh;obtain⟨hgo,hy⟩:=sk.go o i w X1 R hG hw;refine .inr ⟨hgo,λσ' H'=> ∃o ρ,o.H=H'/\Ex o1 o/\Rel X.K o/\Re X.K o ρ σ'/\Ps (cg X E) (RFl X.K) o (Mh s.G t g (s.l.drop (i+1)) ρ o.h) (DQ D),λσ' H' q=>⟨_,∅,rfl,hlt,q⟩,λx H' y=>?_⟩;obtain⟨p,rfl,eh,X2,R2,rv⟩:=hy x H' y;cases et:t w ρ with
  |none=>rw[et] at h;exact h.elim
  |some r=>
   rw[et] at h;obtain⟨σ2,k1,k2,_,_⟩:=ht.ok p w x ρ r σ rv (S.mono R X2) et;refine k1 _ ?_
   have h2:Ps (cg X E) (RFl X.K) p (bd (g r) (λx=>match x with
    |.nx r'=>Mh s.G t g (s.l.drop (i+1)) r'
    |.ct r'=>Mh s.G t g (s.l.drop (i+1)) r'
    |.bk r'=>pr (.nx r')
    |.rt v=>pr (.rt v)) p.h) (DQ D):=by rw[eh];exact h.after X2
   refine⟨p,r,rfl,R2,k2,Ps.bd h2 λq x b e3 R3 r3 h3=>?_⟩;cases x with
   |nx r=>obtain⟨s',rfl,re⟩:=r3;exact⟨q,r,rfl,(X1.trans X2).trans e3,R3,re,h3⟩
   |ct r=>obtain⟨s',rfl,re⟩:=r3;exact⟨q,r,rfl,(X1.trans X2).trans e3,R3,re,h3⟩
   |bk r=>obtain⟨s',rfl,re⟩:=r3;exact h3.pr R3 (b:=.nx s') ⟨s',rfl,re⟩
   |rt w=>obtain⟨v,rfl,rv⟩:=r3;exact h3.pr R3 (b:=.rt v) ⟨v,rfl,rv⟩
 ·have e:i=s.l.length:=∅;subst e;rw[Ix] at h;unfold Mh at h;obtain⟨hG,h⟩:=h.gdh;exact .inl ⟨sk.stop o X1 R hG,Ps.pr (b:=FlV.nx σ) h R ⟨σ,rfl,S⟩⟩
end
end
section
section
variable {X:Cx}{E:XK}{pos:Kb}
noncomputable def LM (G:List Ob->Prop)(t:W->La->Option La)(f:La->M Bool)(e:La->M W)(n:Nat):List W->La->M (List W)
 |[],ρ=>gdh G (pr [])
 |w::l,ρ=>gdh G (match t w (List.replicate n none++ρ) with
  |none=>no
  |some r=>bd (f r) λb=>if b=true then bd (e r) λx=>bd (LM G t f e n l ρ) λm=>pr (x::m) else LM G t f e n l ρ)
noncomputable def No (hs:List Nat)(src:La->M Sr)(t:W->La->Option La)(f:La->M Bool)(e:La->M W)(n:Nat):La->M (List W):=λρ=>
 gd ((hs.all λi=>(ρ[i]?.join).isNone)=true) (bd (src ρ) λs=>gd (s.l.length<=sizeLine) (LM s.G t f e n s.l ρ))
variable {elt iter tg:Expr}{ifs:List Expr}{scope:J8}{ls:List Str}{gT:TG}{t:W->La->Option La}{f:La->M Bool}{e:La->M W}{src:La->M Sr}{hs:List Nat}{wh:Prop}
theorem yZ (ht:Ln X.K ls.length gT t)(h:tF (cg X E) (No hs src t f e ls.length) σ H Q):P2 X.N ls (tI (cg X E) src) gT (tT (cg X E) f) (tM (cg X E) e) σ H Q:=by
 obtain⟨o,ρ,rfl,R,S,h⟩:=h;unfold No at h;obtain⟨h0,h⟩:=h.gd;refine⟨rfl,o,ρ,rfl,R,S,Ps.bd h λo1 s J e1 R1 sk h1=>?_⟩;obtain⟨hz,h1⟩:=h1.gd;have S1:=S.mono R e1
 refine⟨λi n ys H=>n=s.l.length - i/\i<=s.l.length/\ ∃o acc,o.H=H/\Ex o1 o/\Rel X.K o/\Rvs X.K o acc ys/\acc.length<=i/\Ps (cg X E) (Rvs X.K) o (bd (LM s.G t f e ls.length (s.l.drop i) ρ) (λm=>pr (acc++m)) o.h) (λvs H1=> ∀q,H1 q=none->Q (.ref q) (upd H1 q (.lst vs))),
  ⟨_,rfl,FY _,o1,[],rfl,Ex.refl _,R1,Rvs.nil,Fy _,?_⟩,?_⟩
 ·have:bd (LM s.G t f e ls.length (s.l.drop 0) ρ) (λm=>pr ([]++m))=LM s.G t f e ls.length s.l ρ:=by
   funext h;rw[HG];unfold bd;cases LM s.G t f e ls.length s.l ρ h<;>rfl
  rw[this];exact h1
 rintro i n ys H ⟨rfl,hi,o,acc,rfl,X1,R,A,ha,h⟩
 have S2:=S1.mono R1 X1;have gs: ∀ {α β γ:Type}{r:Wo->β->γ->Prop}{m:M α}{k:α->M β}{Q':γ->Hp->Prop},Ps (cg X E) r o (bd (gdh s.G m) k o.h) Q'->s.G o.h/\Ps (cg X E) r o (bd m k o.h) Q':=λ{α β γ r m k Q'} q=>by
  have:bd (gdh s.G m) k o.h=gdh s.G (bd m k) o.h:=by
   unfold bd L2.gdh;by_cases z:s.G o.h
   ·simp only[if_pos z]
   ·simp only[if_neg z]
  rw[this] at q;exact q.gdh
 by_cases hlt:i<s.l.length
 ·obtain⟨w,hw⟩: ∃w,s.l[i]?=some w:=⟨_,F4 hlt⟩
  have hd:s.l.drop i=w::s.l.drop (i+1):=by
   rw[Ha hlt];rw[F4 hlt] at hw;rw[Option.some.inj hw]
  rw[hd] at h;unfold LM at h;obtain⟨hG,h⟩:=gs h;obtain⟨hgo,hy⟩:=sk.go o i w X1 R hG hw;refine .inr ⟨hgo,λys' H'=> ∃o acc,o.H=H'/\Ex o1 o/\Rel X.K o/\Rvs X.K o acc ys'/\acc.length<=i+1/\Ps (cg X E) (Rvs X.K) o (bd (LM s.G t f e ls.length (s.l.drop (i+1)) ρ) (λm=>pr (acc++m)) o.h) (λvs H1=> ∀q,H1 q=none->Q (.ref q) (upd H1 q (.lst vs))),λys' H' q=>⟨_,∅,rfl,hlt,q⟩,λx H' y=>?_⟩;obtain⟨p,rfl,eh,X2,R2,rv⟩:=hy x H' y;cases et:t w (List.replicate ls.length none++ρ) with
  |none=>rw[et] at h;exact h.elim
  |some r=>
   rw[et] at h;obtain⟨σ2,k1,k2,k3,k4⟩:=ht.ok p w x _ r (List.replicate ls.length none++σ) rv ((S2.mono R X2).front _) et;refine k1 _ ⟨?_,?_,?_⟩
   ·rw[k3,List.drop_left' (by rw[G1])]
   ·rw[k4,FE,G1]
   have h2:Ps (cg X E) (Rvs X.K) p (bd (f r) (λb=>bd (if b=true then bd (e r) λx=>bd (LM s.G t f e ls.length (s.l.drop (i+1)) ρ) λm=>pr (x::m) else LM s.G t f e ls.length (s.l.drop (i+1)) ρ) λm=>pr (acc++m)) p.h) (λvs H1=> ∀q,H1 q=none->Q (.ref q) (upd H1 q (.lst vs))):=by
    rw[eh];rw[aa] at h;exact h.after X2
   refine⟨p,r,rfl,R2,k2,Ps.bd h2 λq b vb e3 R3 r3 h3=>?_⟩;subst r3;have A3:=(A.mono R X2).mono R2 e3;cases b with
   |false=>
    exact MG ⟨q,acc,rfl,(X1.trans X2).trans e3,R3,A3,∅,h3⟩
   |true=>
    rw[if_pos rfl,aa] at h3;refine MH ⟨q,r,rfl,R3,k2.mono R2 e3,Ps.bd h3 λq2 x vx e4 R4 r4 h4=>⟨?_,q2,acc++[x],rfl,((X1.trans X2).trans e3).trans e4,R4,(A3.mono R3 e4).app (Rvs.cons r4 Rvs.nil),?_,?_⟩⟩
    ·rw[(A3.mono R3 e4).len];omega
    ·rw[FE,Gc];omega
    ·rw[aa] at h4;have ee:(λm=>bd (pr (x::m)) λm=>pr (acc++m))=(λm:List W=>(pr (acc++[x]++m):M (List W))):=by
      funext m h;show Rs.ok (acc++(x::m)) h=Rs.ok (acc++[x]++m) h;rw[Gb];rfl
     rw[ee] at h4;exact h4
 ·have ei:i=s.l.length:=∅;subst ei;rw[Ix] at h;unfold LM at h;obtain⟨hG,h⟩:=gs h;have h:Ps (cg X E) (Rvs X.K) o (pr (acc++[]) o.h) (λvs H1=> ∀q,H1 q=none->Q (.ref q) (upd H1 q (.lst vs))):=h;rw[Gd] at h;exact .inl ⟨sk.stop o X1 R hG,h.pr R A⟩
structure JQ (X:Cx)(E:XK)(ifs:List Expr)(f:La->M Bool):Prop where
 h:Lf X ifs (tT (cg X E) f)
noncomputable def NF:La->M Bool:=λ_=>pr true
theorem zU:JQ X E [] NF:=⟨λpins s σ H Q I h=>nY pins s σ H Q I (by
 obtain⟨o,ρ,rfl,R,S,h⟩:=h
 exact Ps.pr (b:=true) h R rfl)⟩
theorem zT (h:JT X E c f):JQ X E [c] f:=⟨zr h.h⟩
theorem bQ (hcalm:X.calm=true)(S:CScope X ls scope)(hi:JI X E tg iter src)(hg: ∀C s2 H2 fp,PG (cxC X ls scope C s2 H2 fp) tg gT)(ht:Ln X.K ls.length gT t)
  (hf: ∀C s2 H2 fp,JQ (cxC X ls scope C s2 H2 fp) E ifs f)(he: ∀C s2 H2 fp,JE (cxC X ls scope C s2 H2 fp) E elt e)(hh:wh)
  (hs': ∀x,Ks iter X.env x=pure x:=by intro _;rfl):JF X E (.ListComp elt [⟨tg,iter,ifs,0⟩] scope pos) (No hs src t f e ls.length):=
 (nZ hcalm S hi.h hg (λC s2 H2 fp=>(hf C s2 H2 fp).h) (λC s2 H2 fp=>(he C s2 H2 fp).h) hs').impF λσ H Q h=>yZ ht h
end
end
section
section
variable {X:Cx}{E:XK}{pos p:Kb}{a b:Expr}{l:La->M (List W)}
theorem Rvs.one {K:Zf}{w:W}(h:Rvs K o [w] vs): ∃v,vs=[v]/\Rv K o w v:=by
 unfold Rvs Rvs at h;obtain⟨v,r,rfl,h1,rfl⟩:=h;exact⟨v,rfl,h1⟩
theorem Rvs.two {K:Zf}{w x:W}(h:Rvs K o [w,x] vs): ∃v u,vs=[v,u]/\Rv K o w v/\Rv K o x u:=by
 unfold Rvs Rvs Rvs at h;obtain⟨v,r,rfl,h1,u,r2,rfl,h2,rfl⟩:=h;exact⟨v,u,rfl,h1,h2⟩
noncomputable def Na (ws:List W):M W:=match ws with
 |[.str z]=>gd (z.length<=sizeLine) (pr (.int z.length))
 |[.tup l]=>pr (.int l.length)
 |[w]=>bd (Nk w) λl=>pr (.int l.length)
 |_=>no
theorem Ds:K4 X E (λxs H Q=>(λxs H Q=> ∃z,xs=[.str z]/\z.length<=sizeLine/\Q (.int z.length) H) xs H Q\/(λxs H Q=> ∃p ys,xs=[.ref p]/\(SqL X.K H p ys\/SqT X.K H p ys)/\Q (.int ys.length) H) xs H Q) Na:=by
 intro o ws vs Q R rv h;unfold Na at h;split at h
 ·obtain⟨v,rfl,r⟩:=rv.one;obtain⟨hz,h⟩:=h.gd;exact .inl ⟨_,by rw[OY.mp r],hz,h.pr R (OV.mpr rfl)⟩
 ·obtain⟨v,rfl,r⟩:=rv.one;unfold Rv at r;obtain⟨a,us,rfl,s,r⟩:=r;exact .inr ⟨a,us,rfl,.inr s,by rw[r.len];exact h.pr R (OV.mpr rfl)⟩
 ·obtain⟨v,rfl,r⟩:=rv.one;obtain⟨l,a,us,rfl,s,r,h⟩:=ck R r h;exact .inr ⟨a,us,rfl,.inl s,by rw[r.len];exact h.pr R (OV.mpr rfl)⟩
 ·exact h.elim
theorem CU (hm:X.mg "len"=none)(ha:JA X E [a] l)(hg:Gl X "len")(he:Kd [a] X.env=(false,Ka a X.env)::Kd [] X.env)(hpl:(Kc pos (Kd [] X.env)).any (·.1)=false):JE X E (.Call (.Name "len" p) [a] [] pos) (Nn Na l):=
 cI (LF.or oP) Ds hg hm PySem.boot_len ha (he:=he) (hpl:=hpl)
noncomputable def Mu (ws:List W):M W:=match ws with
 |[.int i]=>pr (.int i)
 |[.bl k]=>pr (.int (if k then 1 else 0))
 |[.str z]=>match PySem.intText? z with
  |some n=>gd (z.length<=640) (pr (.int n))
  |none=>no
 |_=>no
theorem Dt:K4 X E (λxs H Q=>((∃i,xs=[.int i]/\Q (.int i) H)\/ ∃k,xs=[.bl k]/\Q (.int (if k then 1 else 0)) H)\/(λxs H Q=> ∃ (z:Str) (n:Int),xs=[.str z]/\PySem.intText? z=some n/\z.length<=640/\Q (.int n) H) xs H Q) Mu:=by
 intro o ws vs Q R rv h;unfold Mu at h;split at h
 ·obtain⟨v,rfl,r⟩:=rv.one;exact .inl (.inl ⟨_,by rw[OV.mp r],h.pr R (OV.mpr rfl)⟩)
 ·obtain⟨v,rfl,r⟩:=rv.one;exact .inl (.inr ⟨_,by rw[OU.mp r],h.pr R (OV.mpr rfl)⟩)
 ·obtain⟨v,rfl,r⟩:=rv.one;rename_i z;cases hn:PySem.intText? z with
  |some n=>
   rw[hn] at h;obtain⟨hz,h⟩:=h.gd;exact .inr ⟨_,n,by rw[OY.mp r],hn,hz,h.pr R (OV.mpr rfl)⟩
  |none=>rw[hn] at h;exact h.elim
 ·exact h.elim
theorem Ad (hm:X.mg "int"=none)(ha:JA X E [a] l)(hg:Gl X "int")(he:Kd [a] X.env=(false,Ka a X.env)::Kd [] X.env)(hpl:(Kc pos (Kd [] X.env)).any (·.1)=false):JE X E (.Call (.Name "int" p) [a] [] pos) (Nn Mu l):=
 jG (LD.or jv) Dt hg hm PyProof.Rows.boot_int ha (he:=he) (hpl:=hpl)
noncomputable def PZ (ws:List W):M W:=match ws with
 |[.int i]=>gd (i.natAbs.log2<1920) (pr (.str (toString i)))
 |[.str z]=>pr (.str z)
 |_=>no
theorem Do:K4 X E (λxs H Q=>(λxs H Q=> ∃i,xs=[.int i]/\i.natAbs.log2<1920/\Q (.str (toString i)) H) xs H Q\/(λxs H Q=> ∃ (z:Str),xs=[.str z]/\Q (.str z) H) xs H Q) PZ:=by
 intro o ws vs Q R rv h;unfold PZ at h;split at h
 ·obtain⟨v,rfl,r⟩:=rv.one;obtain⟨hz,h⟩:=h.gd;exact .inl ⟨_,by rw[OV.mp r],hz,h.pr R (OY.mpr rfl)⟩
 ·obtain⟨v,rfl,r⟩:=rv.one;exact .inr ⟨_,by rw[OY.mp r],h.pr R (OY.mpr rfl)⟩
 ·exact h.elim
theorem zY (hm:X.mg "str"=none)(ha:JA X E [a] l)(hg:Gl X "str")(he:Kd [a] X.env=(false,Ka a X.env)::Kd [] X.env)(hpl:(Kc pos (Kd [] X.env)).any (·.1)=false):JE X E (.Call (.Name "str" p) [a] [] pos) (Nn PZ l):=
 jG (LG.or oM) Do hg hm PyProof.Rows.boot_str ha (he:=he) (hpl:=hpl)
noncomputable def Lp (ws:List W):M W:=match ws with
 |[.int i]=>pr (.int (if i<0 then -i else i))
 |_=>no
theorem C4 (hm:X.mg "abs"=none)(ha:JA X E [a] l)(hg:Gl X "abs")(he:Kd [a] X.env=(false,Ka a X.env)::Kd [] X.env)(hpl:(Kc pos (Kd [] X.env)).any (·.1)=false):JE X E (.Call (.Name "abs" p) [a] [] pos) (Nn Lp l):=
 cI yF (λo ws vs Q R rv h=>by
  unfold Lp at h;split at h
  ·obtain⟨v,rfl,r⟩:=rv.one;exact⟨_,by rw[OV.mp r],h.pr R (OV.mpr rfl)⟩
  ·exact h.elim) hg hm PyProof.Rows.boot_abs ha (he:=he) (hpl:=hpl)
noncomputable def iOf:W->Option Int
 |.int i=>some i
 |_=>none
noncomputable def bOf:W->Option Bool
 |.bl i=>some i
 |_=>none
noncomputable def sOf:W->Option Str
 |.str i=>some i
 |_=>none
theorem cY {K:Zf}{α:Type}{f:W->Option α}{g:α->V}(hf: ∀w a v,f w=some a->Rv K o w v->v=g a): ∀ {l:List W}{xs:List α}{vs:List V},Om f l=some xs->Rvs K o l vs->vs=xs.map g
 |[],xs,vs,e,h=>by unfold Rvs at h;cases e;exact h
 |w::l,xs,vs,e,h=>by
  unfold Rvs at h;obtain⟨v,r,rfl,h1,h2⟩:=h;unfold Om at e;split at e
  ·rename_i d ds e1 e2;cases e;rw[hf w d v e1 h1,cY hf e2 h2];rfl
  ·cases e
theorem jM {K:Zf}: ∀ (w:W) (a:Int) (v:V),iOf w=some a->Rv K o w v->v=.int a:=λw a v e h=>by
 cases w<;>first|(cases e;exact OV.mp h)|cases e
theorem yM {K:Zf}: ∀ (w:W) (a:Bool) (v:V),bOf w=some a->Rv K o w v->v=.bl a:=λw a v e h=>by
 cases w<;>first|(cases e;exact OU.mp h)|cases e
theorem wf {K:Zf}: ∀ (w:W) (a:Str) (v:V),sOf w=some a->Rv K o w v->v=.str a:=λw a v e h=>by
 cases w<;>first|(cases e;exact OY.mp h)|cases e
noncomputable def P1 (ws:List W):M W:=match ws with
 |[w]=>bd (Nk w) λl=>match Om iOf l with
  |some ns=>pr (.int ns.sum)
  |none=>no
 |_=>no
theorem CC (hc:X.calm=true)(hm:X.mg "sum"=none)(ha:JA X E [a] l)(hg:Gl X "sum")(he:Kd [a] X.env=(false,Ka a X.env)::Kd [] X.env)(hpl:(Kc pos (Kd [] X.env)).any (·.1)=false):JE X E (.Call (.Name "sum" p) [a] [] pos) (Nn P1 l):=
 cI (yD hc) (λo ws vs Q R rv h=>by
  unfold P1 at h;split at h
  ·obtain⟨v,rfl,r⟩:=rv.one;obtain⟨l,a,us,rfl,s,r,h⟩:=ck R r h;cases e:Om iOf l with
   |none=>rw[e] at h;exact h.elim
   |some ns=>
    rw[e] at h;rw[cY jM e r] at s;exact⟨a,ns,rfl,s,h.pr R (OV.mpr rfl)⟩
  ·exact h.elim) hg hm PyProof.Rows.boot_sum ha (he:=he) (hpl:=hpl)
noncomputable def Ls (ws:List W):M W:=match ws with
 |[w]=>bd (Nk w) λl=>match Om bOf l with
  |some ns=>pr (.bl (ns.all id))
  |none=>no
 |_=>no
theorem C2 (hc:X.calm=true)(hm:X.mg "all"=none)(ha:JA X E [a] l)(hg:Gl X "all")(he:Kd [a] X.env=(false,Ka a X.env)::Kd [] X.env)(hpl:(Kc pos (Kd [] X.env)).any (·.1)=false):JE X E (.Call (.Name "all" p) [a] [] pos) (Nn Ls l):=
 cI (lT hc) (λo ws vs Q R rv h=>by
  unfold Ls at h;split at h
  ·obtain⟨v,rfl,r⟩:=rv.one;obtain⟨l,a,us,rfl,s,r,h⟩:=ck R r h;cases e:Om bOf l with
   |none=>rw[e] at h;exact h.elim
   |some ns=>
    rw[e] at h;rw[cY yM e r] at s;exact⟨a,ns,rfl,s,h.pr R (OU.mpr rfl)⟩
  ·exact h.elim) hg hm PyProof.Rows.boot_all ha (he:=he) (hpl:=hpl)
noncomputable def fU (ws:List W):M W:=match ws with
 |[.tup l]=>pr (.tup l)
 |[w]=>bd (Nk w) λl=>pr (.tup l)
 |_=>no
theorem xy (hm:X.mg "tuple"=none)(ha:JA X E [a] l)(hg:Gl X "tuple")(he:Kd [a] X.env=(false,Ka a X.env)::Kd [] X.env)(hpl:(Kc pos (Kd [] X.env)).any (·.1)=false):JE X E (.Call (.Name "tuple" p) [a] [] pos) (Nn fU l):=
 jG mj (λo ws vs Q R rv h=>by
  unfold fU at h;split at h
  ·obtain⟨v,rfl,r⟩:=rv.one;have r0:=r;unfold Rv at r;obtain⟨a,us,rfl,s,r⟩:=r;exact⟨a,us,rfl,.inr ⟨s,h.pr R r0⟩⟩
  ·obtain⟨v,rfl,r⟩:=rv.one;obtain⟨l,a,us,rfl,s,r,h⟩:=ck R r h;exact⟨a,us,rfl,.inl ⟨s,λq hq=>i9 R hq r h⟩⟩
  ·exact h.elim) hg hm PyProof.Rows.boot_tuple ha (he:=he) (hpl:=hpl)
noncomputable def Nb (l:La->M (List W)):La->M (List W):=λρ=>bd (l ρ) λws=>match ws with
 |[.tup l]=>pr l
 |[w]=>Nk w
 |_=>no
theorem xI {w:W}{Q:List V->Hp->Prop}(R:Rel X.K o)(hr:Rv X.K o w v)(h:Ps (cg X E) (Rvs X.K) o (Nk w o.h) Q): ∃l a vs,v=.ref a/\SqL X.K o.H a vs/\Rvs X.K o l vs/\Q vs o.H:=by
 have e:Nk w=bd (Nk w) λl=>pr l:=by
  funext h;unfold bd;cases Nk w h<;>rfl
 rw[e] at h;obtain⟨l,a,vs,e1,e2,e3,h⟩:=ck R hr h;exact⟨l,a,vs,e1,e2,e3,h.pr R e3⟩
theorem zX (hm:X.mg "list"=none)(ha:JA X E [a] l)(hg:Gl X "list")(he:Kd [a] X.env=(false,Ka a X.env)::Kd [] X.env)(hpl:(Kc pos (Kd [] X.env)).any (·.1)=false):JF X E (.Call (.Name "list" p) [a] [] pos) (Nb l):=
 (jF oO hg hm PyProof.Rows.boot_list ha.h (he:=he) (hpl:=hpl)).impF λσ H Q h=>by
  obtain⟨o,ρ,rfl,R,S,h⟩:=h;refine⟨o,ρ,rfl,R,S,Ps.bd h λp x vx e1 R1 r1 h1=>?_⟩;split at h1
  ·obtain⟨v,rfl,r⟩:=r1.one;unfold Rv at r;obtain⟨a,us,rfl,s,r⟩:=r;exact⟨a,us,rfl,.inr s,h1.pr R1 r⟩
  ·obtain⟨v,rfl,r⟩:=r1.one;obtain⟨l,a,us,rfl,s,r,q⟩:=xI R1 r h1;exact⟨a,us,rfl,.inl s,q⟩
  ·exact h1.elim
noncomputable def isS (w:W):M W:=match w with
 |.str z=>pr (.str z)
 |_=>no
noncomputable def MP (x:W)(ws:List W):M W:=match x,ws with
 |.str sep,[w]=>bd (Nj w) λl=>match Om sOf l with
  |some ts=>gd ((ts.map (·.length)).sum+ts.length * sep.length<=sizeLine) (pr (.str (Str.join sep ts)))
  |none=>no
 |_,_=>no
noncomputable def Nu (chk:W->M W)(f:W->List W->M W)(fo:La->M W)(l:La->M (List W)):La->M W:=λρ=>bd (fo ρ) λx=>bd (chk x) λx=>bd (l ρ) λws=>f x ws
variable {o e:Expr}{apos cpos:Kb}{fo:La->M W}
theorem Ac (ho:JE X E o fo)(ha:JA X E [e] l)(hbase:Kv o "join" X.env (Ka o X.env)=Ka o X.env)
  (hfew:((Kc cpos (Kd [e] X.env)).all (λx=>!x.1) && (Kw cpos (Kx [] X.env)).all (λx=>x.1.isSome) && decide (([e]:List Expr).length+([]:List KB).length+(if ([]:List KB).isEmpty then 0 else 1)<30))=true)
  (hline:(apos.endLine==cpos.line)=true)(hs:Kd [e] X.env=(false,Ka e X.env)::Kd [] X.env)(hplain:(Kc cpos (Kd [] X.env)).any (·.1)=false):
  JE X E (.Call (.Attribute o "join" apos) [e] [] cpos) (Nu isS MP fo l):=
 (sV PySem.F.plainAttrs_str PySem.F.slot_str_join PySem.F.type_str_join zN ho.h ha.h hbase hfew hline hs hplain).imp λσ H Q h=>by
  obtain⟨w,ρ,rfl,R,S,h⟩:=h;refine⟨w,ρ,rfl,R,S,Ps.bd h λp x vx e1 R1 r1 h1=>?_⟩;cases x with
  |str sep=>
   have h1:Ps (cg X E) (Rv X.K) p (bd (l ρ) (λws=>MP (.str sep) ws) p.h) Q:=h1;rw[OY.mp r1];refine⟨rfl,p,ρ,rfl,R1,S.mono R e1,Ps.bd h1 λq ws vs e2 R2 r2 h2=>?_⟩;rcases ws with _|⟨w',_|⟨_,_⟩⟩
   ·exact h2.elim
   ·have h2:Ps (cg X E) (Rv X.K) q (bd (Nj w') (λl=>match Om sOf l with
     |some ts=>gd ((ts.map (·.length)).sum+ts.length * sep.length<=sizeLine) (pr (.str (Str.join sep ts)))
     |none=>no) q.h) Q:=h2
    obtain⟨v,rfl,r⟩:=r2.one;obtain⟨l',a,us,rfl,s,r,h2⟩:=eA R2 r h2;cases e:Om sOf l' with
    |none=>rw[e] at h2;exact h2.elim
    |some ts=>
     rw[e] at h2;rw[cY wf e r] at s;obtain⟨hz,h2⟩:=h2.gd;exact⟨sep,a,ts,rfl,rfl,.of s,hz,h2.pr R2 (OY.mpr rfl)⟩
   ·exact h2.elim
  |_=>exact h1.elim
noncomputable def isL (w:W):M W:=match w with
 |.loc k=>λh=>match h[k]? with
  |some (.lst _)=>.ok (.loc k) h
  |_=>.bad
 |_=>no
theorem Dg {α β:Type}{r:Wo->α->β->Prop}{o:Wo}{w:W}{v:V}{k:W->M α}{Q:β->Hp->Prop}(R:Rel X.K o)(hr:Rv X.K o w v)(h:Ps (cg X E) r o (bd (isL w) k o.h) Q):
  ∃j l vs,w=.loc j/\o.h[j]?=some (.lst l)/\v=.ref (o.mu j)/\j<o.h.length/\o.H (o.mu j)=some (.lst vs)/\Rvs X.K o l vs/\Ps (cg X E) r o (k (.loc j) o.h) Q:=by
 cases w with
 |loc j=>
  unfold Rv at hr;unfold isL bd at h;cases e:o.h[j]? with
  |none=>simp only[e] at h;exact h.elim
  |some b=>
   cases b with
   |lst l=>
    simp only[e] at h;obtain⟨vs,h1,h2⟩:=R.ob j _ e;exact⟨j,l,vs,rfl,e,hr.2,hr.1,h1,h2,h⟩
   |_=>simp only[e] at h;exact h.elim
 |_=>exact h.elim
noncomputable def aV (x:W)(ws:List W):M W:=match x,ws with
 |.loc k,[w]=>λh=>match h[k]? with
  |some (.lst l)=>if l.length<sizeLine then .ok .non (h.set k (.lst (l++[w]))) else .bad
  |_=>.bad
 |_,_=>no
theorem uT (ho:JE X E o fo)(ha:JA X E [e] l)(hbase:Kv o "append" X.env (Ka o X.env)=Ka o X.env)
  (hfew:((Kc cpos (Kd [e] X.env)).all (λx=>!x.1) && (Kw cpos (Kx [] X.env)).all (λx=>x.1.isSome) && decide (([e]:List Expr).length+([]:List KB).length+(if ([]:List KB).isEmpty then 0 else 1)<30))=true)
  (hline:(apos.endLine==cpos.line)=true)(hs:Kd [e] X.env=(false,Ka e X.env)::Kd [] X.env)(hplain:(Kc cpos (Kd [] X.env)).any (·.1)=false):
  JE X E (.Call (.Attribute o "append" apos) [e] [] cpos) (Nu isL aV fo l):=
 (sV PySem.F.plainAttrs_list PySem.F.slot_list_append PySem.F.type_list_append uO ho.h ha.h hbase hfew hline hs hplain).imp λσ H Q h=>by
  obtain⟨w,ρ,rfl,R,S,h⟩:=h;refine⟨w,ρ,rfl,R,S,Ps.bd h λp x vx e1 R1 r1 h1=>?_⟩;obtain⟨j,l0,vs0,rfl,hj,rfl,hlt,hH,hl0,h1⟩:=Dg R1 r1 h1;refine⟨.inl ⟨rfl,vs0,.of hH⟩,p,ρ,rfl,R1,S.mono R e1,Ps.bd h1 λq ws vs e2 R2 r2 h2=>?_⟩;rcases ws with _|⟨w',_|⟨_,_⟩⟩
  ·exact h2.elim
  ·unfold aV at h2;cases e:q.h[j]? with
   |none=>simp only[e] at h2;exact h2.elim
   |some b=>
    cases b with
    |lst l'=>
     simp only[e] at h2;obtain⟨v,rfl,r⟩:=r2.one;obtain⟨us,k1,k2⟩:=R2.ob j _ e;by_cases z:l'.length<sizeLine
     ·rw[if_pos z] at h2;rw[e2.mu j hlt] at k1;refine⟨p.mu j,us,v,rfl,rfl,k1,by rw[k2.len];exact z,?_⟩;have:=Ps.at (p:=q.put j (.lst (l'++[w'])) (.lst (us++[v]))) (b:=V.non) h2 rfl (Ex.put e ⇑_) (R2.putL e ⇑_ (k2.app (Rvs.cons r Rvs.nil))) (OX.mpr rfl);have em:q.mu j=p.mu j:=e2.mu j hlt;have ew:(q.put j (.lst (l'++[w'])) (.lst (us++[v]))).H=upd q.H (p.mu j) (.lst (us++[v])):=by
       show upd q.H (q.mu j) _=_;rw[em]
      rw[ew] at this;exact this
     ·rw[if_neg z] at h2;exact h2.elim
    |_=>simp only[e] at h2;exact h2.elim
  ·exact h2.elim
noncomputable def Mr (w:W):M W:=match w with
 |.loc k=>λh=>match h[k]? with
  |some (.lst l)=>.ok (.tl l) (h.set k .gone)
  |some (.dic ks ws)=>.ok (.dv ks ws) (h.set k .gone)
  |some (.din b ks ws)=>.ok (.dn b ks ws) (h.set k .gone)
  |_=>.bad
 |w=>pr w
theorem Bj {f:La->M W}(h:tM (cg X E) (m1 Mr f) σ H Q):tM (cg X E) f σ H Q:=by
 ac_nf;cases x with
 |loc k=>
  unfold Rv at r1;obtain⟨_,rfl⟩:=r1;unfold Mr at h1;dsimp only at h1;split at h1
  ·rename_i l hl;exact Ps.at (p:=p.ice k) h1 rfl Ex.ice R1.ice (Rv.iceL R1 hl)
  ·rename_i ks ws hl;exact Ps.at (p:=p.ice k) h1 rfl Ex.ice R1.ice (Rv.iceD R1 hl)
  ·rename_i b ks ws hl;exact Ps.at (p:=p.ice k) h1 rfl Ex.ice R1.ice (Rv.iceN R1 hl)
  ·exact h1.elim
 |_=>exact Ps.pr (c:=cg X E) h1 R1 r1
theorem rE {f:La->M W}(h:JE X E e f):JE X E e (m1 Mr f):=h.h.imp λ_ _ _ q=>Bj q
noncomputable def NG {κ:Type} [DecidableEq κ]:List κ->List W->κ->W->List W
 |k::ks,w::ws,x,y=>(if k=x then y else w)::NG ks ws x y
 |_,_,_,_=>[]
noncomputable def OI {κ:Type} [DecidableEq κ] (ks:List κ)(ws:List W)(x:κ)(y:W):List κ×List W:=if (ks.any λk=>decide (k=x))=true then (ks,NG ks ws x y) else (ks++[x],ws++[y])
noncomputable def nF (x i v:W):M Unit:=match x with
 |.loc k=>λh=>match h[k]? with
  |some (.lst l)=>match i with
   |.int n=>match ixN l.length n with
    |some j=>.ok () (h.set k (.lst (l.set j v)))
    |none=>.bad
   |_=>.bad
  |some (.dic ks ws)=>match MY i with
   |some q=>if ks.length<sizeLine then .ok () (h.set k (.dic (OI ks ws q v).1 (OI ks ws q v).2)) else .bad
   |none=>.bad
  |some (.dit ks ws)=>match i with
   |.kt q=>if ks.length<sizeLine then .ok () (h.set k (.dit (OI ks ws q v).1 (OI ks ws q v).2)) else .bad
   |_=>.bad
  |_=>.bad
 |_=>no
noncomputable def rSetD:Lm:=λo i v H Q=> ∃a H',o=.ref a/\DPut H a i v H'/\Q H'
theorem wb (hu:X.A.units+1<JM):PSet X rSetD:=by
 intro pins s σ H o i v ov iv u Q I ro ri rv h;obtain⟨a,H',rfl,g,q⟩:=h;cases ro;exact vj hu I g ri rv λs4 I4=>⟨H',I4,q⟩
theorem PSet.or (h:PSet X t)(h':PSet X t'):PSet X (λo i v H Q=>t o i v H Q\/t' o i v H Q):=by
 intro pins s σ H o i v ov iv u Q I ro ri rv q;rcases q with q|q
 ·exact h pins s σ H o i v ov iv u Q I ro ri rv q
 ·exact h' pins s σ H o i v ov iv u Q I ro ri rv q
theorem pP {κ:Type} [DecidableEq κ] {K:Zf}{o:Wo}{x:κ}{y:W}{v:V}(hy:Rv K o y v): ∀ {ks:List κ}{ws:List W}{kvs:List (κ×V)},kvs.map (·.1)=ks->Rvs K o ws (kvs.map (·.2))->Rvs K o (NG ks ws x y) ((kvs.map λkv=>if kv.1=x then (kv.1,v) else kv).map (·.2))
 |_,ws,[],e,h=>by subst e;unfold NG;exact Rvs.nil
 |_,ws,(k,u)::r,e,h=>by
  subst e;cases ws with
  |nil=>unfold Rvs at h;cases h
  |cons w ws=>
   unfold Rvs at h;obtain⟨u',r',e',h1,h2⟩:=h;cases e';have ih:=pP (x:=x) hy (ks:=r.map (·.1)) (ws:=ws) (kvs:=r) rfl h2;show Rvs K o ((if k=x then y else w)::NG (r.map (·.1)) ws x y) ((if k=x then (k,v) else (k,u)).2::_);by_cases z:k=x
   ·rw[if_pos z,if_pos z];exact Rvs.cons hy ih
   ·rw[if_neg z,if_neg z];exact Rvs.cons h1 ih
theorem nU {κ:Type} [DecidableEq κ] {K:Zf}{o:Wo}{x:κ}{y:W}{v:V}{ks:List κ}{ws:List W}{kvs:List (κ×V)}(hy:Rv K o y v)(hk:kvs.map (·.1)=ks)(h:Rvs K o ws (kvs.map (·.2))):
  (OG kvs x v).map (·.1)=(OI ks ws x y).1/\Rvs K o (OI ks ws x y).2 ((OG kvs x v).map (·.2)):=by
 subst hk;have ea:((kvs.map (·.1)).any λk=>decide (k=x))=(kvs.any λkv=>decide (kv.1=x)):=by rw[HH];rfl
 unfold OG OI;rw[ea];by_cases z:(kvs.any λkv=>decide (kv.1=x))=true
 ·rw[if_pos z,if_pos z];refine⟨?_,pP hy rfl h⟩;rw[Gg];refine GV λkv _=>?_;show (if kv.1=x then (kv.1,v) else kv).1=kv.1;split<;>rfl
 ·rw[if_neg z,if_neg z];refine⟨⇑_,?_⟩;show Rvs K o (ws++[y]) ((kvs++[(x,v)]).map (·.2));rw[Fz];exact h.app (Rvs.cons hy Rvs.nil)
noncomputable def aM (fo fi fv:La->M W):La->M Fl:=λρ=>bd (fv ρ) λv=>bd (fo ρ) λx=>bd (fi ρ) λi=>bd (nF x i v) λ_=>pr (.nx ρ)
variable {i value:Expr}{tpos:Kb}{fi fv:La->M W}
theorem xv (hu:X.A.units+1<JM)(ho:JE X E o fo)(hi:JE X E i fi)(hv:JE X E value fv)
  (ha: ∀v,assign (.Subscript o i tpos) X.env v=(do
   let ov<-Kj [v] (Ka o X.env);let iv<-Kj [v,ov] (Ka i X.env)
   Ki tpos
   Kj [v,ov,iv] (setItem ov iv v)
   release [v,ov,iv] []))
  (hs:swapsWithSole [.Subscript o i tpos] value pos.line X.env=pure false)(hw:swappedStores [.Subscript o i tpos] value X.env=pure none)
  (h1:(Kl [.Subscript o i tpos] X.env).map (·.2)=[assign (.Subscript o i tpos) X.env]):JS X E (.Assign [.Subscript o i tpos] value pos) (aM fo fi fv):=
 (qZ hv.h (wH ho.h hi.h (Pq.or (wb hu)) ha) hs hw h1).imp λD σ H h=>by
  obtain⟨w,ρ,rfl,R,S,h⟩:=h;refine⟨w,ρ,rfl,R,S,Ps.bd h λp v vv e1 R1 r1 h1=>⟨p,ρ,rfl,R1,S.mono R e1,Ps.bd h1 λq x vx e2 R2 r2 h2=>⟨q,ρ,rfl,R2,(S.mono R e1).mono R1 e2,Ps.bd h2 λs i vi e3 R3 r3 h3=>?_⟩⟩⟩;have S3:=((S.mono R e1).mono R1 e2).mono R2 e3;have rv:=(r1.mono R1 e2).mono R2 e3;have rx:=r2.mono R2 e3;cases x with
  |loc k=>
   unfold Rv at rx;obtain⟨hk,rfl⟩:=rx;unfold nF bd at h3;cases e:s.h[k]? with
   |none=>simp only[e] at h3;exact h3.elim
   |some b=>
    cases b with
    |ins c ns ws=>simp only[e] at h3;exact h3.elim
    |din b ks ws=>simp only[e] at h3;exact h3.elim
    |gone=>simp only[e] at h3;exact h3.elim
    |lst l=>
     simp only[e] at h3;cases i with
     |int n=>
      simp only at h3;cases ej:ixN l.length n with
      |none=>simp only[ej] at h3;exact h3.elim
      |some j=>
       simp only[ej] at h3;obtain⟨us,k1,k2⟩:=R3.ob k _ e;refine .inl ⟨_,us,n,j,rfl,OV.mp r3,k1,by rw[k2.len];exact ej,?_⟩;exact Ps.at (p:=s.put k (.lst (l.set j v)) (.lst (us.set j vv))) (b:=FlV.nx σ) h3 rfl (Ex.put e ⇑_) (R3.putL e ⇑_ (k2.set rv j)) ⟨σ,rfl,S3.mono R3 (Ex.put e ⇑_)⟩
     |_=>exact h3.elim
    |dit ks ws=>
     simp only[e] at h3;cases i with
     |kt x=>
      simp only at h3;by_cases z:ks.length<sizeLine
      ·simp only[if_pos z] at h3;obtain⟨kvs,k1,k2,k3⟩:=R3.ob k _ e;unfold Rv at r3;obtain⟨b,rfl,hb⟩:=r3;obtain⟨b1,b2⟩:=nU (x:=x) rv k2 k3;refine .inr ⟨_,_,rfl,.inr ⟨kvs,x,b,k1,rfl,hb,by rw[<-k2,Fx] at z;exact z,rfl⟩,?_⟩;exact Ps.at (p:=s.put k (.dit (OI ks ws x v).1 (OI ks ws x v).2) (.dT (OG kvs x vv))) (b:=FlV.nx σ) h3 rfl (Ex.put e ⇑_) (R3.putT e ⇑_ b1 b2) ⟨σ,rfl,S3.mono R3 (Ex.put e ⇑_)⟩
      ·simp only[if_neg z] at h3;exact h3.elim
     |_=>exact h3.elim
    |dic ks ws=>
     simp only[e] at h3;cases ej:MY i with
     |none=>simp only[ej] at h3;exact h3.elim
     |some x=>
      simp only[ej] at h3;by_cases z:ks.length<sizeLine
      ·simp only[if_pos z] at h3;obtain⟨kvs,k1,k2,k3⟩:=R3.ob k _ e;rw[jm ej r3];obtain⟨b1,b2⟩:=nU (x:=x) rv k2 k3;refine .inr ⟨_,_,rfl,.inl ⟨kvs,x,k1,rfl,by rw[<-k2,Fx] at z;exact z,rfl⟩,?_⟩;exact Ps.at (p:=s.put k (.dic (OI ks ws x v).1 (OI ks ws x v).2) (.dK (OG kvs x vv))) (b:=FlV.nx σ) h3 rfl (Ex.put e ⇑_) (R3.putD e ⇑_ b1 b2) ⟨σ,rfl,S3.mono R3 (Ex.put e ⇑_)⟩
      ·simp only[if_neg z] at h3;exact h3.elim
  |_=>exact h3.elim
end
end
section
noncomputable def OS (n:Nat)(g:La->M Fl)(ws:List W):M W:=bd (g (ws.map some++List.replicate (n - ws.length) none)) λx=>match x with
 |.rt w=>pr w
 |.nx _=>pr .non
 |_=>no
section
variable {P:JB}{w:JC}{K:Zf}{mg:Str->Option Jx}{base:JD}{x qual:Str}{st:Ke}{f:JG}{fd:Ky}{N ps:List Str}{k:Nat}{g:La->M Fl}
noncomputable def PJ (K:Zf)(mg:Str->Option Jx)(n:Nat)(f:List W->M W):Sp:=λvs H Q _=> ∃o ws,o.H=H/\ws.length=n/\Rel K o/\Rvs K o ws vs/\Ps ⟨K,mg,E0⟩ (Rv K) o (f ws o.h) Q
theorem A6 {n m:Nat}{fn:List W->M W}(F:Fun K x qual st f fd)(S:Lb N ps (ac st))(hn:N.length=n)(hm:ps.length=m)(hf:fn=OS n g)
  (hb: ∀ (cdv:Jx) (A:JL) (outer:List Env) (s:JJ) (H:Hp) (E:XK),Room k (A.deeper (KD qual (ac st) ↥s f cdv))->JSs (LQ CX0 P w K mg base N qual (ac st) f cdv A outer s H E).nox E0 (bE st) g):
  FnOk P w K mg base CX0 (k+1) f fd ps (PJ K mg m fn):=by
 subst hn hm hf;refine F.ok S (λvs H Q E h=>?_) (λcdv A outer s H vs Q E hr h=>?_)
 ·obtain⟨o,ws,_,hl,_,rv,_⟩:=h;rw[rv.len,hl]
 ·obtain⟨o,ws,rfl,hl,R,rv,h⟩:=h;refine⟨_,(hb cdv A outer s o.H E hr).h,?_⟩;have e:PV N vs=vs.map some++List.replicate (N.length - ws.length) none:=by unfold PV;rw[rv.len]
  rw[e];refine⟨o,_,rfl,R,Re.args _ rv,Ps.bd h λp x b e1 R1 r1 h1=>?_⟩;cases x with
  |rt w=>obtain⟨v,rfl,r⟩:=r1;exact h1.pr R1 r
  |nx r=>obtain⟨s,rfl,r⟩:=r1;exact h1.pr R1 (OX.mpr rfl)
  |bk r=>exact h1.elim
  |ct r=>exact h1.elim
theorem Dm {m:Nat}{fn:List W->M W}(h:∀ws h,fn ws h=.bad):FnOk P w K mg base CX0 k f fd ps (PJ K mg m fn):=by
 have no: ∀vs H Q E,¬PJ K mg m fn vs H Q E:=λvs H Q E ⟨o,ws,_,_,_,_,q⟩=>by rw[h] at q;exact q
 exact⟨λvs H Q E h=>absurd h (no vs H Q E),λA outer s H args us vs Q E _ _ _ _ h=>absurd h (no vs H Q E)⟩
structure CG (P:JB)(w:JC)(K:Zf)(mg:Str->Option Jx)(base:JD)(k:Nat)(x:Str)(f:JG)(fd:Ky)(ps:List Str)(m:Nat)(fn:List W->M W):Prop where
 ok:FnOk P w K mg base CX0 k f fd ps (PJ K mg m fn)
 bi:Binds K fd ps []
 kp:Ju K (.ref f)=true
 mg:mg x=some (.ref f)
end
noncomputable def arW (n:Nat)(f:List W->M W)(ws:List W):M W:=if ws.length=n then f ws else no
section
variable {X:Cx}{p pos:Kb}{e:Expr}{es:List Expr}{l:La->M (List W)}{f:List W->M W}{k:Nat}{fA:JG}{fd:Ky}{ps:List Str}{x:Str}
theorem EH {m:Nat}(C:CG X.prog X.w X.K X.mg X.base k x fA fd ps m f)(hr:Room k X.A)(ha:JA X E0 (e::es) l)(hg:Gl X x:=by rfl)
  (hdb:(x==("__debug__":Str))=false:=by decide)(he:Kd (e::es) X.env=(false,Ka e X.env)::Kd es X.env:=by rfl)(hpl:(Kc pos (Kd es X.env)).any (·.1)=false:=by rfl):
  JE X E0 (.Call (.Name x p) (e::es) [] pos) (Nn (arW m f) l):=(di C.ok hr hg C.mg C.kp C.bi .nil Oq ha.h hdb he hpl).imp λσ H Q h=>by
 ac_nf;unfold arW at h1;by_cases z:x.length=m
 ·rw[if_pos z] at h1;exact⟨p,x,rfl,z,R1,by rw[Gd];exact r1,h1⟩
 ·rw[if_neg z] at h1;exact h1.elim
end
section
variable {X:Cx}{E:XK}{p pos:Kb}
noncomputable def NU (n:Int):List W->List W
 |[]=>[]
 |w::l=>.tup [.int n,w]::NU (n+1) l
theorem g8: ∀ (l:List W) (n:Int),(NU n l).length=l.length
 |[],_=>rfl
 |w::l,n=>by rw[NU,FH,FH,g8 l]
theorem g9: ∀ (l:List W) (n:Int) (i:Nat) (w:W),(NU n l)[i]?=some w-> ∃x,l[i]?=some x/\w=.tup [.int (n+i),x]
 |[],_,_,_,h=>by simp [NU] at h
 |x::l,n,0,w,h=>by rw[NU] at h;cases h;exact⟨x,rfl,⇑_⟩
 |x::l,n,i+1,w,h=>by
  rw[NU,HF] at h;obtain⟨y,e1,e2⟩:=g9 l (n+1) i w h;exact⟨y,by simpa using e1,by rw[e2];congr 3;omega⟩
noncomputable def LY (ws:List W):M Sr:=match ws with
 |[w]=>bd (PQ w) λs=>pr ⟨NU 0 s.l,s.G⟩
 |_=>no
theorem sB {α β:Type}{r:Wo->α->β->Prop}{w:W}{k:Sr->M α}{Q:β->Hp->Prop}(R:Rel X.K o)(hr:Rv X.K o w v)(h:Ps (cg X E) r o (bd (PQ w) k o.h) Q):
  ∃s a,v=.ref a/\(∃vs,SqL X.K o.H a vs)/\(∀p,Ex o p->Rel X.K p->s.G p.h-> ∃vs,SqL X.K p.H a vs/\Rvs X.K p s.l vs)/\Ps (cg X E) r o (k s o.h) Q:=by
 cases w with
 |tl l=>
  unfold Rv at hr;obtain⟨a,vs,rfl,s,n,r⟩:=hr;exact⟨⟨l,λ_=>True⟩,a,rfl,⟨vs,.of s⟩,λp X _ _=>⟨vs,.of (X.fr a _ s n).1,r.mono R X⟩,h⟩
 |cl l=>
  unfold Rv at hr;obtain⟨a,vs,rfl,s,r⟩:=hr;have sq: ∀q,Ex o q->SqL X.K q.H a vs:=λq X=>by
   rcases s with⟨s,n⟩|s
   ·exact .inl (X.rd s n).1
   ·exact .inr s
  exact⟨⟨l,λ_=>True⟩,a,rfl,⟨vs,sq o (Ex.refl _)⟩,λp X _ _=>⟨vs,sq p X,r.mono R X⟩,h⟩
 |loc j=>
  unfold Rv at hr;obtain⟨hj,rfl⟩:=hr;unfold PQ bd at h;cases e:o.h[j]? with
  |none=>simp only[e] at h;exact h.elim
  |some b=>
   cases b with
   |lst l=>
    simp only[e] at h;obtain⟨vs,h1,h2⟩:=R.ob j _ e;refine⟨⟨l,λh=>h[j]?=some (.lst l)⟩,_,rfl,⟨vs,.of h1⟩,λp X Rp g=>?_,h⟩;obtain⟨vs',h5,h6⟩:=Rp.ob j _ g;rw[X.mu j hj] at h5;exact⟨vs',.of h5,h6⟩
   |_=>simp only[e] at h;exact h.elim
 |_=>exact h.elim
theorem zW {x1}{fl:La->M (List W)}(hm:X.mg "enumerate"=none)(ha:JA X E [a] fl)(hg:Gl X "enumerate")(hs:Kd [a] X.env=[(false,Ka a X.env)]):
  JI X E (.Tuple elts x1 tpos) (.Call (.Name "enumerate" p) [a] [] pos) (NC fl LY):=(zu hg hm ha.h hs).imp λσ H Q h=>by
 ac_nf;rcases x with _|⟨w,_|⟨_,_⟩⟩
 ·exact h1.elim
 ·have h1:Ps (cg X E) (λp s J=>Ll X.K p J s) p (bd (PQ w) (λs=>pr ⟨NU 0 s.l,s.G⟩) p.h) Q:=h1;obtain⟨v,rfl,r⟩:=r1.one;obtain⟨s,a,rfl,hq,sk,h1⟩:=sB R1 r h1;refine⟨a,rfl,hq,h1.pr R1 ⟨λo X R g=>?_,λo i w X R g e=>?_⟩⟩
  ·obtain⟨vs,k1,k2⟩:=sk o X R g;exact⟨vs,k1,by rw[k2.len];exact (g8 _ _).symm⟩
  ·obtain⟨vs,k1,k2⟩:=sk o X R g;obtain⟨x,e1,rfl⟩:=g9 _ _ _ _ e;obtain⟨v,hv,rv⟩:=k2.get e1;refine⟨⟨vs,v,k1,hv⟩,λy H' q=>?_⟩;obtain⟨T,z,hT,rfl,hz,rfl⟩:=q;have:z=v:=by have:=hz vs k1;rw[hv] at this;exact (Option.some.inj this).symm
   subst this;refine⟨⟨o.mu,o.h,upd o.H T (.tup [.int i,z])⟩,rfl,rfl,Ex.new hT,R.new hT,Rv.newT R hT (Rvs.cons (OV.mpr ⇑_) (Rvs.cons rv Rvs.nil))⟩
 ·exact h1.elim
noncomputable def Pc (t:W->La->Option La)(f:La->M W):La->M Fl:=λρ=>bd (f ρ) λw=>match t w ρ with
 |some r=>pr (.nx r)
 |none=>no
theorem Cl {m:Nat}{t:W->La->Option La}{f:La->M W}(he:JE X E e f)(hg:PG X tg gT)(ht:Ln X.K m gT t)(hs:swapsWithSole [tg] e pos.line X.env=pure false:=by rfl)(hw:swappedStores [tg] e X.env=pure none:=by rfl)
  (h1:(Kl [tg] X.env).map (·.2)=[assign tg X.env]:=by rfl):JS X E (.Assign [tg] e pos) (Pc t f):=(qZ he.h hg hs hw h1).imp λD σ H h=>by
 ac_nf;cases et:t x ρ with
 |none=>rw[et] at h1;exact h1.elim
 |some r=>
  rw[et] at h1;obtain⟨σ2,k1,k2,_,_⟩:=ht.ok p x vx ρ r σ r1 (S.mono R e1) et;exact k1 _ (Ps.pr (b:=FlV.nx σ2) h1 R1 ⟨σ2,rfl,k2⟩)
end
end
section
section
variable {b:Expr}
theorem Rv.addLoc {K:Zf}{o:Wo}{q:JG}{b:Ob}{u:HO}:Rv K (o.add q b u) (.loc o.h.length) (.ref q):=by
 unfold Rv;exact⟨by show _<(o.h++[b]).length;simp,by show V.ref q=V.ref (if o.h.length=o.h.length then q else _);rw[if_pos rfl]⟩
end
end
section
section
variable {X:Cx}{E:XK}{p pos:Kb}{a b c:Expr}{fa fb fc:La->M W}
noncomputable def aK (f g:W->W->M W)(fa fb fc:La->M W):La->M W:=λρ=>bd (fa ρ) λx=>bd (fb ρ) λy=>bd (f x y) λz=>bd (asB z) λk=>if k=true then bd (fc ρ) λw=>g y w else pr (.bl false)
theorem vS {f g:W->W->M W}(hf: ∀ (o:Wo) (x y:W) (vx vy:V) (Q:VK),Rel X.K o->Rv X.K o x vx->Rv X.K o y vy->Ps (cg X E) (Rv X.K) o (f x y o.h) Q->r vx vy o.H Q)(hg:OpM X E r' g)(h:tM (cg X E) (aK f g fa fb fc) σ H Q):vT r r' (tM (cg X E) fa) (tM (cg X E) fb) (tM (cg X E) fc) σ H Q:=by
 obtain⟨o,ρ,rfl,R,S,h⟩:=h;refine⟨o,ρ,rfl,R,S,Ps.bd h λp x vx e1 R1 r1 h1=>⟨p,ρ,rfl,R1,S.mono R e1,Ps.bd h1 λq y vy e2 R2 r2 h2=>hf q x y vx vy _ R2 (r1.mono R1 e2) r2 (Ps.bd h2 λs z vz e3 R3 r3 h3=>?_)⟩⟩;obtain⟨k,rfl,rfl,h3⟩:=DD r3 h3;refine⟨k,rfl,?_⟩;cases k with
 |false=>exact MG (h3.pr R3 (OU.mpr rfl))
 |true=>exact MH ⟨s,ρ,rfl,R3,((S.mono R e1).mono R1 e2).mono R2 e3,Ps.bd h3 λu w vw e4 R4 r4 h4=>hg u y w vy vw Q R4 ((r2.mono R2 e3).mono R3 e4) r4 h4⟩
theorem xt {f g:W->W->M W}(ho:OpR X (Kg op) r)(hf:OpM X E r f)(ho':OpR X (Kg op') r')(hg:OpM X E r' g)(ha:JE X E a fa)(hb:JE X E b fb)(hc:JE X E c fc)
 (hm:lastMarks [op,op'] [b,c]=false:=by with_unfolding_all rfl):JT X E (.Compare a [op,op'] [b,c] pos) (mB (aK f g fa fb fc)):=(ww ho ho' ha.h hb.h hc.h hm).imp λ_ _ _ h=>vS hf hg (Bk h)
end
section
variable {es:List Expr}{env:Env}{pos:Kb}
theorem Ce:(Kc pos (Kd [] env)).any (·.1)=false:=by rfl
theorem zI (hs:Kd (e::es) env=(false,Ka e env)::Kd es env)(h:(Kc pos (Kd es env)).any (·.1)=false):(Kc pos (Kd (e::es) env)).any (·.1)=false:=by
 rw[hs];show ((false||(Kc pos (Kd es env)).any (·.1)):Bool)=false;rw[h];rfl
end
section
variable {P:JB}{w:JC}{K:Zf}{mg:Str->Option Jx}{base:JD}{f:JG}{fd:Ky}{ps:List Str}{k:Nat}{sp:Sp}
theorem yh (F:FnOk P w K mg base (CXx P w) k f fd ps sp)(h:∀vs H Q E,sp' vs H Q E->sp vs H Q E0):FnOk P w K mg base CX0 k f fd ps sp':=
 ⟨λvs H Q E q=>F.len vs H Q E0 (h _ _ _ _ q),λA outer s H args us vs Q E hr he hb hv hs=>Kz (F.run A outer s H args us vs Q E0 hr he hb hv (h _ _ _ _ hs)) λr s' q=>by
  cases r with
  |ok fl=>cases fl<;>exact q
  |error e=>
   obtain⟨_,_,_,_,_,_,_,_,_,_,_,_,_,_,z⟩:=q
   exact z.elim⟩
theorem o9 {ws:List W}(R:Rel K o)(g:Same o.H H')(hv:Rv K ⟨o.mu,o.h,H'⟩ wv v)(h:Ps ⟨K,mg,E0⟩ (Rv K) o (pr wv o.h) Q):Q v H':=
 Ps.at (p:=⟨o.mu,o.h,H'⟩) h rfl (Ex.same g) (R.same g) hv
end
end
section
section
variable {X:Cx}{E:XK}{p pos:Kb}{a b:Expr}{l:La->M (List W)}
variable {x:Str}{m:Nat}
noncomputable def LH (fa fb:La->M W):La->M (List W):=λρ=>bd (fa ρ) λx=>bd (fb ρ) λy=>bd (Nj x) λa=>bd (Nj y) λb=>gd (a.length+b.length<=sizeLine) (pr (a++b))
theorem Cz {fa fb:La->M W}(ha:JE X E a fa)(hb:JE X E b fb):JF X E (.BinOp a .Add b pos) (LH fa fb):=(sU wW ha.h hb.h).impF λσ H Q h=>by
 obtain⟨o,ρ,rfl,R,S,h⟩:=h;refine⟨o,ρ,rfl,R,S,Ps.bd h λp x vx e1 R1 r1 h1=>⟨p,ρ,rfl,R1,S.mono R e1,Ps.bd h1 λq y vy e2 R2 r2 h2=>?_⟩⟩;obtain⟨l,a,vs,rfl,s1,r3,h3⟩:=eA R2 (r1.mono R1 e2) h2;obtain⟨m,b,us,rfl,s2,r4,h4⟩:=eA R2 r2 h3;obtain⟨hz,h4⟩:=h4.gd;exact⟨a,b,vs,us,rfl,rfl,s1,s2,by rw[r3.len,r4.len];exact hz,h4.pr R2 (r3.app r4)⟩
end
end
end L2
namespace L2
open PySem
theorem dE {α β:Type}{f:M α}{g:α->M β}{a:α}(e:f h=.ok a h'):bd f g h=g a h':=by unfold bd;rw[e]
@[simp] theorem bd_pr {α β:Type}(a:α)(g:α->M β):bd (pr a) g=g a:=rfl
@[simp] theorem bd_no {α β:Type}(g:α->M β):bd (no:M α) g=no:=rfl
theorem af {α:Type}{p:Prop} [Decidable p] {m:M α}(hp:p):gd p m=m:=by funext h;unfold gd;rw[if_pos hp]
@[simp] theorem addW_int (i j:Int):Lr (.int i) (.int j)=pr (.int (i+j)):=rfl
theorem yS {a b:Str}(h:a.length+b.length<=sizeLine):Lr (.str a) (.str b)=pr (.str (a++b)):=by unfold Lr;exact af h
@[simp] theorem subW_int (i j:Int):P0 (.int i) (.int j)=pr (.int (i - j)):=af trivial
theorem jh {i j:Int}(h:K2 i j):NM (.int i) (.int j)=pr (.int (i * j)):=by unfold NM;exact af h
theorem xq {i j:Int}(h1: -(2 ^ 64)<i)(h2:i<2 ^ 64):K2 i j:=.inl (.inl ⟨h1,h2⟩)
theorem xp {i j:Int}(h1: -(2 ^ 64)<j)(h2:j<2 ^ 64):K2 i j:=.inl (.inr ⟨h1,h2⟩)
theorem bW {i j:Int}(h1:0<j)(h2:j<2 ^ 200):L9 (.int i) (.int j)=pr (.int (i / j)):=af ⟨h1,h2⟩
theorem ah {i j:Int}(h1:0<j):NJ (.int i) (.int j)=pr (.int (i % j)):=af h1
theorem kM {i j:Int}(h:K3 i j):Oz (.int i) (.int j)=pr (.int (i ^ j.toNat)):=af h
@[simp] theorem ltW_int (i j:Int):ltW (.int i) (.int j)=pr (.bl (decide (i<j))):=af trivial
@[simp] theorem leW_int (i j:Int):leW (.int i) (.int j)=pr (.bl (decide (i<=j))):=af trivial
@[simp] theorem gtW_int (i j:Int):gtW (.int i) (.int j)=pr (.bl (decide (j<i))):=af trivial
@[simp] theorem geW_int (i j:Int):geW (.int i) (.int j)=pr (.bl (decide (j<=i))):=af trivial
@[simp] theorem asB_bl (b:Bool):asB (.bl b)=pr b:=rfl
@[simp] theorem eqW_int (i j:Int):eqW (.int i) (.int j)=pr (.bl (decide (i=j))):=by
  funext h;show Rs.ok (W.bl (decide (V.int i=V.int j))) h=Rs.ok (W.bl (decide (i=j))) h;congr 2;rw[decide_eq_decide];exact⟨V.int.inj,congrArg _⟩
@[simp] theorem eqW_str (i j:Str):eqW (.str i) (.str j)=pr (.bl (decide (i=j))):=by
  funext h;show Rs.ok (W.bl (decide (V.str i=V.str j))) h=Rs.ok (W.bl (decide (i=j))) h;congr 2;rw[decide_eq_decide];exact⟨V.str.inj,congrArg _⟩
@[simp] theorem neW_int (i j:Int):neW (.int i) (.int j)=pr (.bl (!decide (i=j))):=by
  funext h;show Rs.ok (W.bl (!decide (V.int i=V.int j))) h=Rs.ok (W.bl (!decide (i=j))) h;congr 3;rw[decide_eq_decide];exact⟨V.int.inj,congrArg _⟩
@[simp] theorem neW_str (i j:Str):neW (.str i) (.str j)=pr (.bl (!decide (i=j))):=by
  funext h;show Rs.ok (W.bl (!decide (V.str i=V.str j))) h=Rs.ok (W.bl (!decide (i=j))) h;congr 3;rw[decide_eq_decide];exact⟨V.str.inj,congrArg _⟩
@[simp] theorem neW_bl (i j:Bool):neW (.bl i) (.bl j)=pr (.bl (!decide (i=j))):=by
  funext h;show Rs.ok (W.bl (!decide (V.bl i=V.bl j))) h=Rs.ok (W.bl (!decide (i=j))) h;congr 3;rw[decide_eq_decide];exact⟨V.bl.inj,congrArg _⟩
theorem bU {i:Int}{w:W}(h:atI l i=some w):ixW (.tl l) (.int i)=pr w:=by
 funext hh;unfold ixW;have:ixO (.tl l) (.int i) hh=some w:=h;rw[this];rfl
theorem dO {i:Int}{w:W}(h:atI l i=some w):ixW (.tup l) (.int i)=pr w:=by
 funext hh;unfold ixW;have:ixO (.tup l) (.int i) hh=some w:=h;rw[this];rfl
@[simp] theorem slW_tl (l:List W)(lo hi:Option Int):slW (.tl l) lo hi=pr (.tl (LP l lo hi)):=rfl
@[simp] theorem slW_cl (l:List W)(lo hi:Option Int):slW (.cl l) lo hi=pr (.tl (LP l lo hi)):=rfl
@[simp] theorem lenW_tl (l:List W):Na [.tl l]=pr (.int l.length):=rfl
@[simp] theorem lenW_tup (l:List W):Na [.tup l]=pr (.int l.length):=rfl
theorem yR {n:Nat}{f:List W->M W}{ws:List W}(h:ws.length=n):arW n f ws=f ws:=if_pos h
theorem vW {i:Int}(h:i.natAbs.log2<1920):PZ [.int i]=pr (.str (toString i)):=af h
theorem hJ {α:Type}(f:α->W)(l:List α)(d:α){i:Int}(h0:0<=i)(h:i<l.length):atI (l.map f) i=some (f (l.getD i.toNat d)):=by
 have hi:i.toNat<l.length:=∅;have e:atI (l.map f) ((i.toNat:Nat):Int)=some (f (l.getD i.toNat d)):=jz (by rw[FG,F4 hi,Gu,F4 hi];rfl);have e2:((i.toNat:Nat):Int)=i:=∅;rw[e2] at e;exact e
theorem aQ {α:Type}{xs:List α}{i:Int}{v:α}(h0:0<=i)(h:xs[i.toNat]?=some v):atI xs i=some v:=by
 have q:=jz h;have e:((i.toNat:Nat):Int)=i:=∅;rw[e] at q;exact q
noncomputable def Mb:Fl->M W:=λx=>match x with
 |.rt w=>pr w
 |.nx _=>pr .non
 |_=>no
theorem gdn0 {α:Type}(m:M α):gd (0<=sizeLine) m=m:=af ↥_
theorem gdn1 {α:Type}(m:M α):gd (0+1<=sizeLine) m=m:=af ↥_
theorem gdn2 {α:Type}(m:M α):gd (0+1+1<=sizeLine) m=m:=af ↥_
theorem gdn3 {α:Type}(m:M α):gd (0+1+1+1<=sizeLine) m=m:=af ↥_
theorem gdn4 {α:Type}(m:M α):gd (0+1+1+1+1<=sizeLine) m=m:=af ↥_
theorem gdn6 {α:Type}(m:M α):gd (0+1+1+1+1+1+1<=sizeLine) m=m:=af ↥_
theorem gdn8 {α:Type}(m:M α):gd (0+1+1+1+1+1+1+1+1<=sizeLine) m=m:=af ↥_
theorem gdn10 {α:Type}(m:M α):gd (0+1+1+1+1+1+1+1+1+1+1<=sizeLine) m=m:=af ↥_
theorem al {src:La->M Sr}{t:W->La->Option La}{f:La->M Bool}{e:La->M W}{n:Nat}:No [] src t f e n ρ=bd (src ρ) λs=>gd (s.l.length<=sizeLine) (LM s.G t f e n s.l ρ):=by unfold No;exact af rfl
section
theorem qe {t:W->La->Option La}{f:La->M Bool}{e:La->M W}{n:Nat}{b:W->Bool}{v:W->W}: ∀ {l:List W},(∀w∈l,∃r,t w (List.replicate n none++ρ)=some r/\f r=pr (b w)/\(b w=true->e r=pr (v w)))->LM (λ_=>True) t f e n l ρ=pr ((l.filter b).map v)
 |[],_=>by unfold LM;rw[pX];rfl
 |w::l,h=>by
  obtain⟨r,h1,h2,h3⟩:=h w FI;have ih:=qe (l:=l) λx hx=>h x (FV _ hx);unfold LM;rw[pX,h1];dsimp only;rw[h2,bd_pr];by_cases hb:b w=true
  ·rw[if_pos hb,h3 hb,bd_pr,ih,bd_pr,Iy hb];rfl
  ·rw[if_neg hb,ih,HI hb]
theorem jc {α:Type}{f:W->Option α}{g:α->W}(hf: ∀a,f (g a)=some a): ∀l:List α,Om f (l.map g)=some l
 |[]=>rfl
 |a::l=>by
  show (match f (g a),Om f (l.map g) with
   |some b,some r=>some (b::r)
   |_,_=>none)=_
  rw[hf,jc hf l]
theorem cR {β:Type}{α:Type}{f:W->Option β}{g:α->W}{k:α->β}(hf: ∀a,f (g a)=some (k a)): ∀l:List α,Om f (l.map g)=some (l.map k)
 |[]=>rfl
 |a::l=>by
  show (match f (g a),Om f (l.map g) with
   |some b,some r=>some (b::r)
   |_,_=>none)=_
  rw[hf,cR hf l];rfl
theorem dW {α:Type}{g:α->W}{k:α->V}(hf: ∀a,vOf (g a)=some (k a)): ∀l:List α,Qm (l.map g)=some (l.map k)
 |[]=>rfl
 |a::l=>by
  show (match vOf (g a),Qm (l.map g) with
   |some v,some vs=>some (v::vs)
   |_,_=>none)=_
  rw[hf,dW hf l];rfl
theorem xV {sep:Str}{ts:List Str}(h:(ts.map (·.length)).sum+ts.length * sep.length<=sizeLine):MP (.str sep) [.tl (ts.map W.str)]=pr (.str (Str.join sep ts)):=by
 have e:MP (.str sep) [.tl (ts.map W.str)]=(match Om sOf (ts.map W.str) with
  |some (ts:List Str)=>gd ((ts.map (λz:Str=>z.length)).sum+ts.length * sep.length<=sizeLine) (pr (W.str (Str.join sep ts)))
  |none=>no):=rfl
 rw[e,jc (f:=sOf) (g:=W.str) (λa=>rfl)];exact af h
theorem vg (h1:Om (LR h 49) l=some ds)(h2:Om (LR h 49) m=some es)(c1:KP.canLayAll0 ds=true)(c2:KP.canLayAll0 es=true):eqB (.tl l) (.tl m) h=some (KP.eqvAll ds es):=by
 show (match (Om (LR h 49) l).map KP.list,(Om (LR h 49) m).map KP.list with
  |some d,some e=>if d.canLay0=true/\e.canLay0=true then some (KP.eqv d e) else none
  |_,_=>none)=_
 rw[h1,h2];show (if (KP.list ds).canLay0=true/\(KP.list es).canLay0=true then some (KP.eqv (.list ds) (.list es)) else none)=_;rw[if_pos ⟨by rw[KP.canLay0];exact c1,by rw[KP.canLay0];exact c2⟩,KP.eqv]
theorem rT {b:Bool}(h:∀h,eqB x y h=some b):eqW x y=pr (.bl b):=by funext hh;unfold eqW;rw[h];rfl
mutual
theorem yk: ∀d:KP,d.canLay0=true->KP.eqv d d=true
 |.none,_=>by rw[KP.eqv]
 |.bool b,_=>by rw[KP.eqv];simp
 |.int b,_=>by rw[KP.eqv];simp
 |.str b,_=>by rw[KP.eqv];simp
 |.list l,h=>by rw[KP.eqv];exact eO l (by rw[KP.canLay0] at h;exact h)
 |.tuple l,h=>by rw[KP.eqv];exact eO l (by rw[KP.canLay0] at h;exact h)
 |.dict l,h=>by rw[KP.canLay0] at h;cases h
theorem eO: ∀l:List KP,KP.canLayAll0 l=true->KP.eqvAll l l=true
 |[],_=>by rw[KP.eqvAll]
 |d::l,h=>by
  rw[KP.canLayAll0,F7] at h;rw[KP.eqvAll,yk d h.1,eO l h.2];rfl
end
theorem yC {α:Type}{k:α->KP}: ∀ (l:List α),(∀a∈l,(k a).canLay0=true)->KP.canLayAll0 (l.map k)=true
 |[],_=>by rw[Ge,KP.canLayAll0]
 |a::l,h=>by rw[FK,KP.canLayAll0,h a FI,yC l λb hb=>h b (FV _ hb)];rfl
theorem iE (a b:Str):(a++b).cps.toList=a.cps.toList++b.cps.toList:=by
 show (a.cps++b.cps).toList=_;rw[Array.toList_append]
theorem rk {x:Str}{ss:List Str}:cy (.str x) (.tl (ss.map W.str))=pr (.bl (!decide (x∈ss))):=by
 funext h;unfold cy;have e:inB (.str x) (.tl (ss.map W.str)) h=some (decide (x∈ss)):=by
  show (match vOf (.str x),Qm (ss.map W.str) with
   |some v,some vs=>some (inV v vs)
   |_,_=>none)=_
  rw[dW (k:=V.str) (λa=>rfl)];show some (inV (.str x) (ss.map V.str))=_;congr 1;unfold inV;rw[Gz,GO,decide_eq_true_eq];constructor
  ·rintro⟨v,hv,q⟩
   obtain⟨y,hy,rfl⟩:=FW.mp hv;have:y=x:=by simpa [eqV] using q
   subst this;exact hy
  ·intro q;exact⟨.str x,FW.mpr ⟨x,q,rfl⟩,by simp [eqV]⟩
 rw[e];rfl
end
end L2
namespace L2
open PySem PySem.Spec PyProof.Rows
section
variable {X:Cx}{E:XK}{p pos:Kb}
noncomputable def LZ (ws:List W):M Sr:=match ws with
 |[w]=>bd (PR w) λs=>pr ⟨NU 0 s.l,s.G⟩
 |_=>no
theorem xx {x1}{fl:La->M (List W)}(hm:X.mg "enumerate"=none)(ha:JA X E [a] fl)(hg:Gl X "enumerate")(hs:Kd [a] X.env=[(false,Ka a X.env)]):
  JI X E (.Tuple elts x1 tpos) (.Call (.Name "enumerate" p) [a] [] pos) (NC fl LZ):=(wG hg hm ha.h hs).imp λσ H Q h=>by
 ac_nf;rcases x with _|⟨w,_|⟨_,_⟩⟩
 ·exact h1.elim
 ·have h1:Ps (cg X E) (λp s J=>Ll X.K p J s) p (bd (PR w) (λs=>pr ⟨NU 0 s.l,s.G⟩) p.h) Q:=h1;obtain⟨v,rfl,r⟩:=r1.one;cases w with
  |tup l=>
   unfold Rv at r;obtain⟨a,vs,rfl,s,r⟩:=r;have h1:Ps (cg X E) (λp s J=>Ll X.K p J s) p (pr ⟨NU 0 l,λ_=>True⟩ p.h) Q:=h1;refine⟨a,rfl,⟨vs,s⟩,h1.pr R1 ⟨λo X R g=>⟨vs,X.rdT R1 s,by rw[r.len];exact (g8 _ _).symm⟩,λo i w X R g e=>?_⟩⟩;obtain⟨x,e1,rfl⟩:=g9 _ _ _ _ e;obtain⟨v,hv,rv⟩:=(r.mono R1 X).get e1;have sq:=X.rdT R1 s;refine⟨⟨vs,v,sq,hv⟩,λy H' q=>?_⟩;obtain⟨T,z,hT,rfl,hz,rfl⟩:=q;have:z=v:=by have:=hz vs sq;rw[hv] at this;exact (Option.some.inj this).symm
   subst this;refine⟨⟨o.mu,o.h,upd o.H T (.tup [.int i,z])⟩,rfl,rfl,Ex.new hT,R.new hT,Rv.newT R hT (Rvs.cons (OV.mpr ⇑_) (Rvs.cons rv Rvs.nil))⟩
  |_=>exact h1.elim
 ·exact h1.elim
end
end L2
namespace L2
open PySem
theorem aA {α β:Type}(a:α)(g:α->M β):bd (pr a) g=g a:=funext λh=>dE (f:=pr a) (a:=a) (h:=h) (h':=h) rfl
noncomputable def Ok {α:Type}(m:M α)(h:List Ob)(Q:α->List Ob->Prop):Prop:= ∃a h',m h=.ok a h'/\Q a h'
section
variable {α β:Type}{m:M α}{k:α->M β}{h h':List Ob}{a:α}
theorem Ok.imp {P Q:α->List Ob->Prop}(p:Ok m h P)(q:∀a h',P a h'->Q a h'):Ok m h Q:=let ⟨a,h',e,r⟩:=p;⟨a,h',e,q a h' r⟩
theorem aI {P:α->List Ob->Prop}{Q:β->List Ob->Prop}(p:Ok m h P)(q:∀a h',P a h'->Ok (k a) h' Q):Ok (bd m k) h Q:=by
 obtain⟨a,h',e,r⟩:=p;obtain⟨b,h2,e2,r2⟩:=q a h' r;exact⟨b,h2,(dE e).trans e2,r2⟩
theorem Ei {Q:α->List Ob->Prop}(e:m h=.ok a h')(q:Q a h'):Ok m h Q:=⟨a,h',e,q⟩
theorem aR {Q:β->List Ob->Prop}(e:m h=.ok a h')(q:Ok (k a) h' Q):Ok (bd m k) h Q:=by
 obtain⟨b,h2,e2,r2⟩:=q;exact⟨b,h2,(dE e).trans e2,r2⟩
theorem ae {Q:α->List Ob->Prop}(q:Q a h):Ok (pr a) h Q:=⟨a,h,rfl,q⟩
end
section
variable {β:Type}{h:List Ob}{Q:β->List Ob->Prop}{j:Nat}{l:List W}
theorem AX {i:Int}{w:W}{k:W->M β}(e:h[j]?=some (.lst l))(e2:atI l i=some w)(q:Ok (k w) h Q):Ok (bd (ixW (.loc j) (.int i)) k) h Q:=by
 refine aR (a:=w) (h':=h) ?_ q;have d:LS (.loc j) h=none:=by unfold LS;simp only[e]
 have lo:Nk (.loc j) h=.ok l h:=by unfold Nk;simp only[e]
 have:ixO (.loc j) (.int i) h=some w:=by
  unfold ixO;simp only[d,lo,e2]
 unfold ixW;rw[this]
theorem dI {w:W}{k:W->M β}(e:h[j]?=some (.lst l))(z:l.length<sizeLine)(q:Ok (k .non) (h.set j (.lst (l++[w]))) Q):Ok (bd (aV (.loc j) [w]) k) h Q:=by
 refine aR (a:=.non) (h':=h.set j (.lst (l++[w]))) ?_ q;unfold aV;simp only[e,if_pos z]
theorem cn {k:W->M β}(e:h[j]?=some (.lst l))(q:Ok (k (.loc j)) h Q):Ok (bd (isL (.loc j)) k) h Q:=by
 refine aR (a:=.loc j) (h':=h) ?_ q;unfold isL;simp only[e]
theorem f7 {k:W->M β}(q:Ok (k (.loc h.length)) (h++[.lst l]) Q):Ok (bd (NR l) k) h Q:=aR (a:=.loc h.length) (h':=h++[.lst l]) rfl q
theorem gY {k:W->M β}(e:h[j]?=some (.lst l))(q:Ok (k (.tl l)) (h.set j .gone) Q):Ok (bd (Mr (.loc j)) k) h Q:=by
 refine aR (a:=.tl l) (h':=h.set j .gone) ?_ q;unfold Mr;simp only[e]
theorem rj {k:Sr->M β}(e:h[j]?=some (.lst l))(q:Ok (k ⟨l,λh=>h[j]?=some (.lst l)⟩) h Q):Ok (bd (PQ (.loc j)) k) h Q:=by
 refine aR (a:=⟨l,λh=>h[j]?=some (.lst l)⟩) (h':=h) ?_ q;unfold PQ;simp only[e]
noncomputable def Lw (h:List Ob)(x:W)(l:List W):Prop:=x=.tl l\/ ∃j,x=.loc j/\h[j]?=some (.lst l)
theorem Lw.of (p:Lw h x l):Nk x h=.ok l h:=by
 rcases p with rfl|⟨j,rfl,e⟩
 ·rfl
 ·unfold Nk;simp only[e]
theorem Lw.len {k:W->M β}(p:Lw h x l)(q:Ok (k (.int l.length)) h Q):Ok (bd (Na [x]) k) h Q:=by
 refine aR (a:=.int l.length) (h':=h) ?_ q;have e:=p.of;rcases p with rfl|⟨j,rfl,_⟩
 ·rfl
 ·show bd (Nk (.loc j)) (λl=>pr (W.int l.length)) h=_;rw[dE e];rfl
theorem Lw.ix {x w:W}{i:Int}{k:W->M β}(p:Lw h x l)(e2:atI l i=some w)(q:Ok (k w) h Q):Ok (bd (ixW x (.int i)) k) h Q:=by
 rcases p with rfl|⟨j,rfl,e⟩
 ·rw[bU e2,bd_pr];exact q
 ·exact AX e e2 q
end
theorem jq {x:Str}{ss:List Str}:inV (.str x) (ss.map V.str)=decide (x∈ss):=by
 unfold inV;rw[Gz,GO,decide_eq_true_eq];constructor
 ·rintro⟨v,hv,q⟩
  obtain⟨y,hy,rfl⟩:=FW.mp hv;have:y=x:=by simpa [eqV] using q
  subst this;exact hy
 ·intro q;exact⟨.str x,FW.mpr ⟨x,q,rfl⟩,by simp [eqV]⟩
theorem tQ {x:Str}{ss:List Str}:inW (.str x) (.tl (ss.map W.str))=pr (.bl (decide (x∈ss))):=by
 funext h;unfold inW;have e:inB (.str x) (.tl (ss.map W.str)) h=some (decide (x∈ss)):=by
  show (match vOf (.str x),Qm (ss.map W.str) with
   |some v,some vs=>some (inV v vs)
   |_,_=>none)=_
  rw[dW (k:=V.str) (λa=>rfl)];show some (inV (.str x) (ss.map V.str))=_;rw[jq]
 rw[e];rfl
theorem Ej {β:Type}{Q:β->List Ob->Prop}{j:Nat}{x:Str}{ss:List Str}{k:W->M β}(e:h[j]?=some (.lst (ss.map W.str)))(q:Ok (k (.bl (decide (x∈ss)))) h Q):Ok (bd (inW (.str x) (.loc j)) k) h Q:=by
 refine aR (a:=.bl (decide (x∈ss))) (h':=h) ?_ q;unfold inW;have d:LS (.loc j) h=none:=by unfold LS;simp only[e]
 have lo:Nk (.loc j) h=.ok (ss.map W.str) h:=by unfold Nk;simp only[e]
 have e:inB (.str x) (.loc j) h=some (decide (x∈ss)):=by
  unfold inB;simp only[d,lo,dW (g:=W.str) (k:=V.str) (λa=>rfl) ss];show some (inV (.str x) (ss.map V.str))=_;rw[jq]
 rw[e]
theorem kK {i:Int}(h0: -(2 ^ 62)<=i)(h1:i<2 ^ 62):OO [.int i]=pr ⟨Mw 0 i.toNat,λ_=>True⟩:=af ⟨h0,h1⟩
theorem i8 {i j:Int}(h0: -(2 ^ 62)<=i)(h1:i<2 ^ 62)(h2: -(2 ^ 62)<=j)(h3:j<2 ^ 62):OP [.int i,.int j]=pr ⟨Mw i (j - i).toNat,λ_=>True⟩:=af ⟨h0,h1,h2,h3⟩
theorem rR {G:List Ob->Prop}{t:W->La->Option La}{g:La->M Fl}(I:Nat->La->List Ob->Prop)(l:List W)(hG: ∀i ρ h,I i ρ h->G h)
  (hs: ∀i w ρ h,l[i]?=some w->I i ρ h-> ∃r,t w ρ=some r/\Ok (g r) h λx h'=> ∃r',x=.nx r'/\I (i+1) r' h'):
  ∀ (m:List W) (n:Nat) (ρ:La) (h:List Ob),l.drop n=m->n<=l.length->I n ρ h->Ok (Mh G t g m ρ) h λx h'=> ∃r',x=.nx r'/\I l.length r' h'
 |[],n,ρ,h,e,hn,i=>by
  have:l.length<=n:=HJ.mp e;have hn:n=l.length:=∅;subst hn;refine⟨.nx ρ,h,?_,ρ,rfl,i⟩;unfold Mh;rw[dk (hG _ _ _ i)];rfl
 |w::m,n,ρ,h,e,hn,i=>by
  have hw:l[n]?=some w:=by
   have:=congrArg HK e;rw[HL,HM] at this;exact this
  have hl:n<l.length:=(FO.mp hw).1;have em:l.drop (n+1)=m:=by rw[<-HN,e];rfl
  obtain⟨r,e1,x,h',e2,r',rfl,i'⟩:=hs n w ρ h hw i;obtain⟨y,h2,e3,q⟩:=rR I l hG hs m (n+1) r' h' em hl i';refine⟨y,h2,?_,q⟩;unfold Mh;rw[dk (hG _ _ _ i),e1];dsimp only;rw[dE e2];exact e3
theorem cp {β:Type}{G:List Ob->Prop}{t:W->La->Option La}{g:La->M Fl}{k:Fl->M β}{Q:β->List Ob->Prop}(I:Nat->La->List Ob->Prop)(h0:I 0 ρ h)(hG: ∀i ρ h,I i ρ h->G h)
  (hs: ∀i w ρ h,l[i]?=some w->I i ρ h-> ∃r,t w ρ=some r/\Ok (g r) h λx h'=> ∃r',x=.nx r'/\I (i+1) r' h')(hd: ∀ρ h,I l.length ρ h->Ok (k (.nx ρ)) h Q):Ok (bd (Mh G t g l ρ) k) h Q:=
 aI (rR I l hG hs l 0 ρ h rfl (FY _) h0) λx h' ⟨r',e,i⟩=>by subst e;exact hd r' h' i
theorem ua {G:List Ob->Prop}{t:W->La->Option La}{f:La->M Bool}{g:La->M W}{c:Nat}(I:Nat->List W->List Ob->Prop)(l:List W)(hf: ∀r,f r=pr true)(hG: ∀i a h,I i a h->G h)
  (hs: ∀i w a h,l[i]?=some w->I i a h-> ∃r,t w (List.replicate c none++ρ)=some r/\Ok (g r) h λv h'=>I (i+1) (a++[v]) h'):
  ∀ (m:List W) (n:Nat) (a:List W) (h:List Ob),l.drop n=m->n<=l.length->I n a h->Ok (LM G t f g c m ρ) h λr h'=>I l.length (a++r) h'
 |[],n,a,h,e,hn,i=>by
  have:l.length<=n:=HJ.mp e;have hn:n=l.length:=∅;subst hn;refine⟨[],h,?_,by show I l.length (a++[]) h;rw[Gd];exact i⟩;unfold LM;rw[dk (hG _ _ _ i)];rfl
 |w::m,n,a,h,e,hn,i=>by
  have hw:l[n]?=some w:=by
   have:=congrArg HK e;rw[HL,HM] at this;exact this
  have hl:n<l.length:=(FO.mp hw).1;have em:l.drop (n+1)=m:=by rw[<-HN,e];rfl
  obtain⟨r,e1,v,h',e2,i'⟩:=hs n w a h hw i;obtain⟨y,h2,e3,q⟩:=ua I l hf hG hs m (n+1) (a++[v]) h' em hl i';refine⟨v::y,h2,?_,by show I l.length (a++v::y) h2;have q:I l.length (a++[v]++y) h2:=q;rw[Gb] at q;exact q⟩;unfold LM;rw[dk (hG _ _ _ i),e1];dsimp only;rw[hf,bd_pr,if_pos rfl,dE e2,dE e3];rfl
theorem dj {β:Type}{G:List Ob->Prop}{t:W->La->Option La}{f:La->M Bool}{g:La->M W}{c:Nat}{k:List W->M β}{Q:β->List Ob->Prop}(I:Nat->List W->List Ob->Prop)(h0:I 0 [] h)(hf: ∀r,f r=pr true)(hG: ∀i a h,I i a h->G h)
  (hs: ∀i w a h,l[i]?=some w->I i a h-> ∃r,t w (List.replicate c none++ρ)=some r/\Ok (g r) h λv h'=>I (i+1) (a++[v]) h')(hd: ∀a h,I l.length a h->Ok (k a) h Q):Ok (bd (LM G t f g c l ρ) k) h Q:=
 aI (ua I l hf hG hs l 0 [] h rfl (FY _) h0) λr h' i=>hd r h' i
theorem eS (r:La):NF r=pr true:=rfl
structure Fr (j:Nat)(h h':List Ob):Prop where
 len:h'.length=h.length
 eq: ∀i,i≠j->h'[i]?=h[i]?
theorem cU {j:Nat}{h:List Ob}{a b:Ob}(e:h[j]?=some a):(h.set j b)[j]?=some b:=by
 rw[G7 (FO.mp e).1]
theorem dg {j:Nat}{h:List Ob}{a:Ob}(e:h[j]?=some a):j<h.length:=(FO.mp e).1
theorem Ax {j:Nat}{h r:List Ob}{a:Ob}(e:h[j]?=some a):(h++r)[j]?=some a:=by
 rw[Gr (dg e)];exact e
theorem ga :(h++[a])[h.length]?=some a:=⇑_
theorem least {p:Nat->Prop}: ∀ {n:Nat},(∃r,r<n/\p r)-> ∃r,r<n/\p r/\ ∀j,j<r-> ¬p j
 |0,⟨_,h,_⟩=>absurd h (Nat.not_lt_zero _)
 |n+1,⟨r,h,q⟩=>by
  by_cases z: ∃r,r<n/\p r
  ·obtain⟨r,h1,h2,h3⟩:=least z;exact⟨r,∅,h2,h3⟩
  ·have:r=n:=by
    by_cases e:r<n
    ·exact absurd ⟨r,e,q⟩ z
    ·omega
   subst this;exact⟨r,h,q,λj hj hp=>z ⟨j,hj,hp⟩⟩
section
theorem oh {G:List Ob->Prop}{t:W->La->Option La}{g:La->M Fl}{Q:Fl->List Ob->Prop}(I:Nat->La->List Ob->Prop)(h0:I 0 ρ h)(hG: ∀i ρ h,I i ρ h->G h)
  (hs: ∀i w ρ h,l[i]?=some w->I i ρ h-> ∃r,t w ρ=some r/\Ok (g r) h λx h'=> ∃r',x=.nx r'/\I (i+1) r' h')(hd: ∀ρ h,I l.length ρ h->Q (.nx ρ) h):Ok (Mh G t g l ρ) h Q:=
 (rR I l hG hs l 0 ρ h rfl (FY _) h0).imp λx h' ⟨r',e,i⟩=>by subst e;exact hd r' h' i
theorem vh (l:List W):LZ [.tup l]=pr ⟨NU 0 l,λ_=>True⟩:=rfl
theorem fq (l:List W):Nk (.tl l)=pr l:=rfl
theorem ix0 (a:W)(l:List W):ixW (.tup (a::l)) (.int 0)=pr a:=dO (aQ ↥_ rfl)
theorem ix1 (a b:W)(l:List W):ixW (.tup (a::b::l)) (.int 1)=pr b:=dO (aQ ↥_ rfl)
theorem ix2 (a b c:W)(l:List W):ixW (.tup (a::b::c::l)) (.int 2)=pr c:=dO (aQ ↥_ rfl)
theorem ix3 (a b c d:W)(l:List W):ixW (.tup (a::b::c::d::l)) (.int 3)=pr d:=dO (aQ ↥_ rfl)
theorem ix4 (a b c d e:W)(l:List W):ixW (.tup (a::b::c::d::e::l)) (.int 4)=pr e:=dO (aQ ↥_ rfl)
theorem ix5 (a b c d e f:W)(l:List W):ixW (.tup (a::b::c::d::e::f::l)) (.int 5)=pr f:=dO (aQ ↥_ rfl)
theorem gy {α:Type}(f:α->W)(l:List α)(lo hi:Option Int):LP (l.map f) lo hi=(LP l lo hi).map f:=by
 unfold LP;rw[Fx,List.map_take,List.map_drop]
end
end L2
namespace L2
open PySem PySem.Spec PyProof.Rows
section
variable {X:Cx}{E:XK}{p pos:Kb}
noncomputable def PN (j:Bool):W->M Sr:=match j with
 |true=>PR
 |false=>PQ
theorem sC {j:Bool}{α β:Type}{r:Wo->α->β->Prop}{w:W}{k:Sr->M α}{Q:β->Hp->Prop}(R:Rel X.K o)(hr:Rv X.K o w v)(h:Ps (cg X E) r o (bd (PN j w) k o.h) Q):
  ∃s a,v=.ref a/\(∃vs,SqK j X.K o.H a vs)/\(∀p,Ex o p->Rel X.K p->s.G p.h-> ∃vs,SqK j X.K p.H a vs/\Rvs X.K p s.l vs)/\Ps (cg X E) r o (k s o.h) Q:=by
 cases j with
 |false=>exact sB R hr h
 |true=>
  cases w with
  |tup l=>
   unfold Rv at hr;obtain⟨a,vs,rfl,s,r'⟩:=hr;exact⟨⟨l,λ_=>True⟩,a,rfl,⟨vs,s⟩,λp X _ _=>⟨vs,X.rdT R s,r'.mono R X⟩,h⟩
  |_=>exact h.elim
noncomputable def Qp (l m:List W):List W:=HP (λa b=>.tup [a,b]) l m
theorem oU {i:Nat}{w:W}(e:(Qp l m)[i]?=some w): ∃x y,l[i]?=some x/\m[i]?=some y/\w=.tup [x,y]:=by
 unfold Qp at e;rw[Iz] at e;cases h1:l[i]? with
 |none=>rw[h1] at e;cases e
 |some x=>
  cases h2:m[i]? with
  |none=>rw[h1,h2] at e;cases e
  |some y=>rw[h1,h2] at e;cases e;exact⟨x,y,rfl,rfl,rfl⟩
noncomputable def PU (j k:Bool)(ws:List W):M Sr:=match ws with
 |[x,y]=>bd (PN j x) λs=>bd (PN k y) λt=>pr ⟨Qp s.l t.l,λh=>s.G h/\t.G h⟩
 |_=>no
theorem Cv (j k:Bool){x1}{fl:La->M (List W)}(hm:X.mg "zip"=none)(ha:JA X E [a,b] fl)(hg:Gl X "zip")(hs:Kd [a,b] X.env=[(false,Ka a X.env),(false,Ka b X.env)])(hs2:Kd [b] X.env=[(false,Ka b X.env)]):
  JI X E (.Tuple elts x1 tpos) (.Call (.Name "zip" p) [a,b] [] pos) (NC fl (PU j k)):=(BI (j:=j) (k:=k) hg hm ha.h hs hs2).imp λσ H Q h=>by
 ac_nf;rcases x with _|⟨w,_|⟨w2,_|⟨_,_⟩⟩⟩
 ·exact h1.elim
 ·exact h1.elim
 ·have h1:Ps (cg X E) (λp s J=>Ll X.K p J s) p (bd (PN j w) (λs=>bd (PN k w2) λt=>pr ⟨Qp s.l t.l,λh=>s.G h/\t.G h⟩) p.h) Q:=h1;obtain⟨v,u,rfl,rv,ru⟩:=r1.two;obtain⟨s,a,rfl,hq,sk,h1⟩:=sC R1 rv h1;obtain⟨t,b,rfl,hq2,sk2,h1⟩:=sC R1 ru h1;refine⟨a,b,rfl,hq,hq2,h1.pr R1 ⟨λo X R g=>?_,λo i w X R g e=>?_⟩⟩
  ·obtain⟨vs,k1,k2⟩:=sk o X R g.1;obtain⟨us,k3,k4⟩:=sk2 o X R g.2;exact⟨vs,us,k1,k3,by rw[k2.len,k4.len];show _=(Qp s.l t.l).length;unfold Qp;rw[HQ]⟩
  ·obtain⟨vs,k1,k2⟩:=sk o X R g.1;obtain⟨us,k3,k4⟩:=sk2 o X R g.2;obtain⟨x,y,ex,ey,rfl⟩:=oU e;obtain⟨v1,hv1,rv1⟩:=k2.get ex;obtain⟨v2,hv2,rv2⟩:=k4.get ey;refine⟨⟨vs,us,v1,v2,k1,k3,hv1,hv2⟩,λq H' yl=>?_⟩;obtain⟨T,z1,z2,hT,rfl,hz,rfl⟩:=yl;obtain⟨g1,g2⟩:=hz vs us k1 k3;have e1:z1=v1:=Option.some.inj (g1.symm.trans hv1);have e2:z2=v2:=Option.some.inj (g2.symm.trans hv2);subst e1 e2;refine⟨⟨o.mu,o.h,upd o.H T (.tup [z1,z2])⟩,rfl,rfl,Ex.new hT,R.new hT,Rv.newT R hT (Rvs.cons rv1 (Rvs.cons rv2 Rvs.nil))⟩
 ·exact h1.elim
variable {o:Expr}
theorem xD {x:Str}{zs:List Str}(hm:X.mg x=some (.ref a))(hq: ∀H,SqT X.K H a (zs.map V.str))(hg:Gl X x:=by rfl)(hd:(x==("__debug__":Str))=false:=by decide):JE X E (.Name x pos) (mC (.tup (zs.map W.str))):=
 j6 (v:=.ref a) hg hm rfl (λo=>by
  unfold Rv;refine⟨a,_,rfl,hq _,?_⟩
  induction zs with
  |nil=>exact Rvs.nil
  |cons z zs ih=>exact Rvs.cons (OY.mpr rfl) (gU zs)) hd
where
 gU {K:Zf}{o:Wo}: ∀zs:List Str,Rvs K o (zs.map W.str) (zs.map V.str)
  |[]=>Rvs.nil
  |z::zs=>Rvs.cons (OY.mpr rfl) (gU zs)
end
section
theorem oF {G:List Ob->Prop}{t:W->La->Option La}{g:La->M Fl}(I:Nat->La->List Ob->Prop)(J:W->List Ob->Prop)(l:List W)(hG: ∀i ρ h,I i ρ h->G h)
  (hs: ∀i w ρ h,l[i]?=some w->I i ρ h-> ∃r,t w ρ=some r/\Ok (g r) h λx h'=>(∃r',x=.nx r'/\I (i+1) r' h')\/ ∃v,x=.rt v/\J v h'):
  ∀ (m:List W) (n:Nat) (ρ:La) (h:List Ob),l.drop n=m->n<=l.length->I n ρ h->Ok (Mh G t g m ρ) h λx h'=>(∃r',x=.nx r'/\I l.length r' h')\/ ∃v,x=.rt v/\J v h'
 |[],n,ρ,h,e,hn,i=>by
  have:l.length<=n:=HJ.mp e;have hn:n=l.length:=∅;subst hn;refine⟨.nx ρ,h,?_,.inl ⟨ρ,rfl,i⟩⟩;unfold Mh;rw[dk (hG _ _ _ i)];rfl
 |w::m,n,ρ,h,e,hn,i=>by
  have hw:l[n]?=some w:=by
   have:=congrArg HK e;rw[HL,HM] at this;exact this
  have hl:n<l.length:=(FO.mp hw).1;have em:l.drop (n+1)=m:=by rw[<-HN,e];rfl
  obtain⟨r,e1,x,h',e2,⟨r',rfl,i'⟩|⟨v,rfl,j'⟩⟩:=hs n w ρ h hw i
  ·obtain⟨y,h2,e3,q⟩:=oF I J l hG hs m (n+1) r' h' em hl i';refine⟨y,h2,?_,q⟩;unfold Mh;rw[dk (hG _ _ _ i),e1];dsimp only;rw[dE e2];exact e3
  ·refine⟨.rt v,h',?_,.inr ⟨v,rfl,j'⟩⟩;unfold Mh;rw[dk (hG _ _ _ i),e1];dsimp only;rw[dE e2];rfl
theorem sY {β:Type}{G:List Ob->Prop}{t:W->La->Option La}{g:La->M Fl}{k:Fl->M β}{Q:β->List Ob->Prop}(I:Nat->La->List Ob->Prop)(J:W->List Ob->Prop)(h0:I 0 ρ h)(hG: ∀i ρ h,I i ρ h->G h)
  (hs: ∀i w ρ h,l[i]?=some w->I i ρ h-> ∃r,t w ρ=some r/\Ok (g r) h λx h'=>(∃r',x=.nx r'/\I (i+1) r' h')\/ ∃v,x=.rt v/\J v h')(hd: ∀ρ h,I l.length ρ h->Ok (k (.nx ρ)) h Q)(hr: ∀v h,J v h->Ok (k (.rt v)) h Q):Ok (bd (Mh G t g l ρ) k) h Q:=
 aI (oF I J l hG hs l 0 ρ h rfl (FY _) h0) λx h' q=>by
  rcases q with⟨r',rfl,i⟩|⟨v,rfl,j⟩
  ·exact hd r' h' i
  ·exact hr v h' j
end
section
noncomputable def Mv (lo:Int):Nat->List V
 |0=>[]
 |n+1=>.int lo::Mv (lo+1) n
theorem mZ: ∀ (n:Nat) (lo:Int),(Mv lo n).length=n
 |0,_=>rfl
 |n+1,lo=>by rw[Mv,FH,mZ n]
theorem mL {K:Zf}: ∀ (n:Nat) (lo:Int),Rvs K o (Mw lo n) (Mv lo n)
 |0,_=>Rvs.nil
 |n+1,lo=>Rvs.cons (OV.mpr rfl) (mL n (lo+1))
theorem ky: ∀ (n:Nat) (lo:Int) (its:List Jx),its.length=n->(∀ (i:Nat) (v:Jx),its[i]?=some v-> ∃t,v=Jx.int (lo+(i:Int)) t)->Vals (Mv lo n) its
 |0,_,[],_,_=>.nil
 |0,_,_::_,h,_=>by cases h
 |n+1,lo,[],h,_=>by cases h
 |n+1,lo,v::its,h,q=>by
  rw[Mv];refine .cons ?_ (ky n (lo+1) its (Hb.inj h) λi u e=>?_)
  ·obtain⟨t,e⟩:=q 0 v rfl;exact⟨t,by rw[e];congr 1;omega⟩
  ·obtain⟨t,e⟩:=q (i+1) u (by rw[HF];exact e);exact⟨t,by rw[e];congr 1;omega⟩
end
section
theorem lN {G:List Ob->Prop}{t:W->La->Option La}{f:La->M Bool}{g:La->M W}{c:Nat}(I:Nat->List W->List Ob->Prop)(l:List W)(hG: ∀i a h,I i a h->G h)
  (hs: ∀i w a h,l[i]?=some w->I i a h-> ∃r,t w (List.replicate c none++ρ)=some r/\Ok (f r) h λb h'=>(b=false/\I (i+1) a h')\/(b=true/\Ok (g r) h' λv h''=>I (i+1) (a++[v]) h'')):
  ∀ (m:List W) (n:Nat) (a:List W) (h:List Ob),l.drop n=m->n<=l.length->I n a h->Ok (LM G t f g c m ρ) h λr h'=>I l.length (a++r) h'
 |[],n,a,h,e,hn,i=>by
  have:l.length<=n:=HJ.mp e;have hn:n=l.length:=∅;subst hn;refine⟨[],h,?_,by show I l.length (a++[]) h;rw[Gd];exact i⟩;unfold LM;rw[dk (hG _ _ _ i)];rfl
 |w::m,n,a,h,e,hn,i=>by
  have hw:l[n]?=some w:=by
   have:=congrArg HK e;rw[HL,HM] at this;exact this
  have hl:n<l.length:=(FO.mp hw).1;have em:l.drop (n+1)=m:=by rw[<-HN,e];rfl
  obtain⟨r,e1,b,h',e2,q⟩:=hs n w a h hw i;rcases q with⟨rfl,i'⟩|⟨rfl,v,h'',e3,i'⟩
  ·obtain⟨y,h2,e3,q⟩:=lN I l hG hs m (n+1) a h' em hl i';refine⟨y,h2,?_,q⟩;unfold LM;rw[dk (hG _ _ _ i),e1];dsimp only;rw[dE e2,if_neg ↥_];exact e3
  ·obtain⟨y,h2,e4,q⟩:=lN I l hG hs m (n+1) (a++[v]) h'' em hl i';refine⟨v::y,h2,?_,by show I l.length (a++v::y) h2;have q:I l.length (a++[v]++y) h2:=q;rw[Gb] at q;exact q⟩;unfold LM;rw[dk (hG _ _ _ i),e1];dsimp only;rw[dE e2,if_pos rfl,dE e3,dE e4];rfl
theorem gZ {β:Type}{G:List Ob->Prop}{t:W->La->Option La}{f:La->M Bool}{g:La->M W}{c:Nat}{k:List W->M β}{Q:β->List Ob->Prop}(I:Nat->List W->List Ob->Prop)(h0:I 0 [] h)(hG: ∀i a h,I i a h->G h)
  (hs: ∀i w a h,l[i]?=some w->I i a h-> ∃r,t w (List.replicate c none++ρ)=some r/\Ok (f r) h λb h'=>(b=false/\I (i+1) a h')\/(b=true/\Ok (g r) h' λv h''=>I (i+1) (a++[v]) h''))(hd: ∀a h,I l.length a h->Ok (k a) h Q):Ok (bd (LM G t f g c l ρ) k) h Q:=
 aI (lN I l hG hs l 0 [] h rfl (FY _) h0) λr h' i=>hd r h' i
section
variable {β:Type}{h:List Ob}{Q:β->List Ob->Prop}{x:W}{l:List W}
theorem Lw.src {k:Sr->M β}(p:Lw h x l)(q:∀G,(∀h',Lw h' x l->G h')->Ok (k ⟨l,G⟩) h Q):Ok (bd (PQ x) k) h Q:=by
 rcases p with rfl|⟨j,rfl,e⟩
 ·show Ok (bd (pr ⟨l,λ_=>True⟩) k) h Q;rw[aA];exact q _ λ_ _=>trivial
 ·refine rj e (q _ λh' r=>?_);rcases r with r|⟨i,r,e'⟩
  ·cases r
  ·cases r;exact e'
theorem Lw.keep (p:Lw h x l)(q:∀i,i<h.length->h'[i]?=h[i]?):Lw h' x l:=by
 rcases p with rfl|⟨j,rfl,e⟩
 ·exact .inl rfl
 ·exact .inr ⟨j,rfl,(q j (dg e)).trans e⟩
end
theorem Lw.len_eq {β:Type}{Q:β->List Ob->Prop}{k:W->M β}{N:Int}(p:Lw h x l)(hN:N=(l.length:Int))(q:Ok (k (.int N)) h Q):Ok (bd (Na [x]) k) h Q:=by
 subst hN;exact p.len q
end
section
noncomputable def Nc:List Str->List W->Str->Option W
 |n::ns,w::ws,f=>if f=n then some w else Nc ns ws f
 |_,_,_=>none
noncomputable def putN:List Str->List W->Str->W->List Str×List W
 |n::ns,w::ws,f,y=>if n=f then (n::ns,y::ws) else (n::(putN ns ws f y).1,w::(putN ns ws f y).2)
 |_,_,f,y=>([f],[y])
section
variable {K:Zf}{o:Wo}
theorem pR {f:Str}{w:W}: ∀ {fs:List (Str×V)}{ns:List Str}{ws:List W},fs.map (·.1)=ns->Rvs K o ws (fs.map (·.2))->Nc ns ws f=some w-> ∃v,fs.lookup f=some v/\Rv K o w v
 |[],_,ws,e,_,h=>by subst e;cases ws<;>cases h
 |(g,x)::fs,_,[],e,r,h=>by subst e;cases h
 |(g,x)::fs,_,y::ws,e,r,h=>by
  subst e;unfold Rvs at r;obtain⟨v,t,e2,r1,r2⟩:=r;cases e2;have h:(if f=g then some y else Nc (fs.map (·.1)) ws f)=some w:=h;by_cases z:f=g
  ·rw[if_pos z] at h;cases h;exact⟨x,by rw[GM,z];simp,r1⟩
  ·rw[if_neg z] at h;obtain⟨v,e3,r3⟩:=pR rfl r2 h;refine⟨v,?_,r3⟩;rw[GM,show (f==g)=false by simpa using z];exact e3
theorem pS {f:Str}: ∀ {fs:List (Str×V)},f ∉ fs.map (·.1)->fs.lookup f=none
 |[],_=>rfl
 |(g,x)::fs,h=>by
  rw[FK,FC,not_or] at h;rw[GM,show (f==g)=false by simpa using h.1];exact pS h.2
theorem sQ {f:Str}(hy:Rv K o y v): ∀ {fs:List (Str×V)}{ns:List Str}{ws:List W},fs.map (·.1)=ns->Rvs K o ws (fs.map (·.2))->(OE f v fs).map (·.1)=(putN ns ws f y).1/\Rvs K o (putN ns ws f y).2 ((OE f v fs).map (·.2))
 |[],_,[],e,r=>by subst e;exact⟨rfl,Rvs.cons hy Rvs.nil⟩
 |[],_,w::ws,e,r=>by unfold Rvs at r;obtain⟨_,_,e2,_⟩:=r;cases e2
 |(g,x)::fs,_,[],e,r=>by unfold Rvs at r;cases r
 |(g,x)::fs,_,w::ws,e,r=>by
  subst e;unfold Rvs at r;obtain⟨u,t,e2,r1,r2⟩:=r;cases e2;show (List.map (·.1) (if g=f then (g,v)::fs else (g,x)::OE f v fs))=(if g=f then (g::fs.map (·.1),y::ws) else (g::(putN (fs.map (·.1)) ws f y).1,w::(putN (fs.map (·.1)) ws f y).2)).1/\Rvs K o (if g=f then (g::fs.map (·.1),y::ws) else (g::(putN (fs.map (·.1)) ws f y).1,w::(putN (fs.map (·.1)) ws f y).2)).2 ((if g=f then (g,v)::fs else (g,x)::OE f v fs).map (·.2));by_cases z:g=f
  ·rw[if_pos z,if_pos z];exact⟨rfl,Rvs.cons hy r2⟩
  ·rw[if_neg z,if_neg z];obtain⟨a,b⟩:=sQ hy (fs:=fs) rfl r2;exact⟨by rw[FK,a],Rvs.cons r1 b⟩
theorem Rel.putI (R:Rel K o){k:Nat}{c:Str}{ns:List Str}{ws:List W}{fs:List (Str×V)}(hk:o.h[k]?=some b)(hb:b≠.gone)(hn:Jv K J6 c=some (some (.ref C)))(h1:fs.map (·.1)=ns)(hl:Rvs K o ws (fs.map (·.2))):Rel K (o.put k (.ins c ns ws) (.ins C dx fs)):=
 R.put hk hb ⟨C,dx,fs,hn,ao,h1,hl.mono R (Ex.put hk hb)⟩
end
section
variable {X:Cx}{E:XK}
noncomputable def Mt (c:Str)(x:W):M (Nat×List Str×List W):=match x with
 |.loc k=>λh=>match h[k]? with
  |some (.ins c' ns ws)=>if c'=c then .ok (k,ns,ws) h else .bad
  |_=>.bad
 |_=>no
theorem oB {α β:Type}{r:Wo->α->β->Prop}{c:Str}{k:Nat×List Str×List W->M α}{Q:β->Hp->Prop}(hn:Jv X.K J6 c=some (some (.ref C)))(R:Rel X.K o)(hr:Rv X.K o x v)(h:Ps (cg X E) r o (bd (Mt c x) k o.h) Q):
  ∃ (j:Nat) (ns:List Str) (ws:List W) (dx:JG) (fs:List (Str×V)),x=.loc j/\j<o.h.length/\o.h[j]?=some (.ins c ns ws)/\v=.ref (o.mu j)/\o.H (o.mu j)=some (.ins C dx fs)/\fs.map (·.1)=ns/\Rvs X.K o ws (fs.map (·.2))/\Ps (cg X E) r o (k (j,ns,ws) o.h) Q:=by
 cases x with
 |loc j=>
  unfold Rv at hr;obtain⟨hj,rfl⟩:=hr;unfold Mt bd at h;cases e:o.h[j]? with
  |none=>simp only[e] at h;exact h.elim
  |some b=>
   cases b with
   |ins c' ns ws=>
    simp only[e] at h;by_cases z:c'=c
    ·subst z;rw[if_pos rfl] at h;obtain⟨C',dx,fs,q1,q2,q3,q4⟩:=R.ob j _ e;rw[hn] at q1;cases q1;exact⟨j,ns,ws,dx,fs,rfl,hj,e,rfl,q2,q3,q4,h⟩
    ·rw[if_neg z] at h;exact h.elim
   |_=>simp only[e] at h;exact h.elim
 |_=>exact h.elim
noncomputable def Md (c f:Str)(x:W):M W:=bd (Mt c x) λt=>match Nc t.2.1 t.2.2 f with
 |some w=>pr w
 |none=>no
noncomputable def OF (c f:Str)(x y:W):M Unit:=bd (Mt c x) λt=>λh=>if t.2.1.length<1000 then .ok () (h.set t.1 (.ins c (putN t.2.1 t.2.2 f y).1 (putN t.2.1 t.2.2 f y).2)) else .bad
variable {c f:Str}{C:JG}{o:Expr}{fo:La->M W}{pos pos':Kb}
theorem CZ (hn:Jv X.K J6 c=some (some (.ref C)))(cl:Cls X.K C)(na:NoAttr X.K C f)(ho:JE X E o fo)(hb:Kv o f X.env (Ka o X.env)=Ka o X.env:=by rfl):JE X E (.Attribute o f pos) (m1 (Md c f) fo):=
 (eV ho.h hb).imp λσ H Q h=>by
  obtain⟨w,ρ,rfl,R,S,h⟩:=h;refine⟨w,ρ,rfl,R,S,Ps.bd h λp x vx e1 R1 r1 h1=>?_⟩;obtain⟨j,ns,ws,dx,fs,rfl,hj,e,rfl,q2,q3,q4,h1⟩:=oB hn R1 r1 h1;cases l:Nc ns ws f with
  |none=>simp only[l] at h1;exact h1.elim
  |some y=>
   simp only[l] at h1;obtain⟨v,lv,rv⟩:=pR q3 q4 l;exact⟨_,C,dx,fs,v,rfl,q2,cl,na,lv,h1.pr R1 rv⟩
noncomputable def O3 (c f:Str)(fo fv:La->M W):La->M Fl:=λρ=>bd (fv ρ) λy=>bd (fo ρ) λx=>bd (OF c f x y) λ_=>pr (.nx ρ)
theorem zq (hn:Jv X.K J6 c=some (some (.ref C)))(R:Rel X.K p)(S:Re X.K p ρ σ)(rx:Rv X.K p x vx)(ry:Rv X.K p y vy)(h:Ps (cg X E) (RFl X.K) p (bd (OF c f x y) (λ_=>pr (.nx ρ)) p.h) (DQ D)):
  ∃a dx fs,vx=.ref a/\p.H a=some (.ins C dx fs)/\fs.length<1000/\D.nx σ (upd p.H a (.ins C dx (OE f vy fs))):=by
 unfold OF at h;rw[aa] at h;obtain⟨j,ns,ws,dx,fs,rfl,hj,e,rfl,q2,q3,q4,h⟩:=oB hn R rx h;have ln:fs.length=ns.length:=by rw[<-q3,Fx]
 by_cases z:ns.length<1000
 ·have h:Ps (cg X E) (RFl X.K) p (.ok (.nx ρ) (p.h.set j (.ins c (putN ns ws f y).1 (putN ns ws f y).2))) (DQ D):=by
   have e2:(bd (λh=>if ns.length<1000 then Rs.ok () (h.set j (.ins c (putN ns ws f y).1 (putN ns ws f y).2)) else .bad) (λ_=>pr (Fl.nx ρ)) p.h)=.ok (.nx ρ) (p.h.set j (.ins c (putN ns ws f y).1 (putN ns ws f y).2)):=by
    unfold bd;simp only[if_pos z];rfl
   rw[<-e2];exact h
  obtain⟨a,b⟩:=sQ ry q3 q4;refine⟨p.mu j,dx,fs,rfl,q2,∅,?_⟩;exact Ps.at (p:=p.put j (.ins c (putN ns ws f y).1 (putN ns ws f y).2) (.ins C dx (OE f vy fs))) (b:=FlV.nx σ) h rfl (Ex.put e ⇑_) (R.putI e ⇑_ hn a b) ⟨σ,rfl,S.mono R (Ex.put e ⇑_)⟩
 ·have e2:(bd (λh=>if ns.length<1000 then Rs.ok () (h.set j (.ins c (putN ns ws f y).1 (putN ns ws f y).2)) else .bad) (λ_=>pr (Fl.nx ρ)) p.h)=.bad:=by
   unfold bd;simp only[if_neg z]
  have h:Ps (cg X E) (RFl X.K) p (bd (λh=>if ns.length<1000 then Rs.ok () (h.set j (.ins c (putN ns ws f y).1 (putN ns ws f y).2)) else .bad) (λ_=>pr (Fl.nx ρ)) p.h) (DQ D):=h;rw[e2] at h;exact h.elim
variable {value:Expr}{fv:La->M W}
theorem Ct (hn:Jv X.K J6 c=some (some (.ref C)))(cl:Cls X.K C)(na:NoAttr X.K C f)(ho:JE X E o fo)(hv:JE X E value fv)(hs:swapsWith value (some (.Attribute o f pos')) pos.line X.env=pure false:=by rfl):JS X E (.Assign [.Attribute o f pos'] value pos) (O3 c f fo fv):=
 (qY ho.h hv.h hs).imp λD σ H h=>by
  obtain⟨w,ρ,rfl,R,S,h⟩:=h;refine⟨w,ρ,rfl,R,S,Ps.bd h λp y vy e1 R1 r1 h1=>⟨p,ρ,rfl,R1,S.mono R e1,Ps.bd h1 λq x vx e2 R2 r2 h2=>?_⟩⟩;obtain⟨a,dx,fs,ex,q1,q2,q3⟩:=zq hn R2 ((S.mono R e1).mono R1 e2) r2 (r1.mono R1 e2) h2;exact⟨a,C,dx,fs,ex,q1,cl,na,q2,q3⟩
structure CGm (P:JB)(w:JC)(K:Zf)(mg:Str->Option Jx)(base:JD)(k:Nat)(C:JG)(m:Str)(f:JG)(fd:Ky)(ps:List Str)(n:Nat)(fn:List W->M W):Prop where
 ok:FnOk P w K mg base CX0 k f fd ps (PJ K mg n fn)
 bi:Binds K fd ps []
 me:Ld K C m f
noncomputable def isI (c m:Str)(x:W):M W:=bd (Mt c x) λt=>if m∈t.2.1 then no else pr x
noncomputable def Nt (c m:Str)(n:Nat)(fn:List W->M W)(fo:La->M W)(l:La->M (List W)):La->M W:=λρ=>bd (fo ρ) λx=>bd (isI c m x) λx=>bd (l ρ) λws=>arW n fn (x::ws)
theorem xY {α β:Type}{r:Wo->α->β->Prop}{m:Str}{k:W->M α}{Q:β->Hp->Prop}(hn:Jv X.K J6 c=some (some (.ref C)))(R:Rel X.K p)(hr:Rv X.K p x v)(h:Ps (cg X E) r p (bd (isI c m x) k p.h) Q):
  ∃a dx fs,v=.ref a/\p.H a=some (.ins C dx fs)/\fs.lookup m=none/\Ps (cg X E) r p (k x p.h) Q:=by
 unfold isI at h;rw[aa] at h;obtain⟨j,ns,ws,dx,fs,rfl,hj,e,rfl,q2,q3,q4,h⟩:=oB hn R hr h;by_cases z:m∈ns
 ·simp only[if_pos z] at h;exact h.elim
 ·simp only[if_neg z,aA] at h;exact⟨_,dx,fs,rfl,q2,pS (by rw[q3];exact z),h⟩
end
section
variable {X:Cx}{c m:Str}{C fA:JG}{fd:Ky}{ps:List Str}{k n:Nat}{fn:List W->M W}{o e:Expr}{es:List Expr}{fo:La->M W}{l:La->M (List W)}{pos apos p:Kb}
theorem CQ (hn:Jv X.K J6 c=some (some (.ref C)))(cl:Cls X.K C)(F:CGm X.prog X.w X.K X.mg X.base k C m fA fd ps n fn)(hr:Room k X.A)(ho:JE X E0 o fo)(ha:JA X E0 (e::es) l)
  (hst:Kd (e::es) X.env=(false,Ka e X.env)::Kd es X.env:=by rfl)(hpl:(Kc pos (Kd es X.env)).any (·.1)=false:=by rfl)
  (ht:Ka (.Call (.Attribute o m apos) (e::es) [] pos) X.env=(do
   let ov<-Ka o X.env
   Ki apos.atName
   let (f,first)<-Kj [ov] (Ku ov m pl)
   callWith pos f first (Kc pos (Kd (e::es) X.env)) (Kw pos (Kx [] X.env))):=by rfl):
  JE X E0 (.Call (.Attribute o m apos) (e::es) [] pos) (Nt c m n fn fo l):=(f6 ho.h cl F.me F.ok hr F.bi .nil Oq ha.h hst hpl ht).imp λσ H Q h=>by
 obtain⟨w,ρ,rfl,R,S,h⟩:=h;refine⟨w,ρ,rfl,R,S,Ps.bd h λp x vx e1 R1 r1 h1=>?_⟩;obtain⟨a,dx,fs,rfl,q1,q2,h1⟩:=xY hn R1 r1 h1;refine⟨a,dx,fs,rfl,q1,q2,p,ρ,rfl,R1,S.mono R e1,Ps.bd h1 λq ws vs e2 R2 r2 h2=>?_⟩;unfold arW at h2;by_cases z:(x::ws).length=n
 ·rw[if_pos z] at h2;exact⟨q,x::ws,rfl,z,R2,by rw[Gd];exact Rvs.cons (r1.mono R1 e2) r2,h2⟩
 ·rw[if_neg z] at h2;exact h2.elim
noncomputable def Nr (c:Str)(n:Nat)(fn:List W->M W)(l:La->M (List W)):La->M W:=λρ=>bd (l ρ) λws=>λh=>match arW n fn (.loc h.length::ws) (h++[.ins c [] []]) with
 |.ok .non h'=>.ok (.loc h.length) h'
 |_=>.bad
theorem Rv.addLocI {K:Zf}{o:Wo}{q:JG}{b:Ob}{u:HO}:Rv K (o.add q b u) (.loc o.h.length) (.ref q):=by
 unfold Rv;refine⟨by show _<(o.h++[b]).length;simp,?_⟩;show V.ref q=V.ref (if o.h.length=o.h.length then q else o.mu o.h.length);rw[if_pos rfl]
end
end
end L2
namespace PySem
open Sem (wp)
end PySem
namespace L2
open PySem PySem.Spec PyProof.Rows
section
section
variable {f:La->M W}
end
end
end L2
namespace L2
open PySem
section
variable {β:Type}{h:List Ob}{Q:β->List Ob->Prop}{d:Nat}
theorem og {c:Str}{ns:List Str}{ws:List W}(e:h[d]?=some (.ins c ns ws)):Mt c (.loc d) h=.ok (d,ns,ws) h:=by
 unfold Mt;simp only[e,if_true]
theorem cq {c f:Str}{ns:List Str}{ws:List W}{w:W}{k:W->M β}(e:h[d]?=some (.ins c ns ws))(e2:Nc ns ws f=some w)(q:Ok (k w) h Q):Ok (bd (Md c f (.loc d)) k) h Q:=by
 refine aR (a:=w) (h':=h) ?_ q;unfold Md;rw[dE (og e)];simp only[e2];rfl
theorem w9 {c f:Str}{ns ns':List Str}{ws ws':List W}{k:Unit->M β}(e:h[d]?=some (.ins c ns ws))(z:ns.length<1000)(e2:putN ns ws f y=(ns',ws'))(q:Ok (k ()) (h.set d (.ins c ns' ws')) Q):Ok (bd (OF c f (.loc d) y) k) h Q:=by
 refine aR (a:=()) (h':=h.set d (.ins c ns' ws')) ?_ q;unfold OF;rw[dE (og e)];simp only[if_pos z,e2]
theorem dH {c m:Str}{ns:List Str}{ws:List W}{k:W->M β}(e:h[d]?=some (.ins c ns ws))(z:m ∉ ns)(q:Ok (k (.loc d)) h Q):Ok (bd (isI c m (.loc d)) k) h Q:=by
 refine aR (a:=.loc d) (h':=h) ?_ q;unfold isI;rw[dE (og e)];simp only[if_neg z];rfl
theorem zE {c:Str}{n:Nat}{fn:List W->M W}{ws:List W}{P:List Ob->Prop}{k:W->M β}(hn:ws.length+1=n)(p:Ok (fn (.loc h.length::ws)) (h++[.ins c [] []]) λw h'=>w=.non/\P h')(q:∀h',P h'->Ok (k (.loc h.length)) h' Q):
  Ok (bd (λh=>match arW n fn (.loc h.length::ws) (h++[.ins c [] []]) with
 |.ok .non h'=>.ok (.loc h.length) h'
 |_=>.bad) k) h Q:=by
 obtain⟨w,h',e,rfl,hp⟩:=p;refine aR (a:=.loc h.length) (h':=h') ?_ (q h' hp);have:arW n fn (.loc h.length::ws)=fn (.loc h.length::ws):=yR hn;simp only[this,e]
theorem xc {k:List W->M β}(L:Lw h x l)(q:Ok (k l) h Q):Ok (bd (Nk x) k) h Q:=aR L.of q
end
noncomputable def ctS (g:La->M Fl):Fl->M Fl:=λx=>match x with
 |.nx r=>g r
 |x=>pr x
noncomputable def ctI (f g:La->M Fl)(ρ:La):Bool->M Fl:=λb=>if b=true then f ρ else g ρ
theorem aC (f g:La->M Fl)(ρ:La):O9 f g ρ=bd (f ρ) (ctS g):=by unfold O9;rfl
theorem ba (g:La->M Fl)(r:La):ctS g (.nx r)=g r:=by unfold ctS;rfl
theorem aZ (g:La->M Fl)(w:W):ctS g (.rt w)=pr (.rt w):=by unfold ctS;rfl
theorem aX (t:La->M Bool)(f g:La->M Fl)(ρ:La):sIf t f g ρ=bd (t ρ) (ctI f g ρ):=by unfold sIf;rfl
theorem bM (f g:La->M Fl)(ρ:La):ctI f g ρ true=f ρ:=by unfold ctI;rw[if_pos rfl]
theorem bN (f g:La->M Fl)(ρ:La):ctI f g ρ false=g ρ:=by unfold ctI;rw[if_neg FU]
end L2
namespace L2
open PySem PySem.Spec PyProof.Rows
section
variable {X:Cx}{E:XK}{o e f:Expr}{es:List Expr}{pos apos cpos:Kb}{l:La->M (List W)}{fo fe ff:La->M W}
noncomputable def ktW (ws:List W):M W:=match Om MY ws with
 |some ks=>gd (ws.length<=sizeLine) (pr (.kt ks))
 |none=>no
noncomputable def mKt (l:La->M (List W)):La->M W:=λρ=>bd (l ρ) ktW
theorem ox {K:Zf}{o:Wo}: ∀ {ws:List W}{vs:List V}{ks:List Key},Om MY ws=some ks->Rvs K o ws vs->vs=ks.map kV
 |[],vs,ks,e,r=>by unfold Rvs at r;cases e;exact r
 |w::ws,vs,ks,e,r=>by
  unfold Rvs at r;obtain⟨v,r',rfl,h1,h2⟩:=r;unfold Om at e;split at e
  ·rename_i b c e1 e2;cases e;rw[jm e1 h1,ox e2 h2];rfl
  ·cases e
theorem Ez {x1}(h:JA X E es l):JE X E (.Tuple es x1 pos) (mKt l):=(jE h.h).imp λσ H Q h=>by
 ac_nf;unfold ktW at h1;cases ek:Om MY x with
 |none=>rw[ek] at h1;exact h1.elim
 |some ks=>
  rw[ek] at h1;obtain⟨hz,h1⟩:=h1.gd;refine⟨by rw[r1.len];exact hz,λq hq=>Ps.at (p:=⟨p.mu,p.h,upd p.H q (.tup vx)⟩) h1 rfl (Ex.new hq) (R1.new hq) ?_⟩;unfold Rv;exact⟨q,rfl,by rw[<-ox ek r1];exact ao⟩
noncomputable def oq:La->M W:=λ_ h=>.ok (.loc h.length) (h++[.dit [] []])
theorem xF:JE X E (.Dict [] [] pos) oq:=Ot.imp λσ H Q h=>by
 obtain⟨o,ρ,rfl,R,S,h⟩:=h;intro q hq;exact Ps.at (p:=o.add q (.dit [] []) (.dT [])) h rfl (Ex.add hq) (R.addT hq rfl Rvs.nil) Rv.addLoc
noncomputable def LV (w:W)(h:List Ob):Option (List (List Key)×List W):=match w with
 |.loc k=>match h[k]? with
  |some (.dit ks ws)=>some (ks,ws)
  |_=>none
 |_=>none
theorem p8 {o:Wo}{w:W}{v:V}{ks:List (List Key)}{ws:List W}(R:Rel X.K o)(e:LV w o.h=some (ks,ws))(h:Rv X.K o w v): ∃a kvs,v=.ref a/\Rd o.H a (.dT kvs)/\kvs.map (·.1)=ks/\Rvs X.K o ws (kvs.map (·.2)):=by
 cases w with
 |loc k=>
  unfold LV at e;dsimp only at e;split at e
  ·rename_i a b hk;cases e;unfold Rv at h;obtain⟨kvs,h1,h2,h3⟩:=R.ob k _ hk;exact⟨_,kvs,h.2,.inl h1,h2,h3⟩
  ·cases e
 |_=>cases e
noncomputable def MZ:W->Option (List Key)
 |.kt ks=>some ks
 |.tup l=>Om MY l
 |_=>none
theorem Aq {K:Zf}{o:Wo}{x:W}{v:V}{k:List Key}(e:MZ x=some k)(h:Rv K o x v): ∃b,v=.ref b/\SqT K o.H b (k.map kV):=by
 cases x with
 |kt ks=>cases e;unfold Rv at h;obtain⟨a,e,h⟩:=h;exact⟨a,e,.of h⟩
 |tup l=>
  unfold Rv at h;obtain⟨a,vs,e1,s,r⟩:=h;exact⟨a,e1,by rw[<-ox (show Om MY l=some k from e) r];exact s⟩
 |_=>cases e
theorem Ao (I:Inv X pins σ H s)(h:SqT X.K H b (k.map kV)):(J5 (bX X.prog X.w)).is s.heap k b:=by
 obtain⟨its,r,⟨o,h1,h2,n,h3⟩,_⟩:=I.tuple h;exact⟨o,its.toArray,n,h1,h2,h3,by simpa using jK r⟩
theorem AF {Ex:Jx->JJ->Prop}{Q:Jx->JJ->Prop}(hu:A.units+1<JM)(I:Inv X pins σ H s)(e:Rd H a (.dT kvs))(eb:SqT X.K H b (k.map kV))(rd:RelV d r)(h:∀w' s',Inv X pins σ H s'->RelV ((Qk kvs k).getD d) w'->Q w' s'):
  JN (JP X.prog X.w) A (call (.builtin "dict.get") [.ref a,.ref b,r]) Q Ex s:=by
 obtain⟨z,hd,xs,rel,dd⟩:=lJ I.hok e;refine call_meetsIn PySem.F.slot_dict_get dd.typeIs PySem.F.entry_dict_get (PySem.F.args_dict_get_3 _ _ _) (meetsH_dict_get_default (J5 (bX X.prog X.w)) a b hd r) ⟨KL hu,k,xs,Ao I eb,dd,h _ _ (I.tok _) ?_⟩;exact (rel.val k).getD rd
noncomputable def Bn (K:Zf)(td ty tx:TE):TE:=λσ H Q=>td σ H λx H1=> ∃a,x=.ref a/\IsD H1 a/\ty σ H1 λy H2=>tx σ H2 λz H3=> ∃kvs k b,Rd H3 a (.dT kvs)/\y=.ref b/\SqT K H3 b (k.map kV)/\Q ((Qk kvs k).getD z) H3
theorem wM {td ty tx:TE}(hu:X.A.units+1<JM)(ho:PE X o td)(he:PE X e ty)(hf:PE X f tx)(m:M2 X o "get" apos e f cpos):PE X (.Call (.Attribute o "get" apos) [e,f] [] cpos) (Bn X.K td ty tx):=by
 intro pins s σ H Q I h;refine wpAny_Call_method m.base m.few m.line PySem.F.plainAttrs_dict PySem.F.slot_dict_get PySem.F.type_dict_get (thn (ho pins s σ H _ I h) λu s1 qz=>?_);obtain⟨x,H1,I1,rx,a,ex,d,q1⟩:=qz;subst ex;obtain rfl:u=Jx.ref a:=rx;obtain⟨t1,t2,_⟩:=Dh I1 d;refine⟨t1,t2,?_⟩;rw[m.trees]
 refine Calls.callWith_builtin rfl (Calls.evalArgs_plain (Calls.spliced_cons (thn (he pins s1 σ H1 _ I1 q1) λiv s2 ⟨y,H2,I2,ry,q2⟩=>
  Calls.spliced_cons (thn (hf pins s2 σ H2 _ I2 q2) λfv s3 ⟨z,H3,I3,rz,kvs,k,b,e3,ey,eb,q3⟩=>Calls.spliced_nil ?_))))
 subst ey;obtain rfl:iv=Jx.ref b:=ry;exact AF hu I3 e3 eb rz λw' s4 I4 rw'=>⟨_,H3,I4,rw',q3⟩
noncomputable def My (x:W):M W:=λh=>match LV x h with
 |some _=>.ok x h
 |none=>.bad
noncomputable def Ml (x y d:W):M W:=λh=>match LV x h with
 |some (ks,ws)=>match MZ y with
  |some k=>.ok ((atK ks ws k).getD d) h
  |none=>.bad
 |none=>.bad
noncomputable def Nq (fo fe ff:La->M W):La->M W:=λρ=>bd (fo ρ) λx=>bd (My x) λx=>bd (fe ρ) λy=>bd (ff ρ) λd=>Ml x y d
theorem Ae (hu:X.A.units+1<JM)(ho:JE X E o fo)(he:JE X E e fe)(hf:JE X E f ff)(m:M2 X o "get" apos e f cpos):JE X E (.Call (.Attribute o "get" apos) [e,f] [] cpos) (Nq fo fe ff):=
 (wM hu ho.h he.h hf.h m).imp λσ H Q h=>by
  obtain⟨w,ρ,rfl,R,S,h⟩:=h;refine⟨w,ρ,rfl,R,S,Ps.bd h λp x vx e1 R1 r1 h1=>?_⟩;unfold bd My at h1;cases ed:LV x p.h with
  |none=>rw[ed] at h1;exact h1.elim
  |some kw=>
   obtain⟨ks0,ws0⟩:=kw;rw[ed] at h1;obtain⟨a,kvs0,rfl,d1,_,_⟩:=p8 R1 ed r1;refine⟨a,rfl,.inr ⟨kvs0,d1⟩,p,ρ,rfl,R1,S.mono R e1,Ps.bd (h:=h1) λq y vy e2 R2 r2 h2=>⟨q,ρ,rfl,R2,(S.mono R e1).mono R1 e2,Ps.bd h2 λs z vz e3 R3 r3 h3=>?_⟩⟩;have rx:=(r1.mono R1 e2).mono R2 e3;have ry:=r2.mono R2 e3;unfold Ml at h3;cases eh:LV x s.h with
   |none=>rw[eh] at h3;exact h3.elim
   |some kw=>
    obtain⟨ks,ws⟩:=kw;rw[eh] at h3;cases ek:MZ y with
    |none=>simp only[ek] at h3;exact h3.elim
    |some k=>
     simp only[ek] at h3;obtain⟨a',kvs,ea,g1,g2,g3⟩:=p8 R3 eh rx;cases ea;obtain⟨b,rfl,sb⟩:=Aq ek ry;refine⟨kvs,k,b,g1,rfl,sb,?_⟩;have hv:=iD (x:=k) g2 g3;cases e4:atK ks ws k with
     |none=>
      rw[e4] at hv h3;rw[show Qk kvs k=none from hv];exact Ps.pr (c:=cg X E) (r:=Rv X.K) (a:=z) h3 R3 r3
     |some w=>
      rw[e4] at hv h3;obtain⟨v,hv,rv⟩:=hv;rw[show Qk kvs k=some v from hv];exact Ps.pr (c:=cg X E) (r:=Rv X.K) (a:=w) h3 R3 rv
end
section
open Sem (wp)
open Builtin
noncomputable def F0 (f:Jx):Prop:=f=.none\/ ∃T:Nat,f=Kq T
end
section
noncomputable abbrev KN:List (PKy×JG×V)->List (PKy×JG×Jx)->Prop:=Paired λp q=>p.1=q.1/\p.2.1=q.2.1/\RelV p.2.2 q.2.2
noncomputable def kvN (xs:List (PKy×JG×V)):List (PKy×V):=xs.map λx=>(x.1,x.2.2)
noncomputable def OH (xs:List (PKy×JG×V))(k:PKy)(c:JG)(v:V):List (PKy×JG×V):=
 if (xs.any λx=>decide (x.1=k))=true then xs.map (λx=>if x.1=k then (x.1,x.2.1,v) else x) else xs++[(k,c,v)]
theorem tE (xs:List (PKy×JG×V))(k:PKy):((kvN xs).any λkv=>decide (kv.1=k))=(xs.any λx=>decide (x.1=k)):=by unfold kvN;rw[HH];rfl
theorem tD (xs:List (PKy×JG×V))(k:PKy)(c:JG)(v:V):kvN (OH xs k c v)=OG (kvN xs) k v:=by
 unfold OH OG;rw[tE];by_cases z:(xs.any λx=>decide (x.1=k))=true
 ·rw[if_pos z,if_pos z];unfold kvN;rw[Gg,Gg];refine GV λx _=>?_;show ((if x.1=k then (x.1,x.2.1,v) else x).1,(if x.1=k then (x.1,x.2.1,v) else x).2.2)=if x.1=k then (x.1,v) else (x.1,x.2.2)
  split<;>rfl
 ·rw[if_neg z,if_neg z];unfold kvN;rw[Fz];rfl
theorem KN.val (r:KN xs ys)(k:PKy):RelO (Qk (kvN xs) k) ((KJ ys k).map (·.2)):=by
 induction r with
 |nil=>exact True.intro
 | @cons p q ps qs h t ih=>
   obtain⟨h1,_,h2⟩:=h;show RelO (Qk ((p.1,p.2.2)::kvN ps) k) _;by_cases e:p.1=k
   ·have e':q.1=k:=h1.symm.trans e;have b:KJ (q::qs) k=some q.2:=by simp [KJ,GU,e']
    rw[iY (show (p.1,p.2.2).1=k from e),b];exact h2
   ·have e': ¬q.1=k:=λz=>e (h1.trans z);have b:KJ (q::qs) k=KJ qs k:=by simp [KJ,GU,e']
    rw[iZ (show¬(p.1,p.2.2).1=k from e),b];exact ih
theorem KN.repl (r:KN xs ys)(k:PKy)(ry:RelV y u):
  KN (xs.map λx=>if x.1=k then (x.1,x.2.1,y) else x) (ys.map (putAt k u)):=by
 induction r with
 |nil=>exact .nil
 | @cons p q ps qs h t ih=>
   rw[FK,FK];refine .cons ?_ ih;obtain⟨h1,h2,h3⟩:=h;unfold putAt;by_cases e:p.1=k
   ·rw[if_pos e,if_pos (h1.symm.trans e)];exact⟨h1,h2,ry⟩
   ·rw[if_neg e,if_neg (λz=>e (h1.trans z))];exact⟨h1,h2,h3⟩
theorem KN.put (r:KN xs ys)(k:PKy)(ry:RelV y u):KN (OH xs k b y) (storedH ys k b u):=by
 have e:(xs.any λx=>decide (x.1=k))=(KJ ys k).isSome:=by
  rw[<-tE,kz,(r.val k).isSome_eq,GJ]
 unfold OH storedH;rw[e];by_cases q:(KJ ys k).isSome=true
 ·rw[if_pos q,if_pos q];exact r.repl k ry
 ·rw[if_neg q,if_neg q];exact Paired.snoc r ⟨rfl,rfl,ry⟩
theorem ux (h:x∈OH xs k c v):(∃y∈xs,y.1=x.1/\y.2.1=x.2.1)\/(x.1=k/\x.2.1=c):=by
 unfold OH at h;split at h
 ·obtain⟨y,hy,rfl⟩:=FW.mp h;refine .inl ⟨y,hy,?_⟩;split<;>exact⟨rfl,rfl⟩
 ·rcases Gw.mp h with h|h
  ·exact .inl ⟨x,h,rfl,rfl⟩
  ·rw[FZ.mp h];exact .inr ⟨rfl,rfl⟩
section
variable {X:Cx}{pins:List (JG×JK)}{σ:St}{H:Hp}{s:JJ}{a c:JG}{b:Bool}{k:PKy}{xs:List (PKy×JG×V)}{A:JL}{Ex:Jx->JJ->Prop}
theorem lA: ∀ {ks:List Int}{us:List Jx},Vals (ks.map V.int) us->ItemsAre (JH X.prog X.w) ks us
 |[],_,r=>by rw[Ge] at r;cases r;exact .nil
 |k::ks,_,r=>by
  rw[FK] at r;cases r with
  |cons h t=>
   obtain⟨tk,e⟩:=(show∃t,_=Jx.int k t from h)
   subst e;exact .cons (by simp [JH,Jx.isInt]) (lA t)
theorem f9 (I:Inv X pins σ H s)(h:KeyN X.K H b c k):IsPk X.prog X.w b s.heap k c:=by
 obtain⟨d,h1,h2⟩:=h;obtain⟨its2,r2,⟨o2,g1,g2,n2,g3⟩,_⟩:=I.tuple h2;obtain⟨its,r,⟨o,q1,q2,n,q3⟩,_⟩:=I.tuple h1;have kd:IsTupleKey (JH X.prog X.w) s.heap k.2 d:=⟨o2,its2.toArray,n2,g1,g2,g3,by simpa using lA r2⟩
 cases b with
 |false=>
  obtain⟨u,v,rfl,ru,rv⟩:=r.two;cases rv;obtain⟨t,e⟩:=(show∃t,u=Jx.int k.1 t from ru)
  subst e;exact⟨o,_,n,d,_,q1,q2,q3,kd,by simp [Jx.isInt],rfl⟩
 |true=>
  obtain⟨u,v,rfl,ru,rv⟩:=r.two;cases ru;obtain⟨t,e⟩:=(show∃t,v=Jx.int k.1 t from rv)
  subst e;exact⟨o,_,n,d,_,q1,q2,q3,kd,by simp [Jx.isInt],rfl⟩
theorem nj (I:Inv X pins σ H s){ep:Nat}(e:H a=some (.dN b xs ep))(hk: ∀x∈xs,KeyN X.K H b x.2.1 x.1):xs.length<=sizeLine/\(a==J4)=false/\ ∃ys,KN xs ys/\s.heap.DictOfH (kN X.prog X.w b) a ys:=by
 obtain⟨z,y,ys,r,o,es,h1,h2,h3,h4,h5⟩:=(show ObjOk X.prog X.w H s.heap a (.dN b xs ep) from I.hok a _ e)
 refine⟨z,y,ys,r,o,es,ep,h1,h2,h3,h4,?_,h5⟩;clear h4 h5 e
 induction r with
 |nil=>intro x hx;exact nomatch hx
 | @cons p q ps qs hq t ih=>
   intro x hx;rcases FC.mp hx with e|hx
   ·subst e;have:=f9 I (hk p FI);rw[<-hq.1,<-hq.2.1];exact this
   ·exact ih (λx hx=>hk x (FV _ hx)) (by rw[FH] at z;omega) x hx
theorem uN {Q:Jx->JJ->Prop}(hu:A.units+2<JM)(I:Inv X pins σ H s){ep:Nat}(e:H a=some (.dN b xs ep))(hk: ∀x∈xs,KeyN X.K H b x.2.1 x.1)(hc:KeyN X.K H b c k)(l:Qk (kvN xs) k=some v)(h:∀w' s',Inv X pins σ H s'->RelV v w'->Q w' s'):
  JN (JP X.prog X.w) A (getItem (.ref a) (.ref c)) Q Ex s:=by
 obtain⟨z,hd,ys,rel,dd⟩:=nj I e hk;obtain⟨w',hw,rw'⟩:=RelO.some_of (v:=v) (o:=(KJ ys k).map (·.2)) (by rw[<-l];exact rel.val k);obtain⟨p,hp,hp2⟩:=FQ.mp hw;refine wpAny_getItem_heap (knd:=kN X.prog X.w b) hu (f9 I hc) dd hp ?_;rw[hp2];exact h w' _ (I.tok _) rw'
theorem uM {Q:Unit->JJ->Prop}(hu:A.units+2<JM)(I:Inv X pins σ H s){ep:Nat}(e:H a=some (.dN b xs ep))(hk: ∀x∈xs,KeyN X.K H b x.2.1 x.1)(hc:KeyN X.K H b c k)(l:xs.length<sizeLine)(rv:RelV v r)(h:∀s' ep',Inv X pins σ (upd H a (.dN b (OH xs k c v) ep')) s'->Q () s'):
  JN (JP X.prog X.w) A (setItem (.ref a) (.ref c) r) Q Ex s:=by
 obtain⟨z,hd,ys,rel,dd⟩:=nj I e hk;have hz:ys.length<=sizeLine:=by rw[<-Paired.length rel];exact z
 have hl:(OH xs k c v).length<=sizeLine:=by
  have:=hW (kvN xs) k v;rw[<-tD xs k c v] at this;unfold kvN at this;rw[Fx,Fx] at this;omega
 refine wpAny_setItem_heap (hsz:=hz) (knd:=kN X.prog X.w b) hu (f9 I hc) dd λh' dd' hs=>?_;obtain⟨q,es,ep2,hq,h2,h3,h4,_,h5⟩:=dd';refine h _ ep2 ?_;exact oJ I (by rw[e];exact True.intro) hs ⟨q,hq⟩ ⟨hl,hd,_,rel.put k rv,q,es,hq,h2,h3,h4,h5⟩
end
section
variable {X:Cx}{E:XK}{a b:Expr}{pos:Kb}{fa fb fv:La->M W}
noncomputable def LU (w:W)(h:List Ob):Option (Bool×List PKy×List W):=match w with
 |.loc k=>match h[k]? with
  |some (.din b ks ws)=>some (b,ks,ws)
  |_=>none
 |.dn b ks ws=>some (b,ks,ws)
 |_=>none
theorem lK {w:W}{b:Bool}{ws:List W}(R:Rel X.K o)(e:LU w o.h=some (b,ks,ws))(h:Rv X.K o w v): ∃a xs ep,v=.ref a/\o.H a=some (.dN b xs ep)/\xs.map (·.1)=ks/\(∀x∈xs,KeyN X.K o.H b x.2.1 x.1)/\Rvs X.K o ws (xs.map (·.2.2)):=by
 cases w with
 |loc k=>
  unfold LU at e;dsimp only at e;split at e
  ·rename_i b' ks' ws' hk;cases e;unfold Rv at h;obtain⟨xs,h1,h2,h3,h4⟩:=R.ob k _ hk;exact⟨_,xs.1,xs.2,h.2,h1,h2,h3,h4⟩
  ·cases e
 |dn b' ks' ws'=>
  unfold LU at e;cases e;unfold Rv at h;obtain⟨a,xs,e,h1,_,h2,h3,h4⟩:=h;exact⟨a,xs.1,xs.2,e,h1,h2,h3,h4⟩
 |_=>cases e
noncomputable def MW (b:Bool)(w:W):Option PKy:=match b,w with
 |false,.tup [.int i,.tup l]=>(Om iOf l).map λns=>(i,ns)
 |true,.tup [.tup l,.int i]=>(Om iOf l).map λns=>(i,ns)
 |_,_=>none
theorem jo {b:Bool}{w:W}(e:MW b w=some k)(h:Rv X.K o w v): ∃c,v=.ref c/\KeyN X.K o.H b c k:=by
 unfold MW at e;split at e
 ·rename_i i l;obtain⟨ns,e1,rfl⟩:=FQ.mp e;unfold Rv at h;obtain⟨c,vs,rfl,s,r⟩:=h;obtain⟨u,v,rfl,ru,rv⟩:=r.two;unfold Rv at rv;obtain⟨d,us,rfl,s2,r2⟩:=rv;have eu:=OV.mp ru;subst eu;have e2:us=ns.map V.int:=cY jM e1 r2;subst e2;exact⟨c,rfl,d,s,s2⟩
 ·rename_i l i;obtain⟨ns,e1,rfl⟩:=FQ.mp e;unfold Rv at h;obtain⟨c,vs,rfl,s,r⟩:=h;obtain⟨u,v,rfl,ru,rv⟩:=r.two;unfold Rv at ru;obtain⟨d,us,rfl,s2,r2⟩:=ru;have eu:=OV.mp rv;subst eu;have e2:us=ns.map V.int:=cY jM e1 r2;subst e2;exact⟨c,rfl,d,s,s2⟩
 ·cases e
noncomputable def Bm (b:Bool):TE:=λ_ H Q=> ∀p,H p=none->Q (.ref p) (upd H p (.dN b [] 0))
theorem yu {w:JC}(b:Bool)(h:JD)(hb:J4<h.objs.size):ObjOk P w H (h.push {cls:=.type "dict",data:=.dict #[]}) h.objs.size (.dN b [] 0):=
 ⟨FY _,beq_eq_false_iff_ne.mpr (Ne.symm (F5 hb)),[],.nil,_,#[],FX _ rfl,⟨rfl,rfl,rfl⟩,rfl,rfl,HD⟩
theorem wL (b:Bool):PE X (.Dict [] [] pos) (Bm b):=λpins s σ H Q I h=>
 wpAny_Dict_empty ⟨.ref ↥s,_,I.laid (a:=↥s) (o:=.dN b [] 0) (t':=s.toks) (λ_ _ q=>FD _ q) (Fy _) (yu b s.heap I.big),rfl,h _ (I.hok.fresh (Fy _))⟩
noncomputable def iR (b:Bool):La->M W:=λ_ h=>.ok (.loc h.length) (h++[.din b [] []])
theorem xG (b:Bool):JE X E (.Dict [] [] pos) (iR b):=(wL b).imp λσ H Q h=>by
 obtain⟨o,ρ,rfl,R,S,h⟩:=h;intro q hq;exact Ps.at (p:=o.add q (.din b [] []) (.dN b [] 0)) h rfl (Ex.add hq) (R.add hq ⟨([],0),ao,rfl,λ_ hx=>absurd hx Ga,Rvs.nil⟩) Rv.addLoc
noncomputable def rIxN (K:Zf):R2:=λx y H Q=> ∃a b xs ep c k v,x=.ref a/\y=.ref c/\H a=some (.dN b xs ep)/\(∀x∈xs,KeyN K H b x.2.1 x.1)/\KeyN K H b c k/\Qk (kvN xs) k=some v/\Q v H
theorem Ft (hu:X.A.units+2<JM):IxR X (rIxN X.K):=by
 intro value slice pins s σ H x y v u Q I rx ry h hs;obtain⟨a,b,xs,ep,c,k,z,rfl,rfl,e,hk,hc,l,q⟩:=h;cases rx;cases ry;obtain⟨_,_,ys,_,dd⟩:=nj I e hk;exact tail_any dd.typeIs PySem.F.slot_dict_getitem.lookup (uN hu I e hk hc l λw' s3 I3 rw'=>⟨z,H,I3,rw',q⟩) hs
noncomputable def MI (x y:W):M W:=λh=>match LU x h with
 |some (b,ks,ws)=>match MW b y with
  |some k=>match atK ks ws k with
   |some w=>.ok w h
   |none=>.bad
  |none=>.bad
 |none=>.bad
theorem zy:OpM X E (rIxN X.K) MI:=by
 intro o x y vx vy Q R rx ry h;unfold MI at h;cases e1:LU x o.h with
 |none=>rw[e1] at h;exact h.elim
 |some t=>
  obtain⟨b,ks,ws⟩:=t;rw[e1] at h;cases e2:MW b y with
  |none=>simp only[e2] at h;exact h.elim
  |some k=>
   simp only[e2] at h;cases e3:atK ks ws k with
   |none=>simp only[e3] at h;exact h.elim
   |some w=>
    simp only[e3] at h;obtain⟨a,xs,ep,rfl,g1,g2,g3,g4⟩:=lK R e1 rx;obtain⟨c,rfl,hc⟩:=jo e2 ry;have hv:=iD (x:=k) (kvs:=kvN xs) (ks:=ks) (ws:=ws) (by unfold kvN;rw[Gg];exact g2) (by unfold kvN;rw[Gg];exact g4);rw[e3] at hv;obtain⟨v,hv,rv⟩:=hv;exact⟨a,b,xs,ep,c,k,v,rfl,rfl,g1,g3,hc,hv,Ps.pr (c:=cg X E) (r:=Rv X.K) (a:=w) h R rv⟩
theorem CV (hu:X.A.units+64<JM)(ha:JE X E a fa)(hb:JE X E b fb)(hs:kq b):JE X E (.Subscript a b pos) (m2 MI fa fb):=
 (pE (Ft (Gm (Ip (by decide:2<=64) _) hu)) ha.h hb.h hs).imp λ_ _ _ h=>vR zy h
noncomputable def rSetN (K:Zf):Lm:=λo i v H Q=> ∃a b xs ep c k,o=.ref a/\i=.ref c/\H a=some (.dN b xs ep)/\(∀x∈xs,KeyN K H b x.2.1 x.1)/\KeyN K H b c k/\xs.length<sizeLine/\ ∀ep',Q (upd H a (.dN b (OH xs k c v) ep'))
theorem DW (hu:X.A.units+2<JM):PSet X (rSetN X.K):=by
 intro pins s σ H o i v ov iv u Q I ro ri rv h;obtain⟨a,b,xs,ep,c,k,rfl,rfl,e,hk,hc,l,q⟩:=h;cases ro;cases ri;exact uM hu I e hk hc l rv λs4 ep' I4=>⟨_,I4,q ep'⟩
noncomputable def nG (x i v:W):M Unit:=match x with
 |.loc j=>λh=>match h[j]? with
  |some (.din b ks ws)=>match MW b i with
   |some k=>if ks.length<sizeLine then .ok () (h.set j (.din b (OI ks ws k v).1 (OI ks ws k v).2)) else .bad
   |none=>.bad
  |_=>.bad
 |_=>no
noncomputable def dM (fo fi fv:La->M W):La->M Fl:=λρ=>bd (fv ρ) λv=>bd (fo ρ) λx=>bd (fi ρ) λi=>bd (nG x i v) λ_=>pr (.nx ρ)
theorem uP {fo fi:La->M W}(hu:X.A.units+64<JM)(ho:JE X E o fo)(hi:JE X E i fi)(hv:JE X E value fv)
  (ha: ∀v,assign (.Subscript o i tpos) X.env v=(do
   let ov<-Kj [v] (Ka o X.env);let iv<-Kj [v,ov] (Ka i X.env)
   Ki tpos
   Kj [v,ov,iv] (setItem ov iv v)
   release [v,ov,iv] []))
  (hs:swapsWithSole [.Subscript o i tpos] value pos.line X.env=pure false)(hw:swappedStores [.Subscript o i tpos] value X.env=pure none)
  (h1:(Kl [.Subscript o i tpos] X.env).map (·.2)=[assign (.Subscript o i tpos) X.env]):JS X E (.Assign [.Subscript o i tpos] value pos) (dM fo fi fv):=
 (qZ hv.h (wH ho.h hi.h (DW (Gm (Ip (by decide:2<=64) _) hu)) ha) hs hw h1).imp λD σ H h=>by
  obtain⟨w,ρ,rfl,R,S,h⟩:=h;refine⟨w,ρ,rfl,R,S,Ps.bd h λp v vv e1 R1 r1 h1=>⟨p,ρ,rfl,R1,S.mono R e1,Ps.bd h1 λq x vx e2 R2 r2 h2=>⟨q,ρ,rfl,R2,(S.mono R e1).mono R1 e2,Ps.bd h2 λs i vi e3 R3 r3 h3=>?_⟩⟩⟩;have S3:=((S.mono R e1).mono R1 e2).mono R2 e3;have rv:=(r1.mono R1 e2).mono R2 e3;have rx:=r2.mono R2 e3;cases x with
  |loc j=>
   unfold Rv at rx;obtain⟨hj,rfl⟩:=rx;unfold nG bd at h3;cases e:s.h[j]? with
   |none=>simp only[e] at h3;exact h3.elim
   |some ob=>
    cases ob with
    |din b ks ws=>
     simp only[e] at h3;cases ek:MW b i with
     |none=>simp only[ek] at h3;exact h3.elim
     |some k=>
      simp only[ek] at h3;by_cases z:ks.length<sizeLine
      ·simp only[if_pos z] at h3;obtain⟨⟨xs,ep⟩,g1,g2,g3,g4⟩:=R3.ob j _ e;dsimp only at g1 g2 g3 g4;obtain⟨c,rfl,hc⟩:=jo ek r3;obtain⟨b1,b2⟩:=nU (x:=k) (kvs:=kvN xs) (ks:=ks) (ws:=ws) rv (by unfold kvN;rw[Gg];exact g2) (by unfold kvN;rw[Gg];exact g4);rw[<-tD xs k c vv] at b1 b2;unfold kvN at b1 b2;rw[Gg] at b1 b2;refine⟨_,b,xs,ep,c,k,rfl,rfl,g1,g3,hc,by rw[<-g2,Fx] at z;exact z,λep'=>?_⟩;refine Ps.at (p:=s.put j (.din b (OI ks ws k v).1 (OI ks ws k v).2) (.dN b (OH xs k c vv) ep')) (b:=FlV.nx σ) h3 rfl (Ex.put e ⇑_) (R3.putN e ⇑_ b1 (λx hx=>?_) b2) ⟨σ,rfl,S3.mono R3 (Ex.put e ⇑_)⟩;rcases ux hx with⟨y,hy,q1,q2⟩|⟨q1,q2⟩
       ·rw[<-q1,<-q2];exact g3 y hy
       ·rw[q1,q2];exact hc
      ·simp only[if_neg z] at h3;exact h3.elim
    |_=>simp only[e] at h3;exact h3.elim
  |_=>exact h3.elim
end
end
section
theorem wB (its:List Jx):slicePick its.toArray none none (some (-1))=its.reverse.toArray:=by
 unfold slicePick;have hb:KH none none (some (-1)) its.toArray.size=(((its.length:Nat):Int) - 1,-1,-1):=by
  rw[FP];rfl
 rw[hb];show ((sliceRange (((its.length:Nat):Int) - 1) (-1) (-1)).filterMap (its.toArray[·]?)).toArray=_;congr 1;have hr:sliceRange (((its.length:Nat):Int) - 1) (-1) (-1)=(List.range its.length).map λk=>its.length - 1 - k:=by
  unfold sliceRange;have c:(if (-1:Int)>0 then (if ((its.length:Nat):Int) - 1< -1 then (-1 - (((its.length:Nat):Int) - 1)+ -1 - 1) / -1 else 0) else (if ((its.length:Nat):Int) - 1> -1 then (((its.length:Nat):Int) - 1 - -1 - -1 - 1) / (- -1) else 0)).toNat=its.length:=by
   rw[if_neg ↥_];by_cases z:((its.length:Nat):Int) - 1> -1
   ·rw[if_pos z,show (- -1:Int)=1 by decide,Int.ediv_one];omega
   ·rw[if_neg z];omega
  show (List.range (if (-1:Int)>0 then (if ((its.length:Nat):Int) - 1< -1 then (-1 - (((its.length:Nat):Int) - 1)+ -1 - 1) / -1 else 0) else (if ((its.length:Nat):Int) - 1> -1 then (((its.length:Nat):Int) - 1 - -1 - -1 - 1) / (- -1) else 0)).toNat).map _=_;rw[c];refine GV λk hk=>?_;have:=GQ.mp hk;show (((its.length:Nat):Int) - 1+ -1 * (k:Int)).toNat=its.length - 1 - k;omega
 rw[hr];apply IA;intro i;have hall: ∀ (n:Nat),n<=its.length->((List.range n).map λk=>its.length - 1 - k).filterMap (its.toArray[·]?)=its.reverse.take n:=by
  intro n
  induction n with
  |zero=>intro _;rfl
  |succ n ih=>
   intro hn;have e1:its.reverse[n]?=some (its[its.length - 1 - n]'∅):=by
    rw[List.getElem?_reverse ∅,F4]
   rw[Hc,Fz,List.filterMap_append,ih ∅,GP,e1];congr 1;show List.filterMap (its.toArray[·]?) [its.length - 1 - n]=[its[its.length - 1 - n]'∅];rw[Hi];rw[Iu,F4 ∅];rfl
 rw[hall its.length (Fy _),<-IB,FS]
section
variable {X:Cx}{E:XK}{e st:Expr}{te:TE}{ts:TO}{pos p2:Kb}{fa:La->M W}{fs:La->M (Option Int)}
noncomputable def tRev (K:Zf)(te:TE)(ts:TO):TE:=λσ H Q=>te σ H λx H1=>ts σ H1 λo H2=>o=some (-1)/\ ∃a xs,x=.ref a/\SqL K H2 a xs/\ ∀p,H2 p=none->Q (.ref p) (upd H2 p (.lst xs.reverse))
theorem BL (he:PE X e te)(hs:PO X (some st) ts):PE X (.Subscript e (.Slice none none (some st) p2) pos) (tRev X.K te ts):=by
 intro pins s σ H Q I h;refine Subscript_ (thn (he pins s σ H _ I h) λv s1 qz=>?_);obtain⟨x,H1,I1,r1,q1⟩:=qz;refine wpAny_Slice ?_;rw[evalPart_none];refine JX (JX (thn (hs pins s1 σ H1 _ I1 q1) λvs s3 qz=>?_));obtain⟨u,H3,I3,pu,q3⟩:=qz;obtain⟨rfl,a,xs,rfl,hx,q⟩:=q3;cases r1;have I4:Inv X pins σ H3 {s3 with heap:=s3.heap.push {cls:=.type "slice",data:=.fields #[.none,.none,vs]}}:=I3.kept (t':=s3.toks) λb ob q=>FD _ q;show JN (JP X.prog X.w) X.A (subscriptTail e (.Slice none none (some st) p2) (.ref a) (.ref ↥s3)) (EP X pins σ Q) X.xe {s3 with heap:=s3.heap.push {cls:=.type "slice",data:=.fields #[.none,.none,vs]}};obtain⟨its,r,ht,hz⟩:=I4.list hx;have hlen:=r.length;refine tail_any (ops:=[.ref a,.ref ↥s3]) ht.isList.typeIs slot_list_getitem.lookup ?_ (by with_unfolding_all rfl);refine wpAny_getItem_list_slice ht.isList (JD.IsSliceOf.new ..) .none .none pu ⇑_ ?_ (by rw[FP]<;>omega);rw[wB];refine⟨.ref _,_,I4.laid (t':=s3.toks) (o:=.lst xs.reverse) (λb ob q=>FD _ q) (Fy _) ?_,rfl,q _ (I4.hok.fresh (Fy _))⟩;exact⟨by rw[IB];exact hz,_,0,r.reverse,FX _ rfl⟩
theorem Rvs.reverse {K:Zf}: ∀ {l:List W}{vs:List V},Rvs K o l vs->Rvs K o l.reverse vs.reverse
 |[],vs,h=>by unfold Rvs at h;subst h;exact Rvs.nil
 |w::l,vs,h=>by
  unfold Rvs at h;obtain⟨v,r,rfl,h1,h2⟩:=h;rw[HB,HB];exact (Rvs.reverse h2).app (Rvs.cons h1 Rvs.nil)
noncomputable def ON (x:W)(o:Option Int):M W:=match o with
 |some (-1)=>bd (Nk x) λl=>pr (.tl l.reverse)
 |_=>no
noncomputable def NA (fa:La->M W)(fs:La->M (Option Int)):La->M W:=λρ=>bd (fa ρ) λx=>bd (fs ρ) λo=>ON x o
theorem CJ (he:JE X E e fa)(hs:JO X E (some st) fs):JE X E (.Subscript e (.Slice none none (some st) p2) pos) (NA fa fs):=(BL he.h hs.h).imp λσ H Q h=>by
 obtain⟨o,ρ,rfl,R,S,h⟩:=h;refine⟨o,ρ,rfl,R,S,Ps.bd h λp x vx e1 R1 r1 h1=>⟨p,ρ,rfl,R1,S.mono R e1,Ps.bd h1 λq a va e2 R2 r2 h2=>?_⟩⟩;subst r2;have rx:=r1.mono R1 e2;unfold ON at h2;split at h2
 ·obtain⟨l,a',vs,rfl,s,r,h2⟩:=ck R2 rx h2;exact⟨rfl,a',vs,rfl,s,λq' hq=>fX R2 hq r.reverse h2⟩
 ·exact h2.elim
end
end
section
section
variable {X:Cx}{E:XK}
theorem mY {w:JC}: ∀ {ks:List Int}{us:List Jx},Vals (ks.map V.int) us->ItemsAre (JH prog w) ks us
 |[],_,r=>by rw[Ge] at r;cases r;exact .nil
 |k::ks,_,r=>by
  rw[FK] at r;cases r with
  |cons h t=>
   obtain⟨tk,e⟩:=(show∃t,_=Jx.int k t from h)
   subst e;exact .cons (by simp [JH,Jx.isInt]) (mY t)
theorem Ap (I:Inv X pins σ H s)(h:SqT X.K H d (ns.map V.int))(prog:JB)(w:JC):IsTupleKey (JH prog w) s.heap ns d:=by
 obtain⟨its,r,⟨o,g1,g2,n,g3⟩,_⟩:=I.tuple h;exact⟨o,its.toArray,n,g1,g2,g3,by simpa using mY r⟩
open Classical in
noncomputable def eqK (prog:JB)(w:JC)(h:JD)(ns:List Int)(u:Jx):Bool:=match u with
 |.ref c=>decide (IsTupleKey (JH prog w) h ns c)
 |_=>false
open Classical in
noncomputable def NH:List Int->Int
 |[]=>0
 |[a]=>a
 |a::l=>if NH l<a then a else NH l
noncomputable def NI:List Int->Int
 |[]=>0
 |[a]=>a
 |a::l=>if a<NI l then a else NI l
theorem hU: ∀ {l:List Int},l≠ []->NH l∈l/\ ∀x∈l,x<=NH l
 |[],h=>absurd rfl h
 |[a],_=>⟨FZ.mpr rfl,λx hx=>by rw[FZ.mp hx];exact GW _⟩
 |a::b::l,_=>by
  obtain⟨h1,h2⟩:=hU (l:=b::l) ⇑_;show (if NH (b::l)<a then a else NH (b::l))∈_/\ ∀x∈_,x<=(if NH (b::l)<a then a else NH (b::l));by_cases c:NH (b::l)<a
  ·rw[if_pos c];refine⟨FI,λx hx=>?_⟩;rcases FC.mp hx with rfl|hx
   ·exact GW _
   ·have:=h2 x hx;omega
  ·rw[if_neg c];refine⟨FV _ h1,λx hx=>?_⟩;rcases FC.mp hx with rfl|hx
   ·omega
   ·exact h2 x hx
theorem lf: ∀ {l:List Int},l≠ []->NI l∈l/\ ∀x∈l,NI l<=x
 |[],h=>absurd rfl h
 |[a],_=>⟨FZ.mpr rfl,λx hx=>by rw[FZ.mp hx];exact GW _⟩
 |a::b::l,_=>by
  obtain⟨h1,h2⟩:=lf (l:=b::l) ⇑_;show (if a<NI (b::l) then a else NI (b::l))∈_/\ ∀x∈_,(if a<NI (b::l) then a else NI (b::l))<=x;by_cases c:a<NI (b::l)
  ·rw[if_pos c];refine⟨FI,λx hx=>?_⟩;rcases FC.mp hx with rfl|hx
   ·exact GW _
   ·have:=h2 x hx;omega
  ·rw[if_neg c];refine⟨FV _ h1,λx hx=>?_⟩;rcases FC.mp hx with rfl|hx
   ·omega
   ·exact h2 x hx
theorem iX (bt:Nat->Nat->Bool): ∀n,K0 bt n<=n
 |0=>Fy _
 |n+1=>by
  unfold K0;split
  ·exact Fy _
  ·exact HR (iX bt n)
theorem yQ (f:Nat->Int): ∀n j,j<=n->f j<=f (K0 (λi j=>decide (f i>f j)) n)
 |0,j,h=>by rw[IC.mp h];exact GW _
 |n+1,j,h=>by
  unfold K0;have ih:=yQ f n;by_cases c:f (n+1)>f (K0 (λi j=>decide (f i>f j)) n)
  ·rw[if_pos (decide_eq_true c)];by_cases e:j=n+1
   ·rw[e];exact GW _
   ·have:=ih j ∅;omega
  ·rw[if_neg (by rw[decide_eq_false c];simp)];by_cases e:j=n+1
   ·rw[e];omega
   ·exact ih j ∅
theorem yP (f:Nat->Int): ∀n j,j<=n->f (K0 (λi j=>decide (f i<f j)) n)<=f j
 |0,j,h=>by rw[IC.mp h];exact GW _
 |n+1,j,h=>by
  unfold K0;have ih:=yP f n;by_cases c:f (n+1)<f (K0 (λi j=>decide (f i<f j)) n)
  ·rw[if_pos (decide_eq_true c)];by_cases e:j=n+1
   ·rw[e];exact GW _
   ·have:=ih j ∅;omega
  ·rw[if_neg (by rw[decide_eq_false c];simp)];by_cases e:j=n+1
   ·rw[e];omega
   ·exact ih j ∅
theorem j5 (e:ns=xs.toList.map (·.1)){i:Nat}(h:i<xs.size):ns[i]?=some (KO xs i):=by
 rw[e,FG,ID,Jb h];unfold KO;rw[Jb h];rfl
theorem vt (hc:X.calm=true):CallR X (.builtin "max") (λxs H Q=> ∃ (p:JG) (ns:List Int),xs=[.ref p]/\SqL X.K H p (ns.map V.int)/\ns≠ []/\Q (.int (NH ns)) H):=by
 intro pins s σ H xs us Q I r h;obtain⟨p,ns,rfl,hq,hne,q⟩:=h;obtain⟨u,rfl,ru⟩:=Ql r;cases ru;obtain⟨its,rv,pl,hz⟩:=I.list hq;have hi:=d9 rv;obtain⟨xs,e⟩:=hi.allInts.items;have hl:s.heap.IsList p (intItems xs):=by rw[<-e];exact pl.isList
 have en:ns=xs.toList.map (·.1):=by
  rw[<-nums_intItems,<-e];exact (show numsOf its.toArray.toList=ns from hi.numsOf).symm
 have sz:xs.size=ns.length:=by rw[en,Fx,Gy]
 have pos:0<xs.size:=by rw[sz];exact HS.mpr hne
 refine max_intList (I.ok.hd hc) hl pos λv h' tk hv hk=>?_;obtain⟨t,rfl⟩:=intItems_at hv;have il:=iX (λi j=>decide (KO xs i>KO xs j)) (xs.size - 1);have e1:=j5 en (i:=K0 (λi j=>decide (KO xs i>KO xs j)) (xs.size - 1)) ∅;obtain⟨m1,m2⟩:=hU hne;obtain⟨k,hk'⟩:=IE m1;have kl:=(FO.mp hk').1;have e2:=j5 en (i:=k) ∅;rw[hk'] at e2;have a1:=m2 _ (F9 e1);have a2:=yQ (KO xs) (xs.size - 1) k ∅;have:KO xs (K0 (λi j=>decide (KO xs i>KO xs j)) (xs.size - 1))=NH ns:=by
  have:=Option.some.inj e2;omega
 rw[this];exact⟨.int (NH ns),H,I.kept (t':=tk) hk,⟨t,rfl⟩,q⟩
theorem vq (hc:X.calm=true):CallR X (.builtin "min") (λxs H Q=> ∃ (p:JG) (ns:List Int),xs=[.ref p]/\SqL X.K H p (ns.map V.int)/\ns≠ []/\Q (.int (NI ns)) H):=by
 intro pins s σ H xs us Q I r h;obtain⟨p,ns,rfl,hq,hne,q⟩:=h;obtain⟨u,rfl,ru⟩:=Ql r;cases ru;obtain⟨its,rv,pl,hz⟩:=I.list hq;have hi:=d9 rv;obtain⟨xs,e⟩:=hi.allInts.items;have hl:s.heap.IsList p (intItems xs):=by rw[<-e];exact pl.isList
 have en:ns=xs.toList.map (·.1):=by
  rw[<-nums_intItems,<-e];exact (show numsOf its.toArray.toList=ns from hi.numsOf).symm
 have sz:xs.size=ns.length:=by rw[en,Fx,Gy]
 have pos:0<xs.size:=by rw[sz];exact HS.mpr hne
 refine min_intList (I.ok.hd hc) hl pos λv h' tk hv hk=>?_;obtain⟨t,rfl⟩:=intItems_at hv;have il:=iX (λi j=>decide (KO xs i<KO xs j)) (xs.size - 1);have e1:=j5 en (i:=K0 (λi j=>decide (KO xs i<KO xs j)) (xs.size - 1)) ∅;obtain⟨m1,m2⟩:=lf hne;obtain⟨k,hk'⟩:=IE m1;have kl:=(FO.mp hk').1;have e2:=j5 en (i:=k) ∅;rw[hk'] at e2;have a1:=m2 _ (F9 e1);have a2:=yP (KO xs) (xs.size - 1) k ∅;have:KO xs (K0 (λi j=>decide (KO xs i<KO xs j)) (xs.size - 1))=NI ns:=by
  have:=Option.some.inj e2;omega
 rw[this];exact⟨.int (NI ns),H,I.kept (t':=tk) hk,⟨t,rfl⟩,q⟩
noncomputable def L7 (f:List Int->Int)(ws:List W):M W:=match ws with
 |[w]=>bd (Nk w) λl=>match Om iOf l with
  |some ns=>gd (ns≠ []) (pr (.int (f ns)))
  |none=>no
 |_=>no
variable {a:Expr}{p pos:Kb}{l:La->M (List W)}
theorem A5 {f:List Int->Int}:K4 X E (λxs H Q=> ∃ (p:JG) (ns:List Int),xs=[.ref p]/\SqL X.K H p (ns.map V.int)/\ns≠ []/\Q (.int (f ns)) H) (L7 f):=λo ws vs Q R rv h=>by
 unfold L7 at h;split at h
 ·obtain⟨v,rfl,r⟩:=rv.one;obtain⟨l,a,us,rfl,s,r,h⟩:=ck R r h;cases e:Om iOf l with
  |none=>rw[e] at h;exact h.elim
  |some ns=>
   rw[e] at h;obtain⟨hn,h⟩:=h.gd;have e2:us=ns.map V.int:=cY jM e r;subst e2;exact⟨a,ns,rfl,s,hn,h.pr R (OV.mpr rfl)⟩
 ·exact h.elim
theorem Aa (hc:X.calm=true)(hm:X.mg "max"=none)(ha:JA X E [a] l)(hg:Gl X "max")(he:Kd [a] X.env=(false,Ka a X.env)::Kd [] X.env)(hpl:(Kc pos (Kd [] X.env)).any (·.1)=false):JE X E (.Call (.Name "max" p) [a] [] pos) (Nn (L7 NH) l):=
 cI (vt hc) A5 hg hm rfl ha ↥_ ↥_ he hpl
theorem z0 (hc:X.calm=true)(hm:X.mg "min"=none)(ha:JA X E [a] l)(hg:Gl X "min")(he:Kd [a] X.env=(false,Ka a X.env)::Kd [] X.env)(hpl:(Kc pos (Kd [] X.env)).any (·.1)=false):JE X E (.Call (.Name "min" p) [a] [] pos) (Nn (L7 NI) l):=
 cI (vq hc) A5 hg hm rfl ha ↥_ ↥_ he hpl
end
end
section
open Sem (wp)
open AutoSeq1 (wpAny_loadPart')
section
variable {prog:JB}{w:JC}{A:JL}{E:Jx->JJ->Prop}{s:JJ}
theorem mi {Q:List Jx->JJ->Prop}{a b c:Int}{n:Nat}(hh:A.handled=none)(hr:IsRange s.heap r a b c t u v)(hsmall:Jy.Range.small a b c=true)
  (hn:Jy.Range.rangeSize a b c=n)(hlen:n<=2 ^ 24)
  (hQ: ∀ (h':JD) (tk:Nat) (acc':Array Jx),(∀b o',s.heap.get? b=some o'->h'.get? b=some o')->ItemsOf (λi v=> ∃t,v=.int (a+i * c) t) acc' n->Q acc'.toList {s with heap:=h',toks:=tk}):
  JN (JP prog w) A (collect (.ref r)) Q E s:=by
 unfold collect;refine JR (wpAny_runValue (codeAny_builtin F.entry_proto_collect ?_));rw[JL.under_plainId F.plain_proto_collect _];show JN _ A.in1 (newList []>>=λl=>again (.builtin "list.__iadd__" ⟨[l,.ref r],[]⟩)) _ _ s
 refine JR (KF ?_);refine JX ⟨plainId_quiet F.plain_list_iadd _,codeAny_builtin F.entry_list_iadd ?_⟩;rw[JL.under_plainId F.plain_list_iadd _];show JN _ A.in1 (Jy.List.listExtendWith (.ref ↥s) (.ref r) (.ref ↥s)) _ _ _
 have hS:(s.heap.push {cls:=.type "list",data:=.seq ([]:List Jx).toArray}).get? ↥s=some {cls:=.type "list",data:=.seq #[] 0}:=FX _ rfl
 refine Kf (wpAny_extend_range (A:=A) (R:=λre s'=> ∃h' tk acc' c',re=.ok (.ret (.ref ↥s))/\s'={s with heap:=h',toks:=tk}/\(∀b o',s.heap.get? b=some o'->h'.get? b=some o')/\h'.get? ↥s=some {cls:=.type "list",dict:=none,data:=.seq acc' c',slots:= #[]}/\ItemsOf (λi v=> ∃t,v=.int (a+i * c) t) acc' n)
  (s:={s with heap:=s.heap.push {cls:=.type "list",data:=.seq ([]:List Jx).toArray}}) hh (FD _ hr) hsmall hn hlen _ _ 0 hS λh' tk acc' c' hk hS' hacc=>⟨h',tk,acc',c',rfl,rfl,λb o' hb=>hk b o' (F5 (FJ hb)) (FD _ hb),hS',hacc⟩) (λfin s' h=>?_) (λe s' h=>?_)
 ·have fin': ∀ {re:Result}{s':JJ},(∃h' tk acc' c',re=.ok (.ret (.ref ↥s))/\s'={s with heap:=h',toks:=tk}/\(∀b o',s.heap.get? b=some o'->h'.get? b=some o')/\h'.get? ↥s=some {cls:=.type "list",dict:=none,data:=.seq acc' c',slots:= #[]}/\ItemsOf (λi v=> ∃t,v=.int (a+i * c) t) acc' n)->re=.ok (.ret (.ref ↥s))/\JN (JP prog w) A (match Jx.ref ↥s with
   |Jx.ref a=>do
    match (<-load a).data with
     |Data.seq xs _=>pure xs.toList
     |_=>unsupported "internal:collect"
   |_=>unsupported "internal:collect") Q E s':=by
   rintro re s' ⟨h',tk,acc',c',rfl,rfl,hk,hS',hacc⟩
   refine⟨rfl,?_⟩;show JN _ A (load ↥s>>=_) _ _ _;refine JR (wpAny_load hS' ?_);exact JX (hQ h' tk acc' hk hacc)
  cases fin with
  |done f=>
   obtain⟨e,q⟩:=fin' h;cases e;exact q
  |again c'=>exact⟨h.1,Kz h.2 λre s'' hr=>by
   obtain⟨e,q⟩:=fin' hr;subst e
   exact q⟩
 ·obtain⟨_,_,_,_,e,_⟩:=h;cases e
end
theorem ji (r:JG)(a b c:Int)(t u v:Tok)(n:Nat)(hsmall:Jy.Range.small a b c=true)(hn:Jy.Range.rangeSize a b c=n)(hlen:n<=2 ^ 24)(hz:n<=sizeLine):
  Meets (Jy.«tuple.__new__» ⟨[.type "tuple",.ref r],[]⟩)
   (λA R s=>A.handled=none/\IsRange s.heap r a b c t u v/\ ∀ (h':JD) (tk:Nat) (acc':Array Jx),(∀b o',s.heap.get? b=some o'->h'.get? b=some o')->ItemsOf (λi v=> ∃t,v=.int (a+i * c) t) acc' n->R (.ok (.ret (.ref h'.objs.size))) {s with heap:=h'.push {cls:=.type "tuple",data:=.seq acc'},toks:=tk}):=
 .of_wp λprog w A R s h=>by
  obtain⟨hp,g,d,tk,os⟩:=s;obtain⟨hh,ht,h⟩:=h;have hsub:=sub_tuple_self;have hinit:=init_tuple_lookup;have hmh:=madeHere_tuple;have hT:JJ.TypeIs ⟨hp,g,d,tk,os⟩ (.ref r) "range":=⟨_,ht,rfl⟩
  wp_walk using wpAny_loadPart' ht,wpAny_typeOf hT,mi (A:=A.in1) hh ht hsmall hn hlen
  intro h' tk' acc' hk hacc;show JN _ _ (Jy.Tuple.tupleExact acc'.toList.toArray>>=λv=>ret v) _ _ _;unfold Jy.Tuple.tupleExact;refine JR (KF ?_ (by show acc'.toList.toArray.size<=sizeLine;have:=hacc.1;simp only[Jc];omega));refine JX ⟨_,rfl,?_⟩;have e:acc'.toList.toArray=acc':=⇑_;rw[e];exact h h' tk' acc' hk hacc
section
variable {prog:JB}{w:JC}{A:JL}{E:Jx->JJ->Prop}{s:JJ}
theorem jP {a b c:Int}{n:Nat}{Q:Jx->JJ->Prop}(hh:A.handled=none)(hr:IsRange s.heap r a b c t u v)(hsmall:Jy.Range.small a b c=true)
  (hn:Jy.Range.rangeSize a b c=n)(hlen:n<=2 ^ 24)(hz:n<=sizeLine)
  (h:∀ (h':JD) (tk:Nat) (acc':Array Jx),(∀b o',s.heap.get? b=some o'->h'.get? b=some o')->ItemsOf (λi v=> ∃t,v=.int (a+i * c) t) acc' n->Q (.ref h'.objs.size) {s with heap:=h'.push {cls:=.type "tuple",data:=.seq acc'},toks:=tk}):
  JN (JP prog w) A (call (.type "tuple") [.ref r]) Q E s:=
 callType_new F.called_tuple ↥_ (F.typeCall_tuple_1 _) (F.newCall_tuple_1 _) (λobj=>F.args_object_init_2 obj _) F.entry_tuple_new
  (ji r a b c t u v n hsmall hn hlen hz) ⟨hh,hr,λh' tk acc' hk hacc=>⟨⟨_,FX _ rfl,rfl⟩,h h' tk acc' hk hacc⟩⟩
end
end
section
section
variable {prog:JB}{w:JC}{A:JL}{E:Jx->JJ->Prop}{s:JJ}
noncomputable def RawD (h:JD)(d:JG)(es:Array DictEntry)(ep:Nat):Prop:= ∃o,h.get? d=some o/\o.ExactDict/\o.data=.dict es ep
theorem xj {Q:Jx->JJ->Prop}(k:∀ (h':JD) (e:JG),(∀b o,s.heap.get? b=some o->h'.get? b=some o)->s.heap.get? e=none->(∃o,h'.get? e=some o/\o.cls=.type "StopIteration")->Q (.ref e) {s with heap:=h'}):
  JN (JP prog w) A (newExc (.type "StopIteration") []) Q E s:=by
 have f:firstArgMember (.type "StopIteration") []=pure .none:=by unfold firstArgMember;rfl
 unfold newExc;refine JR (wpAny_newTuple ?_ (FY _));rw[f];refine JR (JX (KF ?_ (show 6<=_ by decide)));refine k _ _ (λb o q=>FD _ (FD _ q)) (by rw[GB];exact IR (GS _)) ⟨_,FX _ rfl,rfl⟩
theorem RawD.keep {ep:Nat}(hd:RawD h d es ep)(k:∀o,h.get? d=some o->h'.get? d=some o):RawD h' d es ep:=by
 obtain⟨o,a,b,c⟩:=hd;exact⟨o,k o a,b,c⟩
end
end
end L2
namespace L2
open PyProof.Rows
section
variable (n:Nat)(lt:Nat->Nat->Bool)
noncomputable def O5 (p:Array Nat)(i:Nat):Option Nat:=match p[i]? with
 |some a=>if a<n then some a else none
 |none=>none
noncomputable def sLt (p:Array Nat)(i j:Nat):Option Bool:=match O5 n p i,O5 n p j with
 |some a,some b=>some (lt a b)
 |_,_=>none
noncomputable def OZ (p:Array Nat)(lo:Nat):Nat->Nat->Option Nat
 |0,k=>some k
 |f+1,k=>match sLt n lt p (lo+k) (lo+k - 1) with
  |some true=>some k
  |some false=>OZ p lo f (k+1)
  |none=>none
noncomputable def qU (p:Array Nat)(lo r:Nat):Option Nat:=match OZ n lt p lo (r - 1) 1 with
 |some k=>if (k==r)=true then some k else if k>1 then (match sLt n lt p lo (lo+k - 1) with
  |some true=>some k
  |_=>none) else none
 |none=>none
noncomputable def iM (p:Array Nat)(lo k:Nat):Nat->Nat->Nat->Option Nat
 |0,l,_=>some l
 |f+1,l,r=>if l≥r then some l else match sLt n lt p (lo+k) (lo+(l+r) / 2) with
  |some true=>iM p lo k f l ((l+r) / 2)
  |some false=>iM p lo k f ((l+r) / 2+1) r
  |none=>none
noncomputable def O1 (lo:Nat):Nat->Nat->Array Nat->Option (Array Nat)
 |0,_,p=>some p
 |f+1,k,p=>match iM n lt p lo k k 0 k with
  |some l=>O1 lo f (k+1) (bubble p (lo+k) (lo+k - (lo+l)))
  |none=>none
noncomputable def Pb:Option (Array Nat):=if n<64 then (match qU n lt (GF (List.range n)) 0 n with
 |none=>none
 |some k=>O1 n lt 0 (n - max k 1) (max k 1) (GF (List.range n))) else none
end
noncomputable def Nl (x y:List Int×Int):Bool:=if x.1=y.1 then decide (x.2<y.2) else HT.lexLt x.1 y.1
end L2
namespace L2
open PySem PySem.W PyProof.Rows
section
variable {M:Model}{A:JL}{E:Jx->JJ->Prop}{s:JJ}{σ β:Type}{f:Nat->β->StateT σ Sem (ForInStep β)}{Q:β->σ->Prop}{st:σ}
theorem qx {b:β}(h:Q b st):wpS M A E s (forIn ([]:List Nat) b f) Q st:=by rw[GN];exact wpS_pure h
theorem cS {x:Nat}{b:β}(h:wpS M A E s (f x b) (λr st'=>match r with
  |.done b'=>Q b' st'
  |.yield b'=>wpS M A E s (forIn l b' f) Q st') st):wpS M A E s (forIn (x::l) b f) Q st:=by
 rw[GH];refine wpS_bind (wpS_mono h λr st' h'=>?_);cases r with
 |done b'=>exact wpS_pure h'
 |yield b'=>exact h'
theorem eX {a b:Nat}{c:β}(h:wpS M A E s (forIn (G5 a (b - a)) c f) Q st):wpS M A E s (forIn [a:b] c f) Q st:=by
 rw[Std.Legacy.Range.forIn_eq_forIn_range',show ([a:b]:Std.Legacy.Range).size=b - a by simp [Std.Legacy.Range.size]];exact h
end
theorem nN {n i a:Nat}(h:O5 n p i=some a):p[i]?=some a/\a<n:=by
 unfold O5 at h;split at h
 ·rename_i b e;split at h
  ·rename_i l;cases h;exact⟨e,l⟩
  ·cases h
 ·cases h
section
variable {prog:JB}{w:JC}{A:JL}{E:Jx->JJ->Prop}{s:JJ}{κ:SortKind}{it:Array Keyed}{n:Nat}{lt:Nat->Nat->Bool}
noncomputable def sSt (κ:SortKind)(it:Array Keyed)(p:Array Nat)(pe:Array (Nat×Nat×Nat))(g:Nat):SortSt:=SortSt.mk' κ (p.map (kas_item it)) pe g none
noncomputable def Ans (prog:JB)(w:JC)(A:JL)(s:JJ)(κ:SortKind)(it:Array Keyed)(n:Nat)(lt:Nat->Nat->Bool):Prop:=
 ∀a b:Nat,a<n->b<n-> ∀Q:Bool->JJ->Prop,Q (lt a b) s->JN (JP prog w) A (keyLt' κ (kas_item it a).1 (kas_item it b).1) Q (λ_ _=>False) s
variable {p:Array Nat}{pe:Array (Nat×Nat×Nat)}{g:Nat}
theorem we {i a:Nat}{Q:Keyed->SortSt->Prop}{st:SortSt}(h:O5 n q i=some a)(k:Q (kas_item it a) st):wpS (JP prog w) A E s (elem' (q.map (kas_item it)) i) Q st:=by
 rw[elem'_eq,Array.getElem?_map,(nN h).1];exact wpS_pure k
theorem DY (H:Ans prog w A s κ it n lt){a b:Nat}{Q:Option Bool->SortSt->Prop}(ha:a<n)(hb:b<n)(k:Q (some (lt a b)) (sSt κ it p pe g)):wpS (JP prog w) A E s (lt' (kas_item it a) (kas_item it b)) Q (sSt κ it p pe g):=by
 rw[lt'_eq];refine wpS_bind (wpS_get ?_);refine wpS_bind (wpS_lift (wpAny_attempt (Kf (H a b ha hb (λr s'=>r=lt a b/\s'=s) ⟨rfl,rfl⟩) (λr s' hr=>?_) λ_ _ z=>z.elim)));obtain⟨rfl,rfl⟩:=hr;exact⟨rfl,wpS_pure k⟩
theorem By (H:Ans prog w A s κ it n lt){i j:Nat}{c:Bool}{Q:Option Bool->SortSt->Prop}(h:sLt n lt p i j=some c)(k:Q (some c) (sSt κ it p pe g)):wpS (JP prog w) A E s (ltAt' i j) Q (sSt κ it p pe g):=by
 unfold sLt at h;split at h
 ·rename_i a b ea eb;cases h;rw[ltAt'_eq];refine wpS_bind (wpS_get ?_);show wpS _ _ _ _ (do let x<-elem' (p.map (kas_item it)) i;let y<-elem' (p.map (kas_item it)) j;lt' x y) Q _;refine wpS_bind (we ea (wpS_bind (we eb (DY H (nN ea).2 (nN eb).2 k))))
 ·cases h
theorem AS {lo:Nat}{f:Nat->Option (Option Nat)×Nat->StateT SortSt Sem (ForInStep (Option (Option Nat)×Nat))}{st:SortSt}
  (hf: ∀x k c R,sLt n lt p (lo+k) (lo+k - 1)=some c->R (if c=true then .done (none,k) else .yield (none,k+1)) st->wpS (JP prog w) A E s (f x (none,k)) R st): ∀ (l:List Nat) (k k':Nat) (Q:Option (Option Nat)×Nat->SortSt->Prop),OZ n lt p lo l.length k=some k'->Q (none,k') st->wpS (JP prog w) A E s (forIn l (none,k) f) Q st
 |[],k,k',Q,h,q=>by
  rw[G3,OZ] at h;cases h;exact qx q
 |x::l,k,k',Q,h,q=>by
  rw[FH,OZ] at h;split at h
  ·rename_i e;cases h;exact cS (hf x k true _ e (by rw[if_pos rfl];exact q))
  ·rename_i e;exact cS (hf x k false _ e (by rw[if_neg ⇑_];exact AS hf l (k+1) k' Q h q))
  ·cases h
theorem zh (H:Ans prog w A s κ it n lt){lo r k:Nat}{Q:Option Nat->SortSt->Prop}(h:qU n lt p lo r=some k)(q:Q (some k) (sSt κ it p pe g)):wpS (JP prog w) A E s (countRun' lo r) Q (sSt κ it p pe g):=by
 unfold qU at h;split at h
 ·rename_i k1 e1;rw[countRun'_eq];dsimp only;refine wpS_bind (eX (AS (lo:=lo) (λx k c R hc hR=>?_) _ 1 k1 _ (by rw[Jd];exact e1) ?_))
  ·refine wpS_bind (By H hc ?_);cases c<;>exact wpS_pure hR
  ·dsimp only;split at h
   ·rename_i z;cases h;rw[if_pos z];exact wpS_pure q
   ·rename_i z;rw[if_neg z];split at h
    ·rename_i z1;rw[if_pos z1];split at h
     ·rename_i e2;cases h;refine wpS_bind (By H e2 ?_);exact wpS_pure q
     ·cases h
    ·cases h
 ·cases h
theorem nJ {lo k:Nat}{f:Nat->Option Bool×Nat×Nat->StateT SortSt Sem (ForInStep (Option Bool×Nat×Nat))}{st:SortSt}
  (h1: ∀x l r R,l≥r->R (.done (none,l,r)) st->wpS (JP prog w) A E s (f x (none,l,r)) R st)
  (h2: ∀x l r c R,¬l≥r->sLt n lt p (lo+k) (lo+(l+r) / 2)=some c->R (.yield (if c=true then (none,l,(l+r) / 2) else (none,(l+r) / 2+1,r))) st->wpS (JP prog w) A E s (f x (none,l,r)) R st):
  ∀ (ls:List Nat) (l r l':Nat) (Q:Option Bool×Nat×Nat->SortSt->Prop),iM n lt p lo k ls.length l r=some l'->(∀r',Q (none,l',r') st)->wpS (JP prog w) A E s (forIn ls (none,l,r) f) Q st
 |[],l,r,l',Q,h,q=>by
  rw[G3,iM] at h;cases h;exact qx (q _)
 |x::ls,l,r,l',Q,h,q=>by
  rw[FH,iM] at h;split at h
  ·rename_i z;cases h;exact cS (h1 x l r _ z (q _))
  ·rename_i z;split at h
   ·rename_i e;exact cS (h2 x l r true _ z e (by rw[if_pos rfl];exact nJ h1 h2 ls _ _ l' Q h q))
   ·rename_i e;exact cS (h2 x l r false _ z e (by rw[if_neg ⇑_];exact nJ h1 h2 ls _ _ l' Q h q))
   ·cases h
theorem nK (src d:Nat):bubble (p.map (kas_item it)) src d=(bubble p src d).map (kas_item it):=kas_swaps_map (kas_item it) (λk=>src - k) (λk=>src - k - 1) _ p
theorem pq {lo:Nat}{f:Nat->Option Bool×Unit->StateT SortSt Sem (ForInStep (Option Bool×Unit))}
  (hf: ∀k l p R,iM n lt p lo k k 0 k=some l->R (.yield (none,())) (sSt κ it (bubble p (lo+k) (lo+k - (lo+l))) pe g)->wpS (JP prog w) A E s (f k (none,())) R (sSt κ it p pe g)):
  ∀ (m k:Nat) (p p':Array Nat) (Q:Option Bool×Unit->SortSt->Prop),O1 n lt lo m k p=some p'->Q (none,()) (sSt κ it p' pe g)->wpS (JP prog w) A E s (forIn (G5 k m) (none,()) f) Q (sSt κ it p pe g)
 |0,k,p,p',Q,h,q=>by
  rw[O1] at h;cases h;exact qx q
 |m+1,k,p,p',Q,h,q=>by
  rw[O1] at h;split at h
  ·rename_i l e;rw[List.range'_succ];exact cS (hf k l p _ e (pq hf m (k+1) _ p' Q h q))
  ·cases h
theorem DZ (H:Ans prog w A s κ it n lt){lo m ok:Nat}{Q:Bool->SortSt->Prop}(h:O1 n lt lo (m - max ok 1) (max ok 1) p=some p')(q:Q true (sSt κ it p' pe g)):wpS (JP prog w) A E s (binarySort' lo m ok) Q (sSt κ it p pe g):=by
 rw[binarySort'_eq];refine wpS_bind (eX (pq (λk l p R e hR=>?_) _ _ p p' _ h ?_))
 ·dsimp only;refine wpS_bind (eX (nJ (lo:=lo) (k:=k) (λx l r R z hR=>?_) (λx l r c R z e hR=>?_) _ 0 k l _ (by rw[Jd];exact e) λr'=>?_))
  ·dsimp only;rw[if_pos z];exact wpS_pure hR
  ·dsimp only;rw[if_neg z];refine wpS_bind (By H e ?_);cases c<;>exact wpS_pure hR
  ·show wpS _ _ _ _ (do moveDown' (lo+k) (lo+l);pure (ForInStep.yield (none,()))) _ _;rw[moveDown'_eq];refine wpS_bind (wpS_modify (wpS_pure ?_));show R _ (SortSt.mk' κ (bubble (p.map (kas_item it)) (lo+k) (lo+k - (lo+l))) pe g none);rw[nK];exact hR
 ·exact wpS_pure q
end
section
section
variable {prog:JB}{w:JC}{A:JL}{E:Jx->JJ->Prop}{s:JJ}{κ:SortKind}{it:Array Keyed}{n:Nat}{lt:Nat->Nat->Bool}
theorem qy {σ α:Type}{M:Model}{c:Prop} [Decidable c] {x y:StateT σ Sem α}{R:α->σ->Prop}{st:σ}(h:¬c)(q:wpS M A E s y R st):wpS M A E s (if c then x else y) R st:=by rw[if_neg h];exact q
theorem kr {σ α:Type}{M:Model}{c:Prop} [Decidable c] {x y:StateT σ Sem α}{R:α->σ->Prop}{st:σ}(h:c)(q:wpS M A E s x R st):wpS M A E s (if c then x else y) R st:=by rw[if_pos h];exact q
theorem Bw (H:Ans prog w A s κ it n lt){Q:Unit->SortSt->Prop}(h2:2<=n)(h:Pb n lt=some r)(q:∀pe g,Q () (sSt κ it r pe g)):wpS (JP prog w) A E s sortRuns' Q (sSt κ it (GF (List.range n)) #[] 7):=by
 unfold Pb at h;split at h
 ·rename_i h64;split at h
  ·cases h
  rename_i c e1;rw[sortRuns'_eq];refine wpS_bind (wpS_get ?_);dsimp only;have hsz:(arrOf (sSt κ it (GF (List.range n)) #[] 7)).size=n:=by
   show ((GF (List.range n)).map (kas_item it)).size=_;simp
  obtain⟨k,rfl⟩: ∃k,n=k+2:=⟨n - 2,∅⟩
  rw[hsz,show minRun' (k+2) (k+2) 0=k+2 by rw[minRun'_succ,if_pos h64,Nat.add_zero]];have ey:min (k+2 - 0) (k+2)=k+2:=∅;refine wpS_bind (eX ?_);show wpS _ _ _ _ (forIn (0::1::G5 2 k) _ _) _ _;refine cS (qy (show¬0≥k+2 by omega) (wpS_bind (zh H e1 ?_)));dsimp only;by_cases c1:c<k+2
  ·refine kr c1 (wpS_bind (wpS_lift (JY ⟨rfl,?_⟩)));rw[ey];refine wpS_bind (DZ H h ?_);refine qy ⇑_ (wpS_bind (wpS_get ?_));refine wpS_bind (wpS_modify (wpS_pure ?_));dsimp only;refine cS (kr (show 0+(k+2)≥k+2 by omega) (wpS_pure ?_));dsimp only;refine wpS_bind (eX ?_);show wpS _ _ _ _ (forIn (0::G5 1 (k+1)) _ _) _ _;refine cS (wpS_bind (wpS_get ?_));refine kr (Fy 1) (wpS_pure ?_);exact wpS_pure (q _ _)
  ·refine qy c1 (wpS_bind (wpS_get ?_));refine wpS_bind (wpS_modify (wpS_pure ?_));dsimp only;have z:k+2 - max c 1=0:=∅;rw[z,O1] at h;cases h;refine cS (kr (show 0+c≥k+2 by omega) (wpS_pure ?_));dsimp only;refine wpS_bind (eX ?_);show wpS _ _ _ _ (forIn (0::G5 1 (k+1)) _ _) _ _;refine cS (wpS_bind (wpS_get ?_));refine kr (Fy 1) (wpS_pure ?_);exact wpS_pure (q _ _)
 ·cases h
end
end
section
section
variable {prog:JB}{w:JC}{A:JL}{E:Jx->JJ->Prop}{s:JJ}
structure Lj (prog:JB)(w:JC)(h:JD)(v:Jx)(k:List Int×Int)(m:Int):Prop where
 ex: ∃a o n c t u its,v=.ref a/\h.get? a=some o/\o.cls=.type "tuple"/\o.data=.seq #[.ref c,.int k.2 t,.int m u] n/\IsTup h c its/\IntsAre its.toList k.1/\IsTupleKey (JH prog w) h k.1 c
theorem tX {a c:Int}{Q:Bool->JJ->Prop}(h:Q (decide (a=c)) s):JN (JP prog w) A (eqBool (.int a t) (.int c u)) Q E s:=
 (JH prog w).eqBool (a:=a) (b:=c) (by simp [JH,Jx.isInt]) (by simp [JH,Jx.isInt]) h
theorem BA {m m':Int}{Q:Bool->JJ->Prop}(hu:A.units<JM)(hv:Lj prog w s.heap v k m)(hv':Lj prog w s.heap v' k' m')(h:Q (if k=k' then decide (m<m') else Nl k k') s):
  JN (JP prog w) A (keyLt' (tuples' false) v v') Q E s:=by
 obtain⟨a,o,n,c,t,u,its,rfl,g1,g2,g3,g4,g5,g6⟩:=hv;obtain⟨a',o',n',c',t',u',its',rfl,q1,q2,q3,q4,q5,q6⟩:=hv';obtain⟨ks,l⟩:=k;obtain⟨ks',l'⟩:=k';refine kat_lt g1 g3 q1 q3 ?_;show KatLex prog w A false _ Q [(.ref c,.ref c'),(.int l t,.int l' t'),(.int m u,.int m' u')] 0 s;refine kat_cons (wpAny_eqBool_tuple (knd:=JH prog w) hu g6 q6 ?_);by_cases e1:ks=ks'
 ·subst e1;rw[decide_eq_true rfl];refine kat_yes (kat_cons (tX ?_));by_cases e2:l=l'
  ·subst e2;rw[if_pos rfl] at h;rw[decide_eq_true rfl];refine kat_yes (kat_cons (tX ?_));by_cases e3:m=m'
   ·subst e3;rw[decide_eq_true rfl];refine kat_yes (kat_nil ?_);rw[decide_eq_false (IF m)] at h;exact h
   ·rw[decide_eq_false e3];exact kat_no (kat_one _ _ (lt_int h))
  ·rw[if_neg (λz=>e2 (Prod.mk.inj z).2)] at h;rw[decide_eq_false e2];unfold Nl at h;rw[if_pos rfl] at h;exact kat_no (kat_one _ _ (lt_int h))
 ·rw[if_neg (λz=>e1 (Prod.mk.inj z).1)] at h;rw[decide_eq_false e1];unfold Nl at h;rw[if_neg e1] at h;exact kat_no (kat_one _ _ (HT.lt_tupInts g4 q4 g5 q5 hu h))
theorem mG {n:Nat}{P:Fin->JJ->Prop}{κ:SortKind}{lt:Nat->Nat->Bool}(ho:s.heap.get? a=some (seqObj "list" vs.toArray n))(hz:vs.length<=1000)(hp:Pb vs.length lt=some p)(hl:p.size<=1000)
  (hk: ∀Q:SortKind->JJ->Prop,Q κ {s with heap:=((s.heap.update a (JK.mapSeq λ_=> #[])).push (seqObj "tuple" vs.toArray 0)).push (seqObj "list" #[] 0)}->JN (JP prog w) A (keyKind' vs.toArray) Q (λ_ _=>False) {s with heap:=((s.heap.update a (JK.mapSeq λ_=> #[])).push (seqObj "tuple" vs.toArray 0)).push (seqObj "list" #[] 0)})
  (hA:Ans prog w A {s with heap:=((s.heap.update a (JK.mapSeq λ_=> #[])).push (seqObj "tuple" vs.toArray 0)).push (seqObj "list" #[] 0)} κ (vs.toArray.zip vs.toArray) vs.length lt)
  (h2:2<=vs.length)
  (h:P (.done (.ret .none)) {s with heap:=sortedHeap s.heap a vs (GF (p.toList.map λi=>vs.getD i Jx.none))}):
  JN (JP prog w) A (Jy.«list.sort» ⟨[.ref a],[]⟩) P E s:=by
 have ha:a<↥s:=FJ ho;have big:1000<=sizeLine:=↥_;obtain⟨e1,o1⟩: ∃e1,(s.heap.update a (JK.mapSeq λ_=> #[])).get? a=some (seqObj "list" #[] e1):=⟨_,get?_update_seq ho (λ_=> #[])⟩
 rw[list_sort_plain];refine JR (listItems_at ho rfl (JR (listUpdate_at ho rfl ?_ (by rw[FP];omega) (FY _))));refine JR (seqEpoch_at o1 rfl (JR (wpAny_newTuple ?_ (by show vs.length<=_;omega))));refine JR (wpAny_newList ?_ (FY _));refine J1 ?_;have o6:(((s.heap.update a (JK.mapSeq λ_=> #[])).push (seqObj "tuple" vs.toArray 0)).push (seqObj "list" #[] 0)).get? a=some (seqObj "list" #[] e1):=FD _ (FD _ o1);dsimp only;have n2: ¬vs.toArray.size<2:=by rw[FP];omega
 rw[if_neg n2,if_neg n2];refine JR (Kf (hk (λκ' s'=>κ'=κ/\s'=_) ⟨rfl,rfl⟩) (λκ' s' hκ=>?_) λ_ _ z=>z.elim);obtain⟨rfl,rfl⟩:=hκ;have est:SortSt.mk' κ' (vs.toArray.zip vs.toArray) #[] 7 none=sSt κ' (vs.toArray.zip vs.toArray) (GF (List.range vs.length)) #[] 7:=by
  have e:=kas_range (vs.toArray.zip vs.toArray);rw[show (vs.toArray.zip vs.toArray).size=vs.length by simp] at e;unfold sSt;rw[e]
 rw[est];have run:=Bw (E:=E) (Q:=λ_ st=> ∃pe g,st=sSt κ' (vs.toArray.zip vs.toArray) p pe g) hA h2 hp λpe g=>⟨pe,g,rfl⟩
 unfold wpS at run;refine JR (Kf run (λr s' hr=>?_) λ_ _ z=>z);obtain⟨u,st⟩:=r;obtain⟨rfl,pe,g,e⟩:=hr;dsimp only at e;subst e;dsimp only;have out:(arrOf (sSt κ' (vs.toArray.zip vs.toArray) p pe g)).map (·.2)=GF (p.toList.map λi=>vs.getD i Jx.none):=kat_snds rfl rfl;rw[out];refine JR (seqEpoch_at o6 rfl (JR (listUpdate_at o6 rfl ?_ (FY _) (by rw[FP,Fx,Gy];omega))));simp only[bne_self_eq_false,GE,if_false];exact JX h
end
end
section
section
variable {prog:JB}{w:JC}{A:JL}{E:Jx->JJ->Prop}{s:JJ}
theorem qJ {n:Nat}{P:Fin->JJ->Prop}(ho:s.heap.get? a=some (seqObj "list" [v].toArray n))(h:P (.done (.ret .none)) {s with heap:=sortedHeap s.heap a [v] [v].toArray}):
  JN (JP prog w) A (Jy.«list.sort» ⟨[.ref a],[]⟩) P E s:=by
 obtain⟨e1,o1⟩: ∃e1,(s.heap.update a (JK.mapSeq λ_=> #[])).get? a=some (seqObj "list" #[] e1):=⟨_,get?_update_seq ho (λ_=> #[])⟩
 rw[list_sort_plain];refine JR (listItems_at ho rfl (JR (listUpdate_at ho rfl ?_ (show 1<=sizeLine by decide) (FY _))));refine JR (seqEpoch_at o1 rfl (JR (wpAny_newTuple ?_ (show 1<=sizeLine by decide))));refine JR (wpAny_newList ?_ ↥_);refine J1 ?_;have o6:(((s.heap.update a (JK.mapSeq λ_=> #[])).push (seqObj "tuple" [v].toArray 0)).push (seqObj "list" #[] 0)).get? a=some (seqObj "list" #[] e1):=FD _ (FD _ o1);dsimp only;rw[if_pos ⇑_,if_pos ⇑_];refine JR (JX ?_);rw[StateT.run_pure];refine JR (JX ?_);dsimp only;have out:(arrOf (SortSt.mk' general' (([v].toArray).zip [v].toArray) #[] 7 none)).map (·.2)=[v].toArray:=by
  show (([v].toArray).zip [v].toArray).map (·.2)=_;simp
 rw[out];refine JR (seqEpoch_at o6 rfl (JR (listUpdate_at o6 rfl ?_ (FY _) (show 1<=sizeLine+1 by decide))));simp only[bne_self_eq_false,GE,if_false];exact JX h
end
noncomputable def Lk (K:Zf)(H:Hp)(v:V)(k:(List Int×Int)×Int):Prop:= ∃a c,v=.ref a/\SqT K H a [.ref c,.int k.1.2,.int k.2]/\SqT K H c (k.1.1.map V.int)
section
variable {X:Cx}{pins:List (JG×JK)}{σ:St}{H:Hp}{s:JJ}
theorem oz: ∀ {ks:List Int}{us:List Jx},Vals (ks.map V.int) us->IntsAre us ks
 |[],_,r=>by rw[Ge] at r;cases r;exact .nil
 |k::ks,_,r=>by
  rw[FK] at r;cases r with
  |cons h t=>
   obtain⟨tk,e⟩:=(show∃t,_=Jx.int k t from h)
   subst e;exact .cons k tk (oz t)
theorem wg (I:Inv X pins σ H s)(h:Lk X.K H v k)(r:RelV v u):Lj X.prog X.w s.heap u k.1 k.2:=by
 obtain⟨a,c,rfl,h1,h2⟩:=h;cases r;obtain⟨its2,r2,t2,_⟩:=I.tuple h2;obtain⟨its,r1,⟨o,q1,q2,n,q3⟩,_⟩:=I.tuple h1;have t2':=t2;obtain⟨o2,g1,g2,n2,g3⟩:=t2';cases r1 with
 |cons hc r1=>
  cases r1 with
  |cons hl r1=>
   cases r1 with
   |cons hm r1=>
    cases r1;cases hc;obtain⟨t,e⟩:=(show∃t,_=Jx.int k.1.2 t from hl)
    subst e;obtain⟨u,e⟩:=(show∃t,_=Jx.int k.2 t from hm)
    subst e;exact⟨_,o,n,_,t,u,its2.toArray,rfl,q1,q2,q3,t2,by simpa using oz r2,o2,_,n2,g1,g2,g3,by simpa using lA r2⟩
noncomputable def OM (rs:List ((List Int×Int)×Int)):Option (Array Nat):=Pb rs.length λi j=>Nl (rs.getD i (([],0),0)).1 (rs.getD j (([],0),0)).1
theorem u3 {vs:List Jx}{ks:List ((List Int×Int)×Int)}{A:JL}{E:Jx->JJ->Prop}{Q:SortKind->JJ->Prop}(hl:vs.length=ks.length)(h0:0<vs.length)(h:∀ (i:Nat) (v:Jx) (k:(List Int×Int)×Int),vs[i]?=some v->ks[i]?=some k->Lj X.prog X.w s.heap v k.1 k.2)(q:Q (tuples' false) s):
  JN (JP X.prog X.w) A (keyKind' vs.toArray) Q E s:=by
 have fs: ∃fs:List Jx,KatTups s.heap vs fs/\fs.length=vs.length/\ ∀f∈fs,Looks (JP X.prog X.w) s.heap (typeOf f) (.type "tuple"):=by
  clear h0
  induction vs generalizing ks with
  |nil=>exact⟨[],trivial,rfl,λf hf=>nomatch hf⟩
  |cons v vs ih=>
   cases ks with
   |nil=>cases hl
   |cons k ks=>
    obtain⟨fs,h1,h2,h3⟩:=ih (ks:=ks) (Hb.inj hl) λi v k a b=>h (i+1) v k a b;obtain⟨a,o,n,c,t,u,its,rfl,g1,g2,g3,⟨o2,q1,q2,_⟩,_⟩:=h 0 v k rfl rfl;refine⟨.ref c::fs,KatTups.cons g1 g2 g3 rfl h1,by rw[FH,FH,h2],λf hf=>?_⟩;rcases FC.mp hf with rfl|hf
    ·rw[<-q2];exact (Looks.ld q1).andThen .now
    ·exact h3 f hf
 obtain⟨fs,h1,h2,h3⟩:=fs;exact kat_kind h1 ∅ h3 ↥_ q
theorem qj (hu:X.A.units+64<JM):CallR X (.builtin "sorted") (λxs H Q=> ∃ (p:JG) (ys:List V) (rs:List ((List Int×Int)×Int)) (π:Array Nat),xs=[.ref p]/\SqL X.K H p ys/\ys.length=rs.length/\(∀ (i:Nat) (v:V) (k:(List Int×Int)×Int),ys[i]?=some v->rs[i]?=some k->Lk X.K H v k)/\1<=rs.length/\rs.length<=1000/\(rs.map (·.1)).Nodup/\OM rs=some π/\π.size=rs.length/\(∀i∈π.toList,i<rs.length)/\
  ∀q,H q=none->Q (.ref q) (upd H q (.lst (π.toList.map λi=>ys.getD i .non)))):=by
 intro pins s σ H xs us Q I r h;obtain⟨p,ys,rs,π,rfl,hq,hl,hr,h1,hz,nd,hs,ps,pl,q⟩:=h;obtain⟨u,rfl,ru⟩:=Ql r;cases ru;obtain⟨its,rv,pl',_⟩:=I.list hq;have il:=rv.length;have big:1000<=sizeLine:=↥_;refine Calls.call_function_entry kind_sorted plain_sorted entry_sorted (args_sorted1 _) ?_;unfold Jy.«sorted»;refine JR (m:=checkCount "sorted" 1 1 _) (JX (JR (collect_list pl'.isList ?_ ∅)));refine JR (wpAny_newList ?_ ∅);have sz:((s.heap.push (seqObj "list" #[] 0)).update ↥s (JK.mapSeq (· ++its.toArray))).objs.size=↥s+1:=by rw[JD.size_update,size_push']
 have keep: ∀b o,s.heap.get? b=some o->(((s.heap.push (seqObj "list" #[] 0)).update ↥s (JK.mapSeq (· ++its.toArray))).push (seqObj "list" its.toArray 0)).get? b=some o:=λb o e=>by
  have lt:b<↥s:=FJ e;refine FD _ ?_;rw[Hd _ _ _ _ (F5 lt)];exact FD _ e
 have oD:(((s.heap.push (seqObj "list" #[] 0)).update ↥s (JK.mapSeq (· ++its.toArray))).push (seqObj "list" its.toArray 0)).get? (↥s+1)=some (seqObj "list" its.toArray 0):=by
  rw[<-sz];exact FX _ rfl
 show JN _ _ _ _ _ {s with heap:=((s.heap.push (seqObj "list" #[] 0)).update ↥s (JK.mapSeq (· ++its.toArray))).push (seqObj "list" its.toArray 0)};rw[sz];generalize hB:((s.heap.push (seqObj "list" #[] 0)).update ↥s (JK.mapSeq (· ++its.toArray))).push (seqObj "list" its.toArray 0)=B at *;have lD:↥s<=↥s+1:=GS _;have keepE: ∀ (vs:List Jx) b o,s.heap.get? b=some o->(((B.update (↥s+1) (JK.mapSeq λ_=> #[])).push (seqObj "tuple" vs.toArray 0)).push (seqObj "list" #[] 0)).get? b=some o:=λvs b o e=>by
  have lt:b<↥s:=FJ e;refine FD _ (FD _ ?_);rw[Hd _ _ _ _ (F5 (IG lt))];exact keep b o e
 have rel: ∀i∈π.toList,RelV (ys.getD i .non) (its.getD i Jx.none):=λi hi=>by
  have li:=pl i hi;obtain⟨v,e1,r1⟩:=rv.get (show ys[i]?=some (ys.getD i .non) by rw[Gu,F4 ∅];rfl);rw[Gu (l:=its),e1];exact r1
 have vls: ∀l:List Nat,(∀i∈l,RelV (ys.getD i .non) (its.getD i Jx.none))->Vals (l.map λi=>ys.getD i .non) (l.map λi=>its.getD i Jx.none):=λl=>by
  induction l with
  |nil=>intro _;exact .nil
  |cons i l ih=>intro hh;exact .cons (hh i FI) (ih λj hj=>hh j (FV _ hj))
 have fin: ∀ (l:List Nat),l.length<=1000->(∀i∈l,RelV (ys.getD i .non) (its.getD i Jx.none))->Q (.ref (↥s+1)) (upd H (↥s+1) (.lst (l.map λi=>ys.getD i .non)))->EP X pins σ Q (.ref (↥s+1)) {s with heap:=sortedHeap B (↥s+1) its (GF (l.map λi=>its.getD i Jx.none))}:=λl l1 l2 hQ=>by
  obtain⟨e1,o1⟩: ∃e1,(B.update (↥s+1) (JK.mapSeq λ_=> #[])).get? (↥s+1)=some (seqObj "list" #[] e1):=⟨_,get?_update_seq oD (λ_=> #[])⟩
  have o6:(((B.update (↥s+1) (JK.mapSeq λ_=> #[])).push (seqObj "tuple" its.toArray 0)).push (seqObj "list" #[] 0)).get? (↥s+1)=some (seqObj "list" #[] e1):=FD _ (FD _ o1);refine⟨.ref (↥s+1),_,I.laid (t':=s.toks) (o:=.lst (l.map λi=>ys.getD i .non)) (λb o e=>?_) lD ?_,rfl,hQ⟩
  ·have lt:b<↥s:=FJ e;unfold sortedHeap;rw[Hd _ _ _ _ (F5 (IG lt))];exact keepE its b o e
  ·exact⟨by rw[Fx];omega,_,_,vls l l2,get?_update_seq o6 λ_=>GF (l.map λi=>its.getD i Jx.none)⟩
 refine JR (J1 (JV slot_list_sort ⟨_,oD,rfl⟩ entry_list_sort ?_ (args_list_sort _)));have hQ:=q (↥s+1) (I.hok.fresh lD);by_cases h2:2<=its.length
 ·refine mG (s:={s with heap:=B}) (κ:=tuples' false) (p:=π) (lt:=λi j=>Nl (rs.getD i (([],0),0)).1 (rs.getD j (([],0),0)).1) oD ∅ (by rw[show its.length=rs.length by omega];exact hs) ∅ (λQ' hq'=>?_) (λa b ha hb Q' hq'=>?_) h2 ?_
  ·have I6:=I.kept (t':=s.toks) (keepE its);refine u3 (X:=X) (ks:=rs) ∅ ∅ (λi v k e1 e2=>?_) hq';obtain⟨y,hy⟩: ∃y,ys[i]?=some y:=⟨_,F4 (by have:=(FO.mp e1).1;omega)⟩
   obtain⟨v',e3,r3⟩:=rv.get hy;rw[e1] at e3;cases e3;exact wg I6 (hr i y k hy e2) r3
  ·have I6:=I.kept (t':=s.toks) (keepE its);have row: ∀i,i<its.length->Lj X.prog X.w (((B.update (↥s+1) (JK.mapSeq λ_=> #[])).push (seqObj "tuple" its.toArray 0)).push (seqObj "list" #[] 0)) (its.getD i Jx.none) (rs.getD i (([],0),0)).1 (rs.getD i (([],0),0)).2:=λi hi=>by
    have e1:ys[i]?=some (ys[i]'∅):=F4 _;have e2:rs[i]?=some (rs[i]'∅):=F4 _;obtain⟨v',e3,r3⟩:=rv.get e1;have:=wg I6 (hr i _ _ e1 e2) r3;rw[Gu,Gu,e3,e2];exact this
   rw[kat_item rfl,kat_item rfl];refine BA (by show X.A.units+1+1<JM;omega) (row a ha) (row b hb) ?_;by_cases ek:(rs.getD a (([],0),0)).1=(rs.getD b (([],0),0)).1
   ·have ab:a=b:=by
     have e1:(rs.map (·.1))[a]?=some (rs.getD a (([],0),0)).1:=by rw[FG,Gu,F4 (show a<rs.length by omega)];rfl
     have e2:(rs.map (·.1))[b]?=some (rs.getD b (([],0),0)).1:=by rw[FG,Gu,F4 (show b<rs.length by omega)];rfl
     rw[ek,<-e2] at e1;exact (List.getElem?_inj (by rw[Fx];omega) nd).mp e1
    subst ab;rw[if_pos rfl,decide_eq_false (IF _)];have:Nl (rs.getD a (([],0),0)).1 (rs.getD a (([],0),0)).1=false:=by unfold Nl;rw[if_pos rfl];exact decide_eq_false (IF _)
    have hq':Q' (Nl (rs.getD a (([],0),0)).1 (rs.getD a (([],0),0)).1) _:=hq';rw[this] at hq';exact hq'
   ·rw[if_neg ek];exact hq'
  ·exact⟨_,rfl,JX ⟨_,rfl,fin π.toList (by rw[Gy];omega) rel hQ⟩⟩
 ·obtain⟨v,rfl⟩: ∃v,its=[v]:=by
   match its,h2,il with
   |[v],_,_=>exact⟨v,rfl⟩
   |[],_,il=>exact absurd (show rs.length=0 by rw[<-hl,il];rfl) ∅
   |_::_::_,h2,_=>exact absurd ⇑_ h2
  have p1:π.toList=[0]:=by
   have l1:rs.length=1:=by rw[<-hl,il];rfl
   rw[l1] at ps pl
   match hπ:π.toList,(Gy (xs:=π)) with
   |[i],_=>have:=pl i (by rw[hπ];simp);congr 1;omega
   |[],e=>rw[ps] at e;cases e
   |_::_::_,e=>rw[ps] at e;simp at e
  rw[p1] at hQ rel;exact qJ (s:={s with heap:=B}) oD ⟨_,rfl,JX ⟨_,rfl,fin [0] ↥_ rel hQ⟩⟩
end
end
end L2
namespace L2
open PySem PySem.Spec PyProof.Rows
section
variable {X:Cx}{E:XK}{a:Expr}{p p2 pos:Kb}{l:La->M (List W)}
noncomputable def OQ (w:W):Option ((List Int×Int)×Int):=match w with
 |.tup [.tup l,.int i,.int m]=>(Om iOf l).map λks=>((ks,i),m)
 |_=>none
noncomputable abbrev Ow (π:Array Nat)(n:Nat):Prop:=π.size=n/\ ∀i∈π.toList,i<n
noncomputable def PD (ws:List W):M W:=match ws with
 |[w]=>bd (Nk w) λl=>match Om OQ l with
  |some rs=>gd (1<=rs.length/\rs.length<=1000/\(rs.map (·.1)).Nodup) (match OM rs with
   |some π=>gd (Ow π rs.length) (pr (.tl (π.toList.map λi=>l.getD i .non)))
   |none=>no)
  |none=>no
 |_=>no
theorem wR {α β:Type}{f:α->Option β}: ∀ {l:List α}{m:List β},Om f l=some m->m.length=l.length:=by
 intro l
 induction l with
 |nil=>intro m h;cases h;rfl
 |cons x l ih=>
  intro m h;unfold Om at h;cases e1:f x with
  |none=>rw[e1] at h;cases h
  |some y=>
   cases e2:Om f l with
   |none=>rw[e1,e2] at h;cases h
   |some r=>
    rw[e1,e2] at h;cases h;rw[FH,FH,ih e2]
theorem wT {α β:Type}{f:α->Option β}: ∀ {l:List α}{m:List β}{i:Nat}{x:α},Om f l=some m->l[i]?=some x-> ∃y,m[i]?=some y/\f x=some y:=by
 intro l
 induction l with
 |nil=>intro m i x h e;simp at e
 |cons z l ih=>
  intro m i x h e;unfold Om at h;cases e1:f z with
  |none=>rw[e1] at h;cases h
  |some y=>
   cases e2:Om f l with
   |none=>rw[e1,e2] at h;cases h
   |some r=>
    rw[e1,e2] at h;cases h;cases i with
    |zero=>cases e;exact⟨y,rfl,e1⟩
    |succ i=>
     obtain⟨y',g1,g2⟩:=ih (m:=r) (i:=i) (x:=x) e2 e;exact⟨y',g1,g2⟩
theorem zk {K:Zf}{w:W}(h:OQ w=some k)(r:Rv K o w v):Lk K o.H v k:=by
 unfold OQ at h;split at h
 ·rename_i l i m;obtain⟨ks,e,rfl⟩:=FQ.mp h;unfold Rv at r;obtain⟨a,vs,rfl,s,r⟩:=r;unfold Rvs at r;obtain⟨v1,r1,rfl,h1,r⟩:=r;unfold Rvs at r;obtain⟨v2,r2,rfl,h2,r⟩:=r;unfold Rvs at r;obtain⟨v3,r3,rfl,h3,r⟩:=r;unfold Rvs at r;subst r;rw[OV.mp h2,OV.mp h3] at s;unfold Rv at h1;obtain⟨c,us,rfl,s1,r1⟩:=h1;have e2:us=ks.map V.int:=cY jM e r1;subst e2;exact⟨a,c,rfl,s,s1⟩
 ·cases h
theorem pw {K:Zf}{o:Wo}{l:List W}{vs:List V}(r:Rvs K o l vs): ∀ {π:List Nat},(∀i∈π,i<l.length)->Rvs K o (π.map λi=>l.getD i .non) (π.map λi=>vs.getD i .non)
 |[],_=>Rvs.nil
 |i::π,h=>by
  have hi:=h i FI;have e1:l[i]?=some (l.getD i .non):=by rw[Gu,F4 hi];rfl
  obtain⟨v,e2,r2⟩:=r.get e1;refine Rvs.cons ?_ (pw r λj hj=>h j (FV _ hj));show Rv K o (l.getD i .non) (vs.getD i .non);rw[Gu (l:=vs),e2];exact r2
theorem Bp:K4 X E (λxs H Q=> ∃ (p:JG) (ys:List V) (rs:List ((List Int×Int)×Int)) (π:Array Nat),xs=[.ref p]/\SqL X.K H p ys/\ys.length=rs.length/\(∀ (i:Nat) (v:V) (k:(List Int×Int)×Int),ys[i]?=some v->rs[i]?=some k->Lk X.K H v k)/\1<=rs.length/\rs.length<=1000/\(rs.map (·.1)).Nodup/\OM rs=some π/\π.size=rs.length/\(∀i∈π.toList,i<rs.length)/\
  ∀q,H q=none->Q (.ref q) (upd H q (.lst (π.toList.map λi=>ys.getD i .non)))) PD:=λo ws vs Q R rv h=>by
 unfold PD at h;split at h
 ·obtain⟨v,rfl,r⟩:=rv.one;obtain⟨l,a,us,rfl,s,r,h⟩:=ck R r h;cases e:Om OQ l with
  |none=>rw[e] at h;exact h.elim
  |some rs=>
   rw[e] at h;obtain⟨⟨h1,h2,h3⟩,h⟩:=h.gd;cases e2:OM rs with
   |none=>rw[e2] at h;exact h.elim
   |some π=>
    rw[e2] at h;obtain⟨⟨p1,p2⟩,h⟩:=h.gd;have ll:=wR e;have lu:=r.len;refine⟨a,us,rs,π,rfl,s,∅,λi v k e3 e4=>?_,h1,h2,h3,e2,p1,p2,λq hq=>fX R hq (pw r λi hi=>by rw[<-ll];exact p2 i hi) h⟩;obtain⟨w,ew⟩: ∃w,l[i]?=some w:=⟨_,F4 (by have:=(FO.mp e4).1;omega)⟩
    obtain⟨y,ey,fy⟩:=wT e ew;rw[e4] at ey;cases ey;obtain⟨v',ev,rv'⟩:=r.get ew;rw[e3] at ev;cases ev;exact zk fy rv'
 ·exact h.elim
theorem uS (hu:X.A.units+64<JM)(hm:X.mg "sorted"=none)(ha:JA X E [a] l)(hg:Gl X "sorted")(he:Kd [a] X.env=(false,Ka a X.env)::Kd [] X.env)(hpl:(Kc pos (Kd [] X.env)).any (·.1)=false):JE X E (.Call (.Name "sorted" p) [a] [] pos) (Nn PD l):=
 cI (qj hu) Bp hg hm PyProof.Rows.boot_sorted ha ↥_ ↥_ he hpl
end
section
open Sem (wp)
section
variable {X:Cx}{pins:List (JG×JK)}{σ:St}{H:Hp}{s:JJ}
theorem nQ {b:Bool}{ep:Nat}(I:Inv X pins σ H s)(e:H a=some (.dN b xs ep)):(a==J4)=false/\ ∃es,RawD s.heap a es ep/\es.size=xs.length/\ ∀ (i:Nat) (y:PKy×JG×V),xs[i]?=some y-> ∃d,es[i]?=some d/\d.key=.ref y.2.1/\RelV y.2.2 d.val:=by
 obtain⟨_,hs,ys,r,o,es,h1,h2,h3,h4,_⟩:=(show ObjOk X.prog X.w H s.heap a (.dN b xs ep) from I.hok a _ e)
 have gt: ∀ {xs:List (PKy×JG×V)}{ys:List (PKy×JG×Jx)},KN xs ys-> ∀ {i:Nat}{x:PKy×JG×V},xs[i]?=some x-> ∃y,ys[i]?=some y/\x.2.1=y.2.1/\RelV x.2.2 y.2.2:=λ{xs ys} r=>by
  induction r with
  |nil=>intro i x e;simp at e
  |cons hh _ ih=>
   intro i x e;cases i with
   |zero=>cases e;exact⟨_,rfl,hh.2.1,hh.2.2⟩
   |succ i=>exact ih e
 refine⟨hs,es,⟨o,h1,h2,h3⟩,?_,λi y ei=>?_⟩
 ·rw[<-Gy,h4,Fx];exact (Paired.length r).symm
 ·obtain⟨z,ez,e1,e2⟩:=gt r ei;refine⟨_,by rw[<-ID,h4,FG,ez];rfl,by rw[e1],e2⟩
end
section
variable {X:Cx}{E:XK}{e a b:Expr}
noncomputable def M0 (b:Bool)(k:PKy):W:=match b with
 |false=>.tup [.int k.1,.tup (k.2.map W.int)]
 |true=>.tup [.tup (k.2.map W.int),.int k.1]
theorem sH {K:Zf}: ∀ns:List Int,Rvs K o (ns.map W.int) (ns.map V.int)
 |[]=>Rvs.nil
 |n::r=>Rvs.cons (OV.mpr rfl) (sH r)
theorem tH {K:Zf}{b:Bool}(h:KeyN K o.H b c k):Rv K o (M0 b k) (.ref c):=by
 obtain⟨d,h1,h2⟩:=h;have r2:Rv K o (.tup (k.2.map W.int)) (.ref d):=by unfold Rv;exact⟨d,_,rfl,h2,sH _⟩
 cases b with
 |false=>unfold M0;dsimp only;unfold Rv;exact⟨c,_,rfl,h1,Rvs.cons (OV.mpr rfl) (Rvs.cons r2 Rvs.nil)⟩
 |true=>unfold M0;dsimp only;unfold Rv;exact⟨c,_,rfl,h1,Rvs.cons r2 (Rvs.cons (OV.mpr rfl) Rvs.nil)⟩
noncomputable def OL (K:Zf)(neg:Bool):R2:=λx y H Q=> ∃a b xs ep c k,x=.ref c/\y=.ref a/\H a=some (.dN b xs ep)/\(∀x∈xs,KeyN K H b x.2.1 x.1)/\KeyN K H b c k/\Q (.bl ((Qk (kvN xs) k).isSome !=neg)) H
theorem Fu (hu:X.A.units+64<JM):OpR X (Kg .In) (OL X.K false):=by
 intro pins s σ H x y v u Q I rx ry h;obtain⟨a,b,xs,ep,c,k,rfl,rfl,e,hk,hc,q⟩:=h;cases rx;cases ry;obtain⟨z,hd,ys,rel,dd⟩:=nj I e hk;refine wpAny_in_heap (knd:=kN X.prog X.w b) (by show X.A.units+1+1<JM;omega) (f9 I hc) hd dd ⟨_,H,I.tok _,?_,q⟩;have:=(rel.val k).isSome_eq;rw[GJ] at this;rw[<-this];cases (Qk (kvN xs) k).isSome<;>rfl
theorem zJ (hu:X.A.units+64<JM):OpR X (Kg .NotIn) (OL X.K true):=by
 intro pins s σ H x y v u Q I rx ry h;obtain⟨a,b,xs,ep,c,k,rfl,rfl,e,hk,hc,q⟩:=h;cases rx;cases ry;obtain⟨z,hd,ys,rel,dd⟩:=nj I e hk;have:=(rel.val k).isSome_eq;rw[GJ] at this;refine wpAny_notIn_heap (knd:=kN X.prog X.w b) (by show X.A.units+1+1<JM;omega) (f9 I hc) hd dd ⟨_,H,I.tok _,?_,q⟩;rw[<-this];cases (Qk (kvN xs) k).isSome<;>rfl
noncomputable def Ms (neg:Bool)(x y:W):M W:=λh=>match LU y h with
 |some (b,ks,ws)=>match MW b x with
  |some k=>.ok (.bl ((atK ks ws k).isSome !=neg)) h
  |none=>.bad
 |none=>.bad
theorem sX {neg:Bool}:OpM X E (OL X.K neg) (Ms neg):=by
 intro o x y vx vy Q R rx ry h;unfold Ms at h;cases e1:LU y o.h with
 |none=>rw[e1] at h;exact h.elim
 |some t=>
  obtain⟨b,ks,ws⟩:=t;rw[e1] at h;cases e2:MW b x with
  |none=>simp only[e2] at h;exact h.elim
  |some k=>
   simp only[e2] at h;obtain⟨a,xs,ep,rfl,g1,g2,g3,g4⟩:=lK R e1 ry;obtain⟨c,rfl,hc⟩:=jo e2 rx;have hv:=iD (x:=k) (kvs:=kvN xs) (ks:=ks) (ws:=ws) (by unfold kvN;rw[Gg];exact g2) (by unfold kvN;rw[Gg];exact g4);have e3:(Qk (kvN xs) k).isSome=(atK ks ws k).isSome:=by
    cases e4:atK ks ws k with
    |none=>rw[e4] at hv;rw[hv];rfl
    |some w=>rw[e4] at hv;obtain⟨v,hv,_⟩:=hv;rw[hv];rfl
   refine⟨a,b,xs,ep,c,k,rfl,rfl,g1,g3,hc,?_⟩;rw[e3];exact Ps.pr (c:=cg X E) (r:=Rv X.K) h R (OU.mpr rfl)
end
end
section
section
variable {X:Cx}{E:XK}{e a b:Expr}{pos p p2 pos2:Kb}{l:La->M (List W)}
theorem uw: ∀bs:List Bool,((List.range bs.length).any λi=>(bs[i]?).getD true)=bs.any id:=λbs=>by
 rw[Gz,GO,GO];constructor
 ·rintro⟨i,hi,h⟩
  have hi:=GQ.mp hi;rw[F4 hi] at h;exact⟨_,List.getElem_mem hi,h⟩
 ·rintro⟨b,hb,h⟩
  obtain⟨i,hi,e⟩:=List.mem_iff_getElem.mp hb;refine⟨i,GQ.mpr hi,?_⟩;rw[F4 hi,e];exact h
theorem yE (hc:X.calm=true):CallR X (.builtin "any") (λxs H Q=> ∃ (p:JG) (bs:List Bool),xs=[.ref p]/\SqL X.K H p (bs.map V.bl)/\Q (.bl (bs.any id)) H):=by
 intro pins s σ H xs us Q I r h;obtain⟨p,bs,rfl,hq,q⟩:=h;obtain⟨u,rfl,ru⟩:=Ql r;cases ru;obtain⟨its,rv,pl,hz⟩:=I.list hq;have hb:=lY rv;have hl:=pl.isList;have hlt:p<↥s:=by obtain⟨_,e,_⟩:=hl;exact FJ e
 refine call_any_walk (wpAny_pyIter_list hl ?_)
 refine⟨↥s,[↥s,p],[↥s],its.toArray.size,_,_,λi=>(bs[i]?).getD true,rfl,Walks.list (A:=X.A.in1) (I.ok.hd hc) _ p (F5 hlt) its.toArray,
  ⟨⟨_,FX _ rfl,rfl,rfl⟩,hl.push _⟩,λi v s' Q' E' hP hQ=>?_,λh' tk hk=>?_⟩
 ·obtain⟨b,e,rfl⟩:=hb.get i v (by simpa using hP);simp only[e,IX] at hQ;exact J2 hQ
 ·have e:((List.range its.toArray.size).any λi=>(bs[i]?).getD true)=bs.any id:=by
   rw[FP,hb.length];exact uw bs
  rw[e];exact⟨.bl _,H,I.kept (t':=tk) (LSm.kept_iter hk),rfl,q⟩
noncomputable def Lu (ws:List W):M W:=match ws with
 |[w]=>bd (Nk w) λl=>match Om bOf l with
  |some ns=>pr (.bl (ns.any id))
  |none=>no
 |_=>no
theorem C1 (hc:X.calm=true)(hm:X.mg "any"=none)(ha:JA X E [a] l)(hg:Gl X "any")(he:Kd [a] X.env=(false,Ka a X.env)::Kd [] X.env)(hpl:(Kc pos (Kd [] X.env)).any (·.1)=false):JE X E (.Call (.Name "any" p) [a] [] pos) (Nn Lu l):=
 cI (yE hc) (λo ws vs Q R rv h=>by
  unfold Lu at h;split at h
  ·obtain⟨v,rfl,r⟩:=rv.one;obtain⟨l,a,us,rfl,s,r,h⟩:=ck R r h;cases e:Om bOf l with
   |none=>rw[e] at h;exact h.elim
   |some ns=>
    rw[e] at h;rw[cY yM e r] at s;exact⟨a,ns,rfl,s,h.pr R (OU.mpr rfl)⟩
  ·exact h.elim) hg hm PyProof.Rows.boot_any ha (he:=he) (hpl:=hpl)
noncomputable def tTR1 (ta:TA):TE:=λσ H Q=>ta σ H λvs H1=> ∃j:Int,vs=[.int j]/\(-(2 ^ 62)<=j/\j<2 ^ 62)/\j.toNat<=sizeLine/\ ∀l,H1 l=none->Q (.ref l) (upd H1 l (.tup (Mv 0 j.toNat)))
theorem rc (hc:X.calm=true)(hgl:Gl X "tuple")(hml:X.mg "tuple"=none)(hg:Gl X "range")(hm:X.mg "range"=none)(ha:PA X [a] ta)(hs:Kd [a] X.env=[(false,Ka a X.env)]:=by rfl)
  (he:Kd [.Call (.Name "range" p2) [a] [] pos2] X.env=(false,Ka (.Call (.Name "range" p2) [a] [] pos2) X.env)::Kd [] X.env:=by rfl)(hpl:(Kc pos (Kd [] X.env)).any (·.1)=false:=by rfl):
  PE X (.Call (.Name "tuple" p) [.Call (.Name "range" p2) [a] [] pos2] [] pos) (tTR1 ta):=by
 intro pins s σ H Q I h;refine KA (f8 I hgl hml PyProof.Rows.boot_tuple ?_ ↥_ ↥_);refine PyProof.Rows.callWith_type1 ?_ he hpl;rw[he];refine Calls.spliced_cons ?_;refine Call_ (f8 I hg hm boot_range (PyProof.Rows.callWith_type1 (thn (ha pos2 pins s σ H _ I h) λus s1 qz=>?_) (by rw[hs];rfl) (by rfl)));obtain⟨vs,H1,I1,r1,q1⟩:=qz;obtain⟨j,e,⟨q3,q4⟩,hz,q⟩:=q1;subst e;cases r1 with
 |cons r rr=>
  cases rr;obtain⟨t,rfl⟩:=r;refine call_range_1 (Calls.spliced_nil ?_);have I2:Inv X pins σ H1 {s1 with heap:=s1.heap.push {cls:=.type "range",data:=.fields #[.int 0 s1.toks,.int j t,.int 1 (s1.toks+1)]},toks:=s1.toks+1+1}:=I1.kept λb o e=>FD _ e;have hn:Jy.Range.rangeSize 0 j 1=(j.toNat:Int):=by rw[rangeSize_one];split<;>omega
  refine jP (I2.ok.hd hc) (IsRange.new ..) (small_one ↥_ ↥_ q3 q4) hn (F6 hz ↥_) hz λh' tk acc' hk hacc=>?_;have vs:Vals (Mv 0 j.toNat) acc'.toList:=ky _ _ _ (by rw[Gy,hacc.1]) λk v e=>by
   obtain⟨t,e⟩:=hacc.2 k v (by rw[<-ID];exact e);exact⟨t,by rw[e];congr 1;omega⟩
  have I3:Inv X pins σ H1 {s1 with heap:=h',toks:=tk}:=I2.kept (t':=tk) hk;exact⟨.ref _,_,I3.laid (t':=tk) (λb o e=>FD _ e) (Fy _) (show ObjOk X.prog X.w _ (h'.push {cls:=.type "tuple",data:=.seq acc'}) _ (.tup (Mv 0 j.toNat)) from⟨by rw[mZ];exact hz,acc'.toList,vs,by rw[Jc];exact IsTupD.new _ _⟩),rfl,q _ (I3.hok.fresh (Fy _))⟩
noncomputable def Qf (ws:List W):M W:=match ws with
 |[.int j]=>gd ((-(2 ^ 62)<=j/\j<2 ^ 62)/\j.toNat<=sizeLine) (pr (.tup (Mw 0 j.toNat)))
 |_=>no
theorem rB (hc:X.calm=true)(hml:X.mg "tuple"=none)(hm:X.mg "range"=none)(ha:JA X E [a] l)(hgl:Gl X "tuple")(hg:Gl X "range")(hs:Kd [a] X.env=[(false,Ka a X.env)])
  (he:Kd [.Call (.Name "range" p2) [a] [] pos2] X.env=(false,Ka (.Call (.Name "range" p2) [a] [] pos2) X.env)::Kd [] X.env)(hpl:(Kc pos (Kd [] X.env)).any (·.1)=false):JE X E (.Call (.Name "tuple" p) [.Call (.Name "range" p2) [a] [] pos2] [] pos) (Nn Qf l):=
 (rc hc hgl hml hg hm ha.h hs he hpl).imp λσ H Q h=>by
  obtain⟨o,ρ,rfl,R,S,h⟩:=h;refine⟨o,ρ,rfl,R,S,Ps.bd h λp x vx e1 R1 r1 h1=>?_⟩;unfold Qf at h1;split at h1
  ·obtain⟨v,rfl,r⟩:=r1.one;obtain⟨hz,h1⟩:=h1.gd;exact⟨_,by rw[OV.mp r],hz.1,hz.2,λl hl=>i9 R1 hl (mL _ _) h1⟩
  ·exact h1.elim
theorem xE {x:Str}{i:Int}(hm:X.mg x=some (.ref c))(hq: ∀H,SqT X.K H c [.ref d,.int i])(hq2: ∀H,SqT X.K H d (ks.map V.int))(hg:Gl X x:=by rfl)(hd:(x==("__debug__":Str))=false:=by decide):JE X E (.Name x pos) (mC (M0 true (i,ks))):=
 j6 (v:=.ref c) hg hm rfl (λo=>tH (b:=true) (k:=(i,ks)) ⟨d,hq _,hq2 _⟩) hd
end
end
section
open Sem (wp)
section
variable {prog:JB}{w:JC}{A:JL}{E:Jx->JJ->Prop}{s:JJ}
theorem rY {ep:Nat}{Q:Jx->JJ->Prop}(hs:(d==J4)=false)(hd:RawD s.heap d es ep)
  (k:Q (.ref ↥s) {s with heap:=s.heap.push {cls:=.type "dict_items",data:=.fields #[.ref d]}}):
  JN (JP prog w) A (call (.builtin "dict.items") [.ref d]) Q E s:=by
 obtain⟨od,g1,g2,g3⟩:=hd;have hT:s.TypeIs (.ref d) "dict":=⟨_,g1,g2.1⟩
 refine JV F.slot_dict_items hT F.entry_dict_items ?_ (F.args_dict_items_1 _);show JN _ _ (((typeOf (.ref d)>>=_)>>=_)>>=_) _ _ s;refine JR (JR (JR (wpAny_typeOf (T:= "dict") hT ?_)));show JN _ _ (pure ()) _ _ s;refine JX ?_;show JN _ _ (pure d) _ _ s;refine JX ?_;show JN _ _ (Jy.Dict.showsAll d>>=_) _ _ s;unfold Jy.Dict.showsAll;rw[hs,if_neg ↥_];refine JR (JX ?_);refine JR (KF ?_ (show 1<=_ by decide));exact JX ⟨_,rfl,k⟩
theorem rL {ep:Nat}{Q:Jx->JJ->Prop}(hv:s.heap.IsItemsView v d)(hd:RawD s.heap d es ep)
  (k:Q (.ref ↥s) {s with heap:=s.heap.push {cls:=.type "dict_itemiterator",data:=.fields #[.none,.bool false,.ref d,.int 0 0,.int (es.size:Nat) 0,.int ep 0,.none,.none]}}):
  JN (JP prog w) A (pyIter (.ref v)) Q E s:=by
 have hT:=hv.typeIs (s:=s);obtain⟨o,h1,h2,h3⟩:=hv;obtain⟨od,g1,g2,g3⟩:=hd;refine wpAny_pyIter_slot hT F.slot_dict_items_iter (JV F.slot_dict_items_iter hT F.entry_dict_items_iter ?_ (F.args_dict_items_iter_1 _));show JN _ _ ((field (.ref v) 0>>=_)>>=_) _ _ s;refine JR (JR (KE h1 h3 (x:=.ref d) rfl ?_));refine JX ?_;show JN _ _ ((dictEntries d>>=_)>>=_) _ _ s;refine JR (JR (wpAny_dictEntries g1 g3 (JR (wpAny_dictEpoch g1 g3 ?_))));refine KF ?_ (show 8<=_ by decide);exact JX ⟨_,rfl, "dict_itemiterator",_,⟨_,FX _ rfl,rfl⟩,F.slot_dict_itemiterator_next.lookup,k⟩
theorem mQ:Jy.Dict_items.ownsTuple "dict_itemiterator"=true:=↥_
theorem uL {i n ep:Nat}{ok ov:Jx}{Q:Option Jx->JJ->Prop}(hi:IsItemIter s.heap it d i n ep ok ov)(hd:RawD s.heap d es ep)(hn:es.size=n)(he:es[i]?=some e)
  (k:∀h':JD,IsItemIterOut h' it d (i+1) n ep e.key e.val ↥s->h'.get? ↥s=some {cls:=.type "tuple",data:=.seq #[e.key,e.val]}->(∀b o,b≠it->s.heap.get? b=some o->h'.get? b=some o)->Q (some (.ref ↥s)) {s with heap:=h'}):
  JN (JP prog w) A (Ko (.ref it)) Q E s:=by
 obtain⟨hp,g,dr,tk,os⟩:=s;have hT:JJ.TypeIs ⟨hp,g,dr,tk,os⟩ (.ref it) "dict_itemiterator":=⟨_,hi,rfl⟩
 obtain⟨od,g1,g2,g3⟩:=hd;unfold Ko;refine JR (wpAny_attempt (wpAny_callSpecial?_slot (name:=Str.ofString "__next__") hT F.slot_dict_itemiterator_next (JV F.slot_dict_itemiterator_next hT F.entry_dict_itemiterator_next ?_ (F.args_dict_itemiterator_next_1 _))));show JN _ _ (((typeNameOfWhole (.ref it)>>=_)>>=_)>>=_) _ _ _;refine JR (JR (JR (wpAny_typeNameOfWhole_itemiter hT (JX ?_))));refine JR (wpAny_fieldsOf hi rfl ?_);simp only[mQ,if_true];show JN _ _ (dictEntries d>>=_) _ _ _;refine JR (wpAny_dictEntries g1 g3 ?_);have z:((es.size:Int) !=(n:Int))=false:=by rw[hn];simp
 show JN _ _ (if ((es.size:Int) !=(n:Int))=true then _ else dictEpoch d>>=_) _ _ _;rw[z,if_neg ↥_];refine JR (wpAny_dictEpoch g1 g3 ?_);have z2:((ep:Int) !=(ep:Int))=false:=⇑_;show JN _ _ (if ((ep:Int) !=(ep:Int))=true then _ else _) _ _ _;rw[z2,if_neg ↥_];refine JX ?_;have z3:(if ((i:Nat):Int)<0 then none else es[((i:Nat):Int).toNat]?)=some e:=by rw[if_neg ∅,Hm];exact he
 dsimp only;rw[z3];dsimp only;refine JR (JR (wpAny_typeNameOfWhole_itemiter hT (JX ?_)));refine JR (wpAny_isOneOf_itemiter hT ?_);show JN _ _ (setField (.ref it) 3 (Kq ((i:Int)+1))>>=_) _ _ _;refine JR (KU hi ⇑_ λh1 e1 s1=>?_);have s1:GD it hp h1:=s1;have e1:IsItemIter h1 it d (i+1) n ep ok ov:=by
  have q:((i+1:Nat):Int)=(i:Int)+1:=∅;unfold IsItemIter;rw[q];simpa [Kq] using e1
 have hT1:JJ.TypeIs ⟨h1,g,dr,tk,os⟩ (.ref it) "dict_itemiterator":=⟨_,e1,rfl⟩
 refine JR (J1 (JR (wpAny_isOneOf_itemiter hT1 (JR (wpAny_isOneOf_itemiter hT1 ?_)))));show JN _ _ (Jy.Dict_items.pairFromOwner (.ref it) 6 e.key e.val) _ _ ⟨h1,g,dr,tk,os⟩;unfold Jy.Dict_items.pairFromOwner;refine JR (wpAny_newTuple ?_);have z1:h1.objs.size=hp.objs.size:=s1.1;have il:it<hp.objs.size:=FJ hi;have nt:hp.objs.size≠it:=Hk il;have t2:(h1.push {cls:=.type "tuple",data:=.seq #[e.key,e.val]}).get? hp.objs.size=some {cls:=.type "tuple",data:=.seq #[e.key,e.val]}:=by rw[<-z1];exact FX _ rfl
 have e2:IsItemIter (h1.push {cls:=.type "tuple",data:=.seq #[e.key,e.val]}) it d (i+1) n ep ok ov:=FD _ e1;have k2: ∀b o,b≠it->hp.get? b=some o->(h1.push {cls:=.type "tuple",data:=.seq #[e.key,e.val]}).get? b=some o:=λb o hb q=>FD _ (s1.extBut b o hb q);show JN _ _ (Jy.Dict_items.ownedTupleIsFree (.ref it)>>=_) _ _ ⟨h1.push {cls:=.type "tuple",data:=.seq #[e.key,e.val]},g,dr,tk,os⟩;rw[z1];generalize h1.push {cls:=.type "tuple",data:=.seq #[e.key,e.val]}=h2 at e2 t2 k2;refine JR ?_;unfold Jy.Dict_items.ownedTupleIsFree;refine JR (KE e2 rfl (x:=.none) rfl (JX ?_));simp only[if_true];refine JR (KE e2 rfl (x:=ok) rfl (JR (KE e2 rfl (x:=ov) rfl ?_)));refine JR (KU e2 ⇑_ λh3 e3 s3=>?_);refine JR (KU e3 ⇑_ λh4 e4 s4=>?_);refine JR (KU e4 ⇑_ λh5 e5 s5=>?_);refine JR (KU e5 ⇑_ λh6 e6 s6=>?_);have ke: ∀b o,b≠it->h2.get? b=some o->h6.get? b=some o:=λb o hb q=>s6.extBut b o hb (s5.extBut b o hb (s4.extBut b o hb (s3.extBut b o hb q)));exact JR (KZ (JX (JX ⟨_,rfl,JX (k h6 e6 (ke _ _ nt t2) λb o hb q=>ke b o hb (k2 b o hb q))⟩)))
theorem yr {i n ep:Nat}{ok ov:Jx}{Q:Option Jx->JJ->Prop}(hh:A.in1.handled=none)(hi:IsItemIter s.heap it d i n ep ok ov)(hd:RawD s.heap d es ep)(hn:es.size=n)(he:es[i]?=none)
  (k:∀h':JD,JD.ExtBut it s.heap h'->Q none {s with heap:=h'}):
  JN (JP prog w) A (Ko (.ref it)) Q E s:=by
 have hT:s.TypeIs (.ref it) "dict_itemiterator":=⟨_,hi,rfl⟩
 obtain⟨od,g1,g2,g3⟩:=hd;unfold Ko;refine JR (wpAny_attempt (wpAny_callSpecial?_slot (name:=Str.ofString "__next__") hT F.slot_dict_itemiterator_next (JV F.slot_dict_itemiterator_next hT F.entry_dict_itemiterator_next ?_ (F.args_dict_itemiterator_next_1 _))));show JN _ _ (((typeNameOfWhole (.ref it)>>=_)>>=_)>>=_) _ _ _;refine JR (JR (JR (wpAny_typeNameOfWhole_itemiter hT (JX ?_))));refine JR (wpAny_fieldsOf hi rfl ?_);simp only[mQ,if_true];show JN _ _ (dictEntries d>>=_) _ _ _;refine JR (wpAny_dictEntries g1 g3 ?_);have z:((es.size:Int) !=(n:Int))=false:=by rw[hn];simp
 show JN _ _ (if ((es.size:Int) !=(n:Int))=true then _ else dictEpoch d>>=_) _ _ _;rw[z,if_neg ↥_];refine JR (wpAny_dictEpoch g1 g3 ?_);have z2:((ep:Int) !=(ep:Int))=false:=⇑_;show JN _ _ (if ((ep:Int) !=(ep:Int))=true then _ else _) _ _ _;rw[z2,if_neg ↥_];refine JX ?_;have z3:(if ((i:Nat):Int)<0 then none else es[((i:Nat):Int).toNat]?)=none:=by rw[if_neg ∅,Hm];exact he
 dsimp only;rw[z3];dsimp only;refine JR (JR (wpAny_typeNameOfWhole_itemiter hT (JX ?_)));show JN _ _ (setField (.ref it) 2 .none>>=_) _ _ s;refine JR (KU hi ⇑_ λh1 e1 s1=>?_);refine JR (xj λh' e kp nw th=>wpAny_raiseNew_none hh ?_);obtain⟨o,q1,q2⟩:=th;exact JR (JZ (T:= "StopIteration") (b:=true) ⟨o,q1,q2⟩ isSubtype_stop (JX (k _ λb o hb q=>kp b o (s1.extBut _ _ hb q))))
end
theorem lI:entryFor table "dict_itemiterator.__iter__"=some Jy.«dict_keyiterator.__iter__»:=entryFor_alias (id':= "dict_keyiterator.__iter__") (by kernel_rfl) rfl ⋯ (by kernel_rfl)
noncomputable def Ity (a:JG)(b:Bool)(xs:List (PKy×JG×V))(ep:Nat):It where
 go:=λi H=>H a=some (.dN b xs ep)/\i<xs.length
 yld:=λi H x H'=> ∃T y,H T=none/\x=.ref T/\xs[i]?=some y/\H'=upd H T (.tup [.ref y.2.1,y.2.2])
 stop:=λi H=>H a=some (.dN b xs ep)/\i=xs.length
theorem qD {P:JB}{w:JC}{K:Zf}{elts:List Expr}{x1}{tpos:Kb}(it a:JG)(b:Bool)(xs:List (PKy×JG×V))(ep:Nat):Lo P w K (.Tuple elts x1 tpos) (Ity a b xs ep) [it] it (λi h=> ∃ok ov,IsItemIter h it a i xs.length ep ok ov) where
 mem:=⇑_
 obj:=λi h st b hb=>by
  have e:b=it:=by simpa using hb
  subst e;obtain⟨ok,ov,e⟩:=st;exact⟨_,e,λv z=>by cases z⟩
 keep:=λi h h' st k=>let ⟨ok,ov,e⟩:=st;⟨ok,ov,k it ⇑_ _ e⟩
 item:=by
  intro X hP hw hK hc i pins s σ H E I hf st hg;subst hP hw hK;obtain⟨e,hl⟩:=hg;obtain⟨hs,es,rd,sz,at_⟩:=nQ I e;obtain⟨y,hy⟩: ∃y,xs[i]?=some y:=⟨_,F4 hl⟩
  obtain⟨d,hd,kd,vd⟩:=at_ i y hy;have fi:=hf it ⇑_;obtain⟨ok,ov,st⟩:=st;refine uL st rd sz hd λh' hout hT hk=>?_;have nT:H ↥s=none:=I.hok.fresh (Fy _);have lt: ∀b o,s.heap.get? b=some o->b≠↥s:=λb o q=>F5 (FJ q);have ltH: ∀b o,H b=some o->b≠↥s:=λb o q z=>by rw[z,nT] at q;cases q
  have neH: ∀b o,H b=some o->b≠it:=λb o q z=>by rw[z,fi.1] at q;cases q
  have I1:Inv X pins σ (upd H ↥s (.tup [.ref y.2.1,y.2.2])) {s with heap:=h'}:=by
   refine I.call' (s':={s with heap:=h'}) (ch:=[it]) rfl ⟨λb o q n hb hx=>?_,λb o q n hb hx=>?_,λb o q n hx=>?_,λb o q hx=>?_,λb xs q=>?_,λb o u q=>?_,λb ps q=>?_⟩ (λb o q=>?_) I.bare λb hb=>?_
   ·exact hk b o (λz=>hx (by simp [z])) q
   ·exact⟨o.slots,hk b o (λz=>hx (by simp [z])) q⟩
   ·rw[ag (lt b o q)];exact n
   ·exact⟨o,hk b o (λz=>hx (by simp [z])) q⟩
   ·rw[ag (ltH b _ q)];exact q
   ·rw[ag (ltH b _ q)];exact q
   ·exact⟨#[],by rw[ag (ltH b _ q),q];simp⟩
   ·by_cases hb:b=↥s
    ·subst hb;rw[ao] at q;cases q;exact⟨by show 2<=sizeLine;decide,_,.cons kd (.cons vd .nil),⟨_,hT,rfl,_,rfl⟩,_,hT,rfl⟩
    ·rw[ag hb] at q;refine (I.hok b o q).stay (λc v hc r=>?_) (λc r=>by rw[ag (ltH c _ r)];exact r) λc xs r=>by rw[ag (ltH c _ r)];exact r
     have: ∃o,H c=some o:=by
      rcases hc with rfl|hc
      ·exact⟨o,q⟩
      ·exact⟨_,hc⟩
     obtain⟨o',qo⟩:=this;exact hk c v (neH c o' qo) r
   ·have e':b=it:=by simpa using hb
    subst e';exact⟨fi.2.2.2.1,fi.2.1,fi.2.2.2.2.1,fi.2.2.2.2.2⟩
  refine⟨_,rfl,wpAny_letOwnedTupleGo_items (s:={s with heap:=h'}) hout λh2 he2 hs2=>?_⟩;have neT:it≠↥s:=lt _ _ st;have fe':(upd H ↥s (.tup [.ref y.2.1,y.2.2])) it=none:=by rw[ag neT];exact fi.1
  refine⟨.ref ↥s,upd H ↥s (.tup [.ref y.2.1,y.2.2]),?_,rfl,⟨↥s,y,nT,rfl,hy,rfl⟩,⟨_,_,he2⟩,λb hb=>?_⟩
  ·exact I1.turned (t':=s.toks) (λb o hb eo=>(hs2.2 b hb).trans eo) fe' fi.2.1 fi.2.2.2.1 fi.2.2.2.2.1 fi.2.2.2.2.2
  ·have e':b=it:=by simpa using hb
   subst e';exact fe'
 done:=by
  intro X hP hw hK hc i pins s σ H E I hf st hg;subst hP hw hK;obtain⟨e,hl⟩:=hg;obtain⟨hs,es,rd,sz,_⟩:=nQ I e;obtain⟨f0,f1,f2,f3,f4,f5⟩:=hf it ⇑_;obtain⟨ok,ov,st⟩:=st;exact yr (I.ok.hd hc) st rd sz (Array.getElem?_eq_none ∅) λh' eb=>⟨rfl,I.turned (t':=s.toks) (λb o hb e=>eb b o hb e) f0 f1 f3 f4 f5⟩
 self:=λ_ _ s _ _ st h=>by
  obtain⟨ok,ov,st⟩:=st;have hT:s.TypeIs (.ref it) "dict_itemiterator":=⟨_,st,rfl⟩
  refine wpAny_pyIter_slot hT F.slot_dict_itemiterator_iter (JV F.slot_dict_itemiterator_iter hT lI ?_ (F.args_dict_itemiterator_iter_1 _));show JN _ _ (ret (.ref it)) _ _ s;exact JX ⟨_,rfl, "dict_itemiterator",_,hT,F.slot_dict_itemiterator_next.lookup,h⟩
section
variable {X:Cx}{E:XK}{o e:Expr}{apos cpos:Kb}{fa:La->M W}{elts:List Expr}{tpos:Kb}
theorem Df {b:Bool}{ep:Nat}(I:Inv X pins σ H s)(ha:H a=some (.dN b xs ep)):s.TypeIs (.ref a) "dict"/\ ∀b,Jx.ref a=.ref b-> ∃ob,s.heap.get? b=some ob/\ob.dict=none:=by
 obtain⟨hs,es,⟨od,g1,g2,g3⟩,_⟩:=nQ I ha;exact⟨⟨_,g1,g2.1⟩,λc q=>by cases q;exact⟨od,g1,g2.2.1⟩⟩
noncomputable def iItm (te:TE):TI:=λσ H R=>te σ H λx H1=> ∃a b xs ep,x=.ref a/\H1 a=some (.dN b xs ep)/\R (Ity a b xs ep) H1
theorem wF {x1}(he:PE X o te)(hb:Kv o "items" X.env (Ka o X.env)=Ka o X.env)(hln:(apos.endLine==cpos.line)=true):PI X (.Tuple elts x1 tpos) (.Call (.Attribute o "items" apos) [] [] cpos) (iItm te):=by
 intro pins s σ H R I h;refine wpAny_Call_method hb rfl hln PySem.F.plainAttrs_dict PySem.F.slot_dict_items PySem.F.type_dict_items (thn (he pins s σ H _ I h) λu s1 qz=>?_);obtain⟨x,H1,I1,rx,a,b,xs,ep,ex,ha,q⟩:=qz;subst ex;obtain rfl:u=Jx.ref a:=rx;obtain⟨t1,t2⟩:=Df I1 ha;refine⟨t1,t2,?_⟩;obtain⟨hs,es,rd,sz,_⟩:=nQ I1 ha;refine Calls.callWith_builtin rfl ?_;show JN _ _ (pure _) _ _ _;refine JX (rY hs rd ?_);have I2:Inv X pins σ H1 {s1 with heap:=s1.heap.push {cls:=.type "dict_items",data:=.fields #[.ref a]},toks:=s1.toks}:=I1.kept λb o e=>FD _ e;have rd2:RawD (s1.heap.push {cls:=.type "dict_items",data:=.fields #[.ref a]}) a es ep:=rd.keep λo q=>FD _ q;refine rL (s:={s1 with heap:=s1.heap.push {cls:=.type "dict_items",data:=.fields #[.ref a]}}) ⟨_,FX _ rfl,rfl,rfl⟩ rd2 ?_;rw[sz];refine⟨_,[_],_,_,H1,rfl,I2.kept (t':=s1.toks) λb o e=>FD _ e,qD _ a b xs ep,⟨_,_,FX _ rfl⟩,λb hb=>?_,q⟩;have e:b=(s1.heap.push {cls:=.type "dict_items",data:=.fields #[.ref a]}).objs.size:=by simpa using hb
 subst e;exact I2.fpOk (Fy _) (I2.hok.fresh (Fy _))
noncomputable def PP (w:W):M Sr:=match w with
 |.dn b ks ws=>pr ⟨HP (λk w=>.tup [M0 b k,w]) ks ws,λ_=>True⟩
 |_=>no
theorem xw {x1}(he:JE X E o fa)(hb:Kv o "items" X.env (Ka o X.env)=Ka o X.env)(hln:(apos.endLine==cpos.line)=true):JI X E (.Tuple elts x1 tpos) (.Call (.Attribute o "items" apos) [] [] cpos) (NB fa PP):=(wF he.h hb hln).imp λσ H Q h=>by
 ac_nf;cases x with
 |dn b ks ws=>
  unfold Rv at r1;obtain⟨a,⟨xs,ep⟩,rfl,ha,n,hk,hn,hv⟩:=r1;dsimp only at ha hk hn hv;have lk:ks.length=xs.length:=by rw[<-hk,Fx]
  have lw:ws.length=xs.length:=by have:=hv.len;rw[Fx] at this;exact this.symm
  refine⟨a,b,xs,ep,rfl,ha,h1.pr R1 ⟨λo X R g=>⟨(X.fr a _ ha n).1,by rw[HQ,lk,lw,IH]⟩,λo i w X R g ei=>?_⟩⟩;rw[Iz] at ei;cases ek:ks[i]? with
  |none=>rw[ek] at ei;cases ei
  |some k=>
   cases ew:ws[i]? with
   |none=>rw[ek,ew] at ei;cases ei
   |some w'=>
    rw[ek,ew] at ei;cases ei;rw[<-hk,FG] at ek;obtain⟨y,ey,rfl⟩:=FQ.mp ek;obtain⟨v,hv1,rv⟩:=(hv.mono R1 X).get ew;rw[FG,ey] at hv1;cases hv1;refine⟨⟨(X.fr a _ ha n).1,(FO.mp ey).1⟩,λx H' hy=>?_⟩;obtain⟨T,y',hT,rfl,ey',rfl⟩:=hy;rw[ey] at ey';cases ey';exact⟨⟨o.mu,o.h,upd o.H T (.tup [.ref y.2.1,y.2.2])⟩,rfl,rfl,Ex.new hT,R.new hT,Rv.newT R hT (Rvs.cons (tH ((hn y (F9 ey)).mono X R1)) (Rvs.cons rv Rvs.nil))⟩
 |_=>exact h1.elim
end
end
section
section
variable {X:Cx}{E:XK}
noncomputable def O0:La->M Fl:=λ_=>no
theorem Cu {st:Ke}:JS X E st O0:=⟨λpins s σ H D I q=>by
 obtain⟨o,ρ,rfl,R,S,h⟩:=q
 exact h.elim⟩
noncomputable def db (x y:Str):List Str:=if (decide (x.length<y.length)||decide (Jy.Str.strKind x<Jy.Str.strKind y))=true then [x] else if (Jy.Str.occurrences x y 0 x.length (x.length+1)).isEmpty=true then [x] else Jy.Str.partsBetween x (Jy.Str.occurrences x y 0 x.length (x.length+1)) y.length
noncomputable def BC:V->List V->Hp->VK->Prop:=λx vs H Q=> ∃ (a b:Str),x=.str a/\vs=[.str b]/\(b.length==0)=false/\a.length<=sizeLine/\(db a b).length<=sizeLine/\ ∀q,H q=none->Q (.ref q) (upd H q (.lst ((db a b).map V.str)))
theorem mD: ∀ (l:List Str) (t:Nat),Vals (l.map V.str) (strsFrom t l)
 |[],_=>.nil
 |x::l,t=>.cons ⟨_,rfl⟩ (mD l (t+1))
theorem jH {l:List Str}{tk:Nat}(I:Inv X pins σ H s)(hv:Vals (l.map V.str) us)(hz:l.length<=sizeLine)(q:∀q,H q=none->Q (.ref q) (upd H q (.lst (l.map V.str)))):
  EP X pins σ Q (.ref ↥s) {s with toks:=tk,heap:=s.heap.push {cls:=.type "list",data:=.seq us.toArray}}:=
 ⟨.ref ↥s,_,I.laid (t':=tk) (λb o e=>FD _ e) (Fy _) (show ObjOk X.prog X.w _ (s.heap.push {cls:=.type "list",data:=.seq us.toArray}) _ (.lst (l.map V.str)) from⟨by rw[Fx];exact hz,us,_,hv,FX _ rfl⟩),rfl,q _ (I.hok.fresh (Fy _))⟩
theorem xr:MtR X "str.split" BC:=by
 intro pins s σ H x vs v us Q I rx rv h;obtain⟨a,b,rfl,rfl,hb,ha,hz,q⟩:=h;obtain⟨t,rfl⟩:=rx;obtain⟨u,rfl,ru⟩:=rv.one;obtain⟨t2,rfl⟩:=ru;by_cases c1:(decide (a.length<b.length)||decide (Jy.Str.strKind a<Jy.Str.strKind b))=true
 ·have e:db a b=[a]:=if_pos c1;rw[e] at q;refine KI F.slot_str_split (KG s a t) F.entry_str_split (F.args_str_split_2 _ _) (meets_str_split_cannot_occur a b t t2 c1) ?_;exact jH (l:=[a]) (us:=[.str a t]) (tk:=s.toks) I (.cons ⟨t,rfl⟩ .nil) (by show 1<=sizeLine;decide) q
 ·have c1':(decide (a.length<b.length)||decide (Jy.Str.strKind a<Jy.Str.strKind b))=false:=by rw[<-He];exact c1
  by_cases c2:(Jy.Str.occurrences a b 0 a.length (a.length+1)).isEmpty=true
  ·have e:db a b=[a]:=by unfold db;rw[if_neg c1,if_pos c2]
   rw[e] at q;refine KI F.slot_str_split (KG s a t) F.entry_str_split (F.args_str_split_2 _ _) (meets_str_split_not_found a b t t2 c1' hb c2) ?_;exact jH (l:=[a]) (us:=[.str a t]) (tk:=s.toks) I (.cons ⟨t,rfl⟩ .nil) (by show 1<=sizeLine;decide) q
  ·have c2':(Jy.Str.occurrences a b 0 a.length (a.length+1)).isEmpty=false:=by rw[<-He];exact c2
   have e:db a b=Jy.Str.partsBetween a (Jy.Str.occurrences a b 0 a.length (a.length+1)) b.length:=by unfold db;rw[if_neg c1,if_neg c2]
   rw[e] at q hz;refine KI F.slot_str_split (KG s a t) F.entry_str_split (F.args_str_split_2 _ _) (meets_str_split_sep a b t t2 c1' hb c2' ha hz) ?_;exact jH (l:=Jy.Str.partsBetween a (Jy.Str.occurrences a b 0 a.length (a.length+1)) b.length) I (mD _ _) hz q
noncomputable def PM (x:W)(ws:List W):M W:=match x,ws with
 |.str a,[.str b]=>gd ((b.length==0)=false/\a.length<=sizeLine/\(db a b).length<=sizeLine) (pr (.tl ((db a b).map W.str)))
 |_,_=>no
theorem gU {K:Zf}: ∀ns:List Str,Rvs K o (ns.map W.str) (ns.map V.str)
 |[]=>Rvs.nil
 |n::r=>Rvs.cons (OY.mpr rfl) (gU r)
variable {o e:Expr}{apos cpos:Kb}{fo:La->M W}{l:La->M (List W)}
theorem xA (ho:JE X E o fo)(ha:JA X E [e] l)(hbase:Kv o "split" X.env (Ka o X.env)=Ka o X.env)
  (hfew:((Kc cpos (Kd [e] X.env)).all (λx=>!x.1) && (Kw cpos (Kx [] X.env)).all (λx=>x.1.isSome) && decide (([e]:List Expr).length+([]:List KB).length+(if ([]:List KB).isEmpty then 0 else 1)<30))=true)
  (hline:(apos.endLine==cpos.line)=true)(hs:Kd [e] X.env=(false,Ka e X.env)::Kd [] X.env)(hplain:(Kc cpos (Kd [] X.env)).any (·.1)=false):
  JE X E (.Call (.Attribute o "split" apos) [e] [] cpos) (Nu isS PM fo l):=
 (sV PySem.F.plainAttrs_str PySem.F.slot_str_split PySem.F.type_str_split xr ho.h ha.h hbase hfew hline hs hplain).imp λσ H Q h=>by
  obtain⟨w,ρ,rfl,R,S,h⟩:=h;refine⟨w,ρ,rfl,R,S,Ps.bd h λp x vx e1 R1 r1 h1=>?_⟩;cases x with
  |str a=>
   have h1:Ps (cg X E) (Rv X.K) p (bd (l ρ) (λws=>PM (.str a) ws) p.h) Q:=h1;rw[OY.mp r1];refine⟨rfl,p,ρ,rfl,R1,S.mono R e1,Ps.bd h1 λq ws vs e2 R2 r2 h2=>?_⟩;rcases ws with _|⟨w',_|⟨_,_⟩⟩
   ·exact h2.elim
   ·obtain⟨v,rfl,r⟩:=r2.one;cases w' with
    |str b=>
     have h2:Ps (cg X E) (Rv X.K) q (gd ((b.length==0)=false/\a.length<=sizeLine/\(db a b).length<=sizeLine) (pr (.tl ((db a b).map W.str))) q.h) Q:=h2;obtain⟨hz,h2⟩:=h2.gd;exact⟨a,b,rfl,by rw[OY.mp r],hz.1,hz.2.1,hz.2.2,λq hq=>fX R2 hq (gU _) h2⟩
    |_=>exact h2.elim
   ·cases w'<;>exact h2.elim
  |_=>exact h1.elim
end
section
variable {X:Cx}{c m:Str}{C fA:JG}{fd:Ky}{ps:List Str}{k n:Nat}{fn:List W->M W}{o:Expr}{fo:La->M W}{pos apos:Kb}
theorem z9 (hn:Jv X.K J6 c=some (some (.ref C)))(cl:Cls X.K C)(F:CGm X.prog X.w X.K X.mg X.base k C m fA fd ps n fn)(hr:Room k X.A)(ho:JE X E0 o fo)
  (ht:Ka (.Call (.Attribute o m apos) [] [] pos) X.env=(do
   let ov<-Ka o X.env
   Ki apos.atName
   let (f,first)<-Kj [ov] (Ku ov m pl)
   callWith pos f first (Kc pos (Kd [] X.env)) (Kw pos (Kx [] X.env))):=by rfl):
  JE X E0 (.Call (.Attribute o m apos) [] [] pos) (Nt c m n fn fo Nx):=(dX ho.h cl F.me F.ok hr F.bi .nil Oq ht).imp λσ H Q h=>by
 obtain⟨w,ρ,rfl,R,S,h⟩:=h;refine⟨w,ρ,rfl,R,S,Ps.bd h λp x vx e1 R1 r1 h1=>?_⟩;obtain⟨a,dx,fs,rfl,q1,q2,h1⟩:=xY hn R1 r1 h1;have h1:Ps (cg X E0) (Rv X.K) p (arW n fn [x] p.h) Q:=h1;unfold arW at h1;by_cases z:([x]:List W).length=n
 ·rw[if_pos z] at h1;exact⟨a,dx,fs,rfl,q1,q2,p,[x],rfl,z,R1,by first|(rw[Gd];exact Rvs.cons r1 Rvs.nil)|exact Rvs.cons r1 Rvs.nil,h1⟩
 ·rw[if_neg z] at h1;exact h1.elim
theorem xB (M:Mk X.K C fA)(hn:Jv X.K J6 c=some (some (.ref C)))(F:FnOk X.prog X.w X.K X.mg X.base CX0 k fA fd ps (PJ X.K X.mg n fn))(hb:Binds X.K fd ps [])(hr:Room (k+1) X.A)(hm:X.mg c=some (.ref C))(hg:Gl X c:=by rfl)
  (hdb:(c==("__debug__":Str))=false:=by decide):JE X E0 (.Call (.Name c p0) [] [] pos) (Nr c n fn Nx):=(wJ M F hr hg hm hb .nil Oq hdb).imp λσ H Q h=>by
 obtain⟨p,ρ,rfl,R1,S,h⟩:=h;intro x dx hx hdx hne;have X1:Ex p ⟨p.mu,p.h,upd p.H dx (.own x)⟩:=Ex.new hdx;have N1:Rel X.K ⟨p.mu,p.h,upd p.H dx (.own x)⟩:=R1.new hdx;have hx1:(⟨p.mu,p.h,upd p.H dx (.own x)⟩:Wo).H x=none:=by
  show upd p.H dx (.own x) x=none;rw[ag (Ne.symm hne)];exact hx
 have X2:Ex ⟨p.mu,p.h,upd p.H dx (.own x)⟩ (Wo.add ⟨p.mu,p.h,upd p.H dx (.own x)⟩ x (.ins c [] []) (.ins C dx [])):=Ex.add hx1;have N2:Rel X.K (Wo.add ⟨p.mu,p.h,upd p.H dx (.own x)⟩ x (.ins c [] []) (.ins C dx [])):=N1.add hx1 ⟨C,dx,[],hn,ao,rfl,Rvs.nil⟩
 have h1:Ps (cg X E0) (Rv X.K) p (match arW n fn [.loc p.h.length] (p.h++[.ins c [] []]) with
  |.ok .non h'=>.ok (.loc p.h.length) h'
  |_=>.bad) Q:=h
 by_cases z:([W.loc p.h.length]:List W).length=n
 ·rw[yR z] at h1;refine⟨Wo.add ⟨p.mu,p.h,upd p.H dx (.own x)⟩ x (.ins c [] []) (.ins C dx []),[.loc p.h.length],rfl,z,N2,?_,?_⟩
  ·exact Rvs.cons Rv.addLocI Rvs.nil
  ·show Ps ⟨X.K,X.mg,E0⟩ (Rv X.K) _ (fn [.loc p.h.length] (p.h++[.ins c [] []])) _;cases ef:fn [.loc p.h.length] (p.h++[.ins c [] []]) with
   |ok a h'=>
    rw[ef] at h1;cases a with
    |non=>
     intro p' b hp X3 R3 rb;refine⟨OX.mp rb,Ps.at (p:=p') h1 hp ((X1.trans X2).trans X3) R3 ?_⟩;have lt:p.h.length<(Wo.add ⟨p.mu,p.h,upd p.H dx (.own x)⟩ x (.ins c [] []) (.ins C dx [])).h.length:=by show _<(p.h++[_]).length;simp
     unfold Rv;refine⟨F8 lt X3.le,?_⟩;rw[X3.mu _ lt];show V.ref x=V.ref (if p.h.length=p.h.length then x else p.mu p.h.length);rw[if_pos rfl]
    |_=>exact h1.elim
   |ex y h'=>rw[ef] at h1;exact h1.elim
   |bad=>rw[ef] at h1;exact h1.elim
 ·have:arW n fn [.loc p.h.length]=no:=if_neg z;rw[this] at h1;exact h1.elim
end
end
section
section
noncomputable def MB (w:W):M W:=bd (Nj w) λ_=>pr w
end
end
section
section
variable {X:Cx}{E:XK}{o i e:Expr}{p apos cpos:Kb}{fo:La->M W}{l:La->M (List W)}
noncomputable def Pu (x:W)(ws:List W):M W:=match ws with
 |[.str k]=>bd (Nj x) λl=>match Om sOf l with
  |some (ss:List Str)=>match ss.findIdx? (λm=>decide (m=k)) with
   |some j=>pr (.int (j:Int))
   |none=>no
  |none=>no
 |_=>no
theorem vY {k:Str}: ∀ {ss:List Str}{us:List Jx},Vals (ss.map V.str) us->us.length=ss.length/\ ∀ (i:Nat) (u:Jx),us[i]?=some u-> ∃m,ss[i]?=some m/\eqU (.str k) u=decide (m=k)
 |[],_,r=>by rw[Ge] at r;cases r;exact⟨rfl,λi u h=>by cases h⟩
 |n::ss,_,r=>by
  rw[FK] at r;cases r with
  |cons h t=>
   obtain⟨a,b⟩:=vY (k:=k) t;refine⟨congrArg (· +1) a,λi u hu=>?_⟩;cases i with
   |zero=>
    cases hu;refine⟨n,rfl,?_⟩;rw[rV h rfl];by_cases q:n=k
    ·subst q;simp [eqV]
    ·rw[decide_eq_false q];simp [eqV,q]
   |succ i=>exact b i u hu
noncomputable def rSIdx:V->List V->Hp->VK->Prop:=λx vs H Q=> ∃ (p:JG) (ss:List Str) (k:Str) (j:Nat),x=.ref p/\vs=[.str k]/\H p=some (.lst (ss.map V.str))/\ss.findIdx? (λm=>decide (m=k))=some j/\Q (.int j) H
theorem zM:MtM X "list.index" rSIdx:=by
 intro pins s σ H x vs v us Q I rx rv h;obtain⟨p,ss,k,j,rfl,rfl,hp,hj,q⟩:=h;cases rx;obtain⟨u,rfl,ru⟩:=rv.one;obtain⟨t,rfl⟩:=ru;obtain⟨its,n,r,ho,hz⟩:=I.lst hp;obtain⟨len,gt⟩:=vY (k:=k) r;rw[Je] at hj;obtain⟨h1,h2,h3⟩:=hj;have at': ∀ (i:Nat) (hi:i<its.length),eqU (.str k) its[i]=decide (ss[i]'∅=k):=λi hi=>by
  obtain⟨m,e1,e2⟩:=gt i its[i] (F4 hi);rw[F4 ∅] at e1;cases e1;exact e2
 have lz:=hV;rw[Fx] at hz;refine KI F.slot_list_index ⟨_,ho,rfl⟩ F.entry_list_index (F.args_list_index_2 _ _) (SeqAt.list_indexAt p its.toArray n none #[] (.str k t) (eqU (.str k)) j (by rw[FP];omega) ∅ ?_ λm hm hlt=>?_) ⟨ho,λy hy=>fm (x:=.str k) (v:=.str k t) ⟨t,rfl⟩ rfl r ?_ y (by simpa using hy),.int j,H,I.tok _,⟨_,rfl⟩,q⟩
 ·rw[Jf,at' j ∅];exact h2
 ·rw[Jf,at' m (by rw[FP] at hm;exact hm)];have:=h3 m hlt;simpa using this
 ·rw[HU];exact Gf.mpr λ_ _=>rfl
theorem zZ (ho:JE X E o fo)(ha:JA X E [e] l)(hbase:Kv o "index" X.env (Ka o X.env)=Ka o X.env)
  (hfew:((Kc cpos (Kd [e] X.env)).all (λx=>!x.1) && (Kw cpos (Kx [] X.env)).all (λx=>x.1.isSome) && decide (([e]:List Expr).length+([]:List KB).length+(if ([]:List KB).isEmpty then 0 else 1)<30))=true)
  (hline:(apos.endLine==cpos.line)=true)(hs:Kd [e] X.env=(false,Ka e X.env)::Kd [] X.env)(hplain:(Kc cpos (Kd [] X.env)).any (·.1)=false):
  JE X E (.Call (.Attribute o "index" apos) [e] [] cpos) (Nu MB Pu fo l):=
 (sV PySem.F.plainAttrs_list PySem.F.slot_list_index PySem.F.type_list_index zM ho.h ha.h hbase hfew hline hs hplain).imp λσ H Q h=>by
  obtain⟨w,ρ,rfl,R,S,h⟩:=h;refine⟨w,ρ,rfl,R,S,Ps.bd h λp x vx e1 R1 r1 h1=>?_⟩;have h1:Ps (cg X E) (Rv X.K) p (bd (bd (Nj x) λ_=>pr x) (λx=>bd (l ρ) λws=>Pu x ws) p.h) Q:=h1;rw[aa] at h1;obtain⟨l0,a,vs0,rfl,s1,r3,h1⟩:=eA R1 r1 h1;rw[aA] at h1;refine⟨.inl ⟨rfl,vs0,.of s1⟩,p,ρ,rfl,R1,S.mono R e1,Ps.bd h1 λq ws vs e2 R2 r2 h2=>?_⟩;unfold Pu at h2;split at h2
  ·rename_i k;obtain⟨v,rfl,r⟩:=r2.one;obtain⟨l1,a1,vs1,ea,s2,r4,h2⟩:=eA R2 (r1.mono R1 e2) h2;cases ea;cases t1:Om sOf l1 with
   |none=>simp only[t1] at h2;exact h2.elim
   |some ss=>
    simp only[t1] at h2;have e3:vs1=ss.map V.str:=cY wf t1 r4;subst e3;cases hj:ss.findIdx? (λm=>decide (m=k)) with
    |none=>simp only[hj] at h2;exact h2.elim
    |some j=>
     simp only[hj] at h2;exact⟨a,ss,k,j,rfl,by rw[OY.mp r],s2,hj,h2.pr R2 (OV.mpr rfl)⟩
  ·exact h2.elim
end
end
end L2
namespace L2
open PySem
theorem qw {c:Nat}: ∀ {a b u v:List Nat},c ∉ a->c ∉ b->a++c::u=b++c::v->a=b/\u=v
 |[],[],u,v,_,_,e=>⟨rfl,(List.cons.inj e).2⟩
 |[],y::b,u,v,_,h,e=>absurd (List.cons.inj e).1 (λz=>h (z▸FI))
 |x::a,[],u,v,h,_,e=>absurd (List.cons.inj e).1 (λz=>h (z▸FI))
 |x::a,y::b,u,v,h1,h2,e=>by
  obtain⟨e1,e2⟩:=List.cons.inj e;obtain⟨q1,q2⟩:=qw (λz=>h1 (FV _ z)) (λz=>h2 (FV _ z)) e2;exact⟨by rw[e1,q1],q2⟩
theorem nE {a b:Str}(h:a.cps.toList=b.cps.toList):a=b:=by
 cases a;cases b;congr 1;exact Array.toList_inj.mp h
theorem ft (c:Nat)(x y:Str)(r:List Str):(Str.join ⟨#[c]⟩ (x::y::r)).cps.toList=x.cps.toList++c::(Str.join ⟨#[c]⟩ (y::r)).cps.toList:=by
 show ((x++(⟨#[c]⟩:Str))++Str.join ⟨#[c]⟩ (y::r)).cps.toList=_;rw[iE,iE,Gb];rfl
theorem pV {c:Nat}: ∀ {ps qs:List Str},ps≠ []->qs≠ []->(∀p∈ps,c ∉ p.cps.toList)->(∀p∈qs,c ∉ p.cps.toList)->Str.join ⟨#[c]⟩ ps=Str.join ⟨#[c]⟩ qs->ps=qs
 |[],_,h,_,_,_,_=>absurd rfl h
 |_::_,[],_,h,_,_,_=>absurd rfl h
 |[x],[y],_,_,_,_,e=>by rw[show x=y from e]
 |[x],y::z::r,_,_,f,_,e=>by
  have e:=congrArg (λs:Str=>s.cps.toList) e;rw[ft] at e;refine absurd ?_ (f x FI);have e:x.cps.toList=_:=e;rw[e];exact GA _ FI
 |x::w::s,[y],_,_,_,f,e=>by
  have e:=congrArg (λs:Str=>s.cps.toList) e;rw[ft] at e;refine absurd ?_ (f y FI);have e:_=y.cps.toList:=e;rw[<-e];exact GA _ FI
 |x::w::s,y::z::r,_,_,f,g,e=>by
  have e:=congrArg (λs:Str=>s.cps.toList) e;rw[ft,ft] at e;obtain⟨e1,e2⟩:=qw (f x FI) (g y FI) e;have e3:=pV (ps:=w::s) (qs:=z::r) ⇑_ ⇑_ (λp hp=>f p (FV _ hp)) (λp hp=>g p (FV _ hp)) (nE e2);rw[nE e1,e3]
theorem qH {c:Nat}{ps:List Str}(h:ps≠ [])(f:∀p∈ps,c ∉ p.cps.toList):db (Str.join ⟨#[c]⟩ ps) ⟨#[c]⟩=ps:=by
 have e:db (Str.join ⟨#[c]⟩ ps) ⟨#[c]⟩=Txt.split (Str.join ⟨#[c]⟩ ps) ⟨#[c]⟩:=rfl;rw[e];refine pV (c:=c) (λz=>?_) h (StrLaws.split_free _ _) f (StrLaws.join_split _ _);have:=PyProof.Rows.split_pos (Str.join ⟨#[c]⟩ ps) ⟨#[c]⟩;rw[z] at this;exact absurd this ⇑_
theorem o8 {c:Nat}{ps:List Str}(h:ps≠ [])(f:∀p∈ps,c ∉ p.cps.toList)(z:(Str.join ⟨#[c]⟩ ps).length<=sizeLine)(z2:ps.length<=sizeLine):PM (.str (Str.join ⟨#[c]⟩ ps)) [.str ⟨#[c]⟩]=pr (.tl (ps.map W.str)):=by
 show gd _ _=_;rw[qH h f,af ⟨rfl,z,z2⟩]
end L2
namespace L2
open PySem PySem.W PySem.Spec PyProof.Rows
section
variable {prog:JB}{w:JC}{A:JL}{E:Jx->JJ->Prop}{s:JJ}
theorem qf {Q:List Jx->JJ->Prop}(hl:IsTup s.heap l vs.toArray)(hz:vs.length<=sizeLine)
  (h:Q vs {s with heap:=(s.heap.push (seqObj "list" #[] 0)).update ↥s (JK.mapSeq (· ++vs.toArray))}):JN (JP prog w) A (collect (.ref l)) Q E s:=by
 obtain⟨o,ho,hc,n,hd⟩:=id hl;have g1:(s.heap.push (seqObj "list" #[] 0)).get? l=some o:=FD _ ho;have g2:=FX s.heap (o:=seqObj "list" #[] 0) rfl;have b2:((false||(Jx.type "tuple"==Jx.type "list"))||(Jx.type "tuple"==Jx.type "tuple"))=true:=by rfl
 unfold collect;refine JR (wpAny_runValue (codeAny_builtin entry_proto_collect' ?_));refine JR (m:=newList []) (wpAny_newList ?_ (FY _));refine JX ⟨Code.quiet_builtin _ ⋯,codeAny_builtin entry_list_iadd' ?_⟩;show JN _ _ (Jy.List.listExtendWith (.ref ↥s) (.ref l) (.ref ↥s)) _ _ {s with heap:=s.heap.push (seqObj "list" #[] 0)};unfold Jy.List.listExtendWith;refine JR (wpAny_typeOf (T:= "tuple") ⟨o,g1,hc⟩ ?_);rw[if_pos (by rw[show (Jx.type "tuple"==Jx.type "tuple")=true by rfl,Bool.or_true])];refine JR (listItems_at g1 hd (JR (listItems_at (xs:= #[]) (n:=0) g2 rfl ?_)));rw[if_neg ⇑_];refine JR (listUpdate_at (xs:= #[]) (n:=0) g2 rfl (JX ?_) (FY _) (by rw[Iv,FP];show 0+vs.length<=_;omega));show JN (JP prog w) A (load ↥s>>=λo=>_) Q E _;refine JR (wpAny_load (get?_update_seq g2 _) ?_);refine JX ?_;show Q ((#[]:Array Jx)++vs.toArray).toList _;rw[show ((#[]:Array Jx)++vs.toArray).toList=vs by simp];exact h
end
section
variable {X:Cx}{E:XK}
noncomputable def Mq (ns:List Int):Option (Array Nat):=Pb ns.length λi j=>decide (ns.getD i 0<ns.getD j 0)
theorem rO {ns:List Int}{its:List Jx}(r:Vals (ns.map V.int) its){i:Nat}(hi:i<ns.length): ∃t,its.getD i Jx.none=.int (ns.getD i 0) t:=by
 have e:(ns.map V.int)[i]?=some (.int (ns.getD i 0)):=by rw[FG,Gu,F4 hi];rfl
 obtain⟨v,e2,r2⟩:=r.get e;obtain⟨t,q⟩:=(show∃t,v=Jx.int (ns.getD i 0) t from r2)
 exact⟨t,by rw[Gu,e2,q];rfl⟩
theorem oN:CallR X (.builtin "sorted") (λxs H Q=> ∃ (p:JG) (ns:List Int) (π:Array Nat),xs=[.ref p]/\SqT X.K H p (ns.map V.int)/\2<=ns.length/\ns.length<=1000/\Mq ns=some π/\π.size=ns.length/\(∀i∈π.toList,i<ns.length)/\
  ∀q,H q=none->Q (.ref q) (upd H q (.lst (π.toList.map λi=>.int (ns.getD i 0))))):=by
 intro pins s σ H xs us Q I r h;obtain⟨p,ns,π,rfl,hq,h2,hz,hs,ps,pl,q⟩:=h;obtain⟨u,rfl,ru⟩:=Ql r;cases ru;obtain⟨its,rv,tp,_⟩:=I.tuple hq;have il:=rv.length;rw[Fx] at il;have big:1000<=sizeLine:=↥_;refine Calls.call_function_entry kind_sorted plain_sorted entry_sorted (args_sorted1 _) ?_;unfold Jy.«sorted»;refine JR (m:=checkCount "sorted" 1 1 _) (JX (JR (qf tp ∅ ?_)));refine JR (wpAny_newList ?_ ∅);have sz:((s.heap.push (seqObj "list" #[] 0)).update ↥s (JK.mapSeq (· ++its.toArray))).objs.size=↥s+1:=by rw[JD.size_update,size_push']
 have keep: ∀b o,s.heap.get? b=some o->(((s.heap.push (seqObj "list" #[] 0)).update ↥s (JK.mapSeq (· ++its.toArray))).push (seqObj "list" its.toArray 0)).get? b=some o:=λb o e=>by
  refine FD _ ?_;rw[Hd _ _ _ _ (F5 (FJ e))];exact FD _ e
 have oD:(((s.heap.push (seqObj "list" #[] 0)).update ↥s (JK.mapSeq (· ++its.toArray))).push (seqObj "list" its.toArray 0)).get? (↥s+1)=some (seqObj "list" its.toArray 0):=by
  rw[<-sz];exact FX _ rfl
 show JN _ _ _ _ _ {s with heap:=((s.heap.push (seqObj "list" #[] 0)).update ↥s (JK.mapSeq (· ++its.toArray))).push (seqObj "list" its.toArray 0)};rw[sz];generalize ((s.heap.push (seqObj "list" #[] 0)).update ↥s (JK.mapSeq (· ++its.toArray))).push (seqObj "list" its.toArray 0)=B at *;have lD:↥s<=↥s+1:=GS _;refine JR (J1 (JV slot_list_sort ⟨_,oD,rfl⟩ entry_list_sort ?_ (args_list_sort _)));have hQ:=q (↥s+1) (I.hok.fresh lD);refine mG (s:={s with heap:=B}) (κ:=oneType') (p:=π) (lt:=λi j=>decide (ns.getD i 0<ns.getD j 0)) oD ∅ (by rw[<-il];exact hs) ∅ (λQ' hq'=>?_) (λa b ha hb Q' hq'=>?_) ∅ ?_
 ·rw[ksk_kind (by rw[List.toList_toArray];exact oz rv) (by rw[FP];omega)];exact JX hq'
 ·obtain⟨t,et⟩:=rO rv (i:=a) ∅;obtain⟨t',eu⟩:=rO rv (i:=b) ∅;rw[kat_item rfl,kat_item rfl,et,eu,keyLt'_oneType];exact oneLt_int hq'
 ·refine⟨_,rfl,JX ⟨_,rfl,?_⟩⟩;obtain⟨e1,o1⟩: ∃e1,(B.update (↥s+1) (JK.mapSeq λ_=> #[])).get? (↥s+1)=some (seqObj "list" #[] e1):=⟨_,get?_update_seq oD (λ_=> #[])⟩
  have o6:(((B.update (↥s+1) (JK.mapSeq λ_=> #[])).push (seqObj "tuple" its.toArray 0)).push (seqObj "list" #[] 0)).get? (↥s+1)=some (seqObj "list" #[] e1):=FD _ (FD _ o1);refine⟨.ref (↥s+1),_,I.laid (t':=s.toks) (o:=.lst (π.toList.map λi=>.int (ns.getD i 0))) (λb o e=>?_) lD ?_,rfl,hQ⟩
  ·have ne:=F5 (IG (FJ e));unfold sortedHeap;rw[Hd _ _ _ _ ne];refine FD _ (FD _ ?_);rw[Hd _ _ _ _ ne];exact keep b o e
  ·refine⟨by rw[Fx,Gy];omega,_,_,?_,get?_update_seq o6 λ_=>GF (π.toList.map λi=>its.getD i Jx.none)⟩;have vls: ∀l:List Nat,(∀i∈l,i<ns.length)->Vals (l.map λi=>V.int (ns.getD i 0)) (l.map λi=>its.getD i Jx.none):=λl=>by
    induction l with
    |nil=>intro _;exact .nil
    |cons i l ih=>
     intro hh;refine .cons ?_ (ih λj hj=>hh j (FV _ hj));obtain⟨t,e⟩:=rO rv (hh i FI);show∃t,_=_;exact⟨t,e⟩
   exact vls _ pl
noncomputable def kC (ws:List W):M W:=match ws with
 |[.tup l]=>match Om iOf l with
  |some ns=>gd (2<=ns.length/\ns.length<=1000) (match Mq ns with
   |some π=>gd (Ow π ns.length) (pr (.tl (π.toList.map λi=>.int (ns.getD i 0))))
   |none=>no)
  |none=>no
 |_=>no
theorem y7:K4 X E (λxs H Q=> ∃ (p:JG) (ns:List Int) (π:Array Nat),xs=[.ref p]/\SqT X.K H p (ns.map V.int)/\2<=ns.length/\ns.length<=1000/\Mq ns=some π/\π.size=ns.length/\(∀i∈π.toList,i<ns.length)/\
  ∀q,H q=none->Q (.ref q) (upd H q (.lst (π.toList.map λi=>.int (ns.getD i 0))))) kC:=λo ws vs Q R rv h=>by
 unfold kC at h;split at h
 ·rename_i l;obtain⟨v,rfl,r⟩:=rv.one;unfold Rv at r;obtain⟨a,us,rfl,s,r⟩:=r;cases e:Om iOf l with
  |none=>rw[e] at h;exact h.elim
  |some ns=>
   rw[e] at h;obtain⟨⟨h1,h2⟩,h⟩:=h.gd;cases e2:Mq ns with
   |none=>rw[e2] at h;exact h.elim
   |some π=>
    rw[e2] at h;obtain⟨⟨p1,p2⟩,h⟩:=h.gd;have e3:us=ns.map V.int:=cY jM e r;subst e3;refine⟨a,ns,π,rfl,s,h1,h2,e2,p1,p2,λq hq=>fX R hq ?_ h⟩;have rr: ∀l:List Nat,Rvs X.K o (l.map λi=>W.int (ns.getD i 0)) (l.map λi=>V.int (ns.getD i 0)):=λl=>by
     induction l with
     |nil=>exact Rvs.nil
     |cons i l ih=>exact Rvs.cons (OV.mpr rfl) ih
    exact rr _
 ·exact h.elim
theorem rC {l:La->M (List W)}(hm:X.mg "sorted"=none)(ha:JA X E [a] l)(hg:Gl X "sorted")(he:Kd [a] X.env=(false,Ka a X.env)::Kd [] X.env)(hpl:(Kc pos (Kd [] X.env)).any (·.1)=false):JE X E (.Call (.Name "sorted" p) [a] [] pos) (Nn kC l):=
 cI oN y7 hg hm PyProof.Rows.boot_sorted ha ↥_ ↥_ he hpl
theorem vA:CallR X (.builtin "len") (λxs H Q=> ∃p b ys ep,xs=[.ref p]/\H p=some (.dN b ys ep)/\(∀x∈ys,KeyN X.K H b x.2.1 x.1)/\Q (.int ys.length) H):=by
 intro pins s σ H xs us Q I r h;obtain⟨p,b,ys,ep,rfl,e,hk,q⟩:=h;obtain⟨u,rfl,rx⟩:=Ql r;cases rx;obtain⟨z,hd,zs,rel,dd⟩:=nj I e hk;have lz:zs.length=ys.length:=rel.length.symm;have hn:=hV;have hT:=dd.typeIs;obtain⟨o,es,ep',ho,_,hdat,he,_⟩:=dd;have ls:es.size=ys.length:=by rw[<-lz,<-Gy,he,Fx]
 refine Calls.call_function_entry kind_len plain_len entry_len (args_len1 _) ?_;unfold Jy.«len»;refine JR (m:=oneArg "len" _) (JX ?_);refine JR (m:=callSpecial? (.ref p) (Str.ofString "__len__")) (wpAny_callSpecial?_slot (name:=Str.ofString "__len__") hT F.slot_dict_len (JV F.slot_dict_len hT F.entry_dict_len ?_ (F.args_dict_len_1 _)));show JN _ _ (dictSize p>>=_) _ _ s;unfold dictSize;refine JR (JR (wpAny_dictEntries ho hdat (JX ?_)));refine JR (m:=Jy.Dict.pendingCount p) (wpAny_pendingCount_other hd (wpAny_ret_mkInt ?_));have e0:((es.size:Nat):Int)+((0:Nat):Int)=((ys.length:Nat):Int):=by rw[ls];exact GX _
 rw[e0];refine JR (J1 (JX (JR (KZ ?_))));show JN _ _ (if ((ys.length:Nat):Int)<0 then _ else _) _ _ _;rw[if_neg ∅];show JN _ _ (if ((ys.length:Nat):Int)≥2 ^ 63 then _ else _) _ _ _;rw[if_neg ∅];exact JR (wpAny_mkInt (JX ⟨_,rfl,.int ys.length,H,I.tok _,⟨_,rfl⟩,q⟩))
noncomputable def M9 (ws:List W):M W:=λh=>match ws with
 |[w]=>match LU w h with
  |some (_,ks,_)=>.ok (.int ks.length) h
  |none=>.bad
 |_=>.bad
theorem C9:K4 X E (λxs H Q=> ∃p b ys ep,xs=[.ref p]/\H p=some (.dN b ys ep)/\(∀x∈ys,KeyN X.K H b x.2.1 x.1)/\Q (.int ys.length) H) M9:=λo ws vs Q R rv h=>by
 unfold M9 at h;split at h
 ·rename_i w;obtain⟨v,rfl,r⟩:=rv.one;cases e:LU w o.h with
  |none=>rw[e] at h;exact h.elim
  |some t=>
   obtain⟨b,ks,ws⟩:=t;rw[e] at h;obtain⟨a,xs,ep,rfl,g1,g2,g3,_⟩:=lK R e r;refine⟨a,b,xs,ep,rfl,g1,g3,?_⟩;have q:=Ps.pr (c:=cg X E) (r:=Rv X.K) (a:=W.int ks.length) h R (OV.mpr rfl);rw[<-g2,Fx] at q;exact q
 ·exact h.elim
theorem Ab {l:La->M (List W)}(hm:X.mg "len"=none)(ha:JA X E [a] l)(hg:Gl X "len")(he:Kd [a] X.env=(false,Ka a X.env)::Kd [] X.env)(hpl:(Kc pos (Kd [] X.env)).any (·.1)=false):JE X E (.Call (.Name "len" p) [a] [] pos) (Nn M9 l):=
 cI vA C9 hg hm PySem.boot_len ha ↥_ ↥_ he hpl
noncomputable def Lh (K:Zf)(H:Hp):List V->List PKy->Prop
 |[],[]=>True
 |v::vs,m::ms=>(∃c,v=.ref c/\KeyN K H true c m)/\Lh K H vs ms
 |_,_=>False
noncomputable def rNiP (K:Zf):R2:=λx y H Q=> ∃p d xs n ms,x=.ref d/\y=.ref p/\SqL K H p xs/\KeyN K H true d n/\Lh K H xs ms/\Q (.bl (!decide (n∈ms))) H
open Classical in
noncomputable def eqP (prog:JB)(w:JC)(h:JD)(n:PKy)(u:Jx):Bool:=match u with
 |.ref c=>decide (IsPk prog w true h n c)
 |_=>false
open Classical in
theorem yn {w:JC}(k:IsPk prog w true h m c):eqP prog w h n (.ref c)=decide (m=n):=by
 show decide (IsPk prog w true h n c)=_;by_cases e:m=n
 ·subst e;rw[decide_eq_true k,decide_eq_true rfl]
 ·rw[decide_eq_false e,decide_eq_false λz=>e (k.inj z)]
theorem MX (I:Inv X pins σ H s)(h:KeyN X.K H true c k)(prog:JB)(w:JC):IsPk prog w true s.heap k c:=by
 obtain⟨d,h1,h2⟩:=h;obtain⟨its,r,⟨o,q1,q2,n,q3⟩,_⟩:=I.tuple h1;obtain⟨u,v,rfl,ru,rv⟩:=r.two;cases ru;obtain⟨t,e⟩:=(show∃t,v=Jx.int k.1 t from rv)
 subst e;exact⟨o,_,n,d,_,q1,q2,q3,Ap I h2 prog w,by simp [Jx.isInt],rfl⟩
theorem wx (I:Inv X pins σ H s)(n:PKy): ∀ {xs:List V}{us:List Jx}{ms:List PKy},Vals xs us->Lh X.K H xs ms->us.any (eqP X.prog X.w s.heap n)=decide (n∈ms)
 |_,_,[],.nil,_=>⇑_
 |_,_,_::_,.nil,t=>t.elim
 |_,_,[],.cons _ _,t=>t.elim
 |_,_,m::ms,.cons r rs,t=>by
  obtain⟨⟨c,e,q⟩,t⟩:=t;subst e;cases r;rw[GT,wx I n rs t,yn (f9 I q),Gz,Bool.or_eq_true,decide_eq_true_eq,decide_eq_true_eq,decide_eq_true_eq,FC];exact⟨λh=>h.imp Eq.symm id,λh=>h.imp Eq.symm id⟩
theorem AU (hu:A.units+1<JM)(I:Inv X pins σ H s)(hd:KeyN X.K H true d n): ∀ {xs:List V}{us:List Jx}{ms:List PKy},Vals xs us->Lh X.K H xs ms-> ∀u∈us,SeqAt.EqAt A s u (.ref d) (eqP X.prog X.w s.heap n u)
 |_,_,[],.nil,_=>λu hu=>by cases hu
 |_,_,_::_,.nil,t=>t.elim
 |_,_,[],.cons _ _,t=>t.elim
 |_,_,m::ms,.cons r rs,t=>λu hm=>by
  obtain⟨⟨c,e,q⟩,t⟩:=t;subst e;cases r;rcases FC.mp hm with rfl|hm
  ·intro prog w E Q hq;rw[yn (f9 I q)] at hq;exact gD hu (MX I q prog w) (MX I hd prog w) hq
  ·exact AU hu I hd rs t u hm
theorem B4 (hu:X.A.units+64<JM):OpR X (Kg .NotIn) (rNiP X.K):=by
 intro pins s σ H x y v u Q I rx ry h;obtain⟨p,d,xs,n,ms,rfl,rfl,hq,hd,ht,q⟩:=h;cases rx;cases ry;obtain⟨its,r,pl,hz⟩:=I.list hq;refine SeqAt.notIn_listAt (eqP X.prog X.w s.heap n) pl.isList (λw hw=>AU (by show X.A.units+1+1<JM;omega) I hd r ht w (by simpa using hw)) ⟨.bl _,H,I,rfl,?_⟩;rw[show its.toArray.any (eqP X.prog X.w s.heap n)=its.any (eqP X.prog X.w s.heap n) by simp,wx I n r ht];exact q
noncomputable def NS (x y:W):M W:=bd (Nk y) λl=>match MW true x,Om (MW true) l with
 |some n,some ms=>pr (.bl (!decide (n∈ms)))
 |_,_=>no
theorem wy : ∀ {l:List W}{vs:List V}{ms:List PKy},Om (MW true) l=some ms->Rvs X.K o l vs->Lh X.K o.H vs ms
 |[],vs,ms,e,r=>by unfold Rvs at r;subst r;cases e;trivial
 |w::l,vs,ms,e,r=>by
  unfold Rvs at r;obtain⟨v,r',rfl,h1,h2⟩:=r;unfold Om at e;split at e
  ·rename_i b c e1 e2;cases e;exact⟨jo e1 h1,wy e2 h2⟩
  ·cases e
theorem zw:OpM X E (rNiP X.K) NS:=by
 intro o x y vx vy Q R rx ry h;unfold NS at h;obtain⟨l,p,vs,rfl,s,r,h⟩:=ck R ry h;cases e1:MW true x with
 |none=>rw[e1] at h;exact h.elim
 |some n=>
  cases e2:Om (MW true) l with
  |none=>rw[e1,e2] at h;exact h.elim
  |some ms=>
   rw[e1,e2] at h;obtain⟨d,rfl,hd⟩:=jo e1 rx;exact⟨p,d,vs,n,ms,rfl,rfl,s,hd,wy e2 r,Ps.pr (c:=cg X E) (r:=Rv X.K) (a:=W.bl _) h R (OU.mpr rfl)⟩
end
end L2
namespace HT
open PySem PySem.Spec PyProof.Rows
section
variable {prog:JB}{w:JC}{A:JL}{E:Jx->JJ->Prop}{s:JJ}
theorem getItem_tuple_all {vl vu:Jx}{lo hi:Option Int}{Q:Jx->JJ->Prop}(ht:IsTup s.heap t items)(hs:s.heap.IsSliceOf sl vl vu .none)(pl:IsPart vl lo)(pu:IsPart vu hi)
  (hw:sIx items.size 0 lo=0/\sIx items.size items.size hi=items.size)
  (h:Q (.ref t) s):JN (JP prog w) A (getItem (.ref t) (.ref sl)) Q E s:=by
 obtain⟨os,hos,hcs,hds⟩:=id hs;have hTs:s.TypeIs (.ref sl) "slice":=⟨os,hos,hcs⟩
 unfold getItem
 try with_reducible refine J1 ?_
 first|refine JR (JX ?_)|skip
 refine JR (wpAny_sequenceKey ht.typeIs ↥_ ?_)
 refine JR (wpAny_callSpecial?_slot (name:=Str.ofString "__getitem__") ht.typeIs PyProof.Rows.slot_tuple_getitem
  (JV PyProof.Rows.slot_tuple_getitem ht.typeIs entry_tuple_getitem ?_ (args_tuple_getitem _ _)))
 show JN _ _ (Jy.Tuple.tupleItemsOf (.ref t)>>=_) _ _ s;refine JR (tupleItemsOf_ ht ?_);refine JR (wpAny_typeOf hTs ?_);rw[if_pos ↥_];refine JR (eZ hs pl pu ?_);have hno:((((sIx items.size 0 lo:Nat):Int)==0 && (1:Int)==1 && (sIx items.size items.size hi - sIx items.size 0 lo)==items.size)=true):=by
  rw[hw.1,hw.2];simp
 show JN _ _ (if (((sIx items.size 0 lo:Nat):Int)==0 && (1:Int)==1 && (sIx items.size items.size hi - sIx items.size 0 lo)==items.size)=true then _ else _) _ _ s;rw[if_pos hno];unfold Jy.Tuple.tupleIsExact;refine JR (JR (wpAny_typeOf ht.typeIs (JX ?_)));rw[if_pos ↥_];exact JR (JY (JX ⟨_,rfl,JX h⟩))
end
end HT
namespace L2
open PySem PySem.Spec PyProof.Rows
section
variable {X:Cx}{E:XK}
noncomputable def rSlA (K:Zf):V->Option Int->Option Int->Hp->VK->Prop:=λx lo hi H Q=> ∃a xs,x=.ref a/\SqT K H a xs/\(HT.sIx xs.length 0 lo=0/\HT.sIx xs.length xs.length hi=xs.length)/\Q (.ref a) H
theorem y8:SlR X (rSlA X.K):=by
 intro pins s σ H x v vl vu lo hi sl Q I rx hs pl pu h;obtain⟨a,xs,rfl,hx,hw,q⟩:=h;cases rx;obtain⟨its,r,ht,hz⟩:=I.tuple hx;have hlen:its.toArray.size=xs.length:=by rw[FP];exact r.length.symm
 refine⟨"tuple",_,PyProof.Rows.slot_tuple_getitem.lookup,ht.typeIs,?_⟩;exact HT.getItem_tuple_all ht hs pl pu (by rw[hlen];exact hw) ⟨.ref a,H,I,rfl,q⟩
noncomputable def Px (x:W)(lo hi:Option Int):M W:=match x with
 |.tup l=>pr (.tup (LP l lo hi))
 |_=>no
theorem vm {α:Type}{l:List α}{lo hi:Option Int}(h:HT.sIx l.length 0 lo=0/\HT.sIx l.length l.length hi=l.length):LP l lo hi=l:=by
 unfold LP;rw[h.1,h.2,HG,Nat.sub_zero,FS]
theorem CI {lo hi:Option Expr}{fa:La->M W}{fl fh:La->M (Option Int)}(he:JE X E e fa)(hl:JO X E lo fl)(hh:JO X E hi fh):
  JE X E (.Subscript e (.Slice lo hi none p2) pos) (m3 Px fa fl fh):=(kQ (Pz.or y8) he.h hl.h hh.h).imp λσ H Q h=>by
 obtain⟨o,ρ,rfl,R,S,h⟩:=h;refine⟨o,ρ,rfl,R,S,Ps.bd h λp x vx e1 R1 r1 h1=>⟨p,ρ,rfl,R1,S.mono R e1,Ps.bd h1 λq a va e2 R2 r2 h2=>⟨q,ρ,rfl,R2,(S.mono R e1).mono R1 e2,Ps.bd h2 λw b vb e3 R3 r3 h3=>?_⟩⟩⟩;subst r2 r3;have rx:=(r1.mono R1 e2).mono R2 e3;unfold Px at h3;split at h3
 ·rename_i l;have rx':=rx;unfold Rv at rx;obtain⟨a',vs,rfl,s,r⟩:=rx;by_cases hz:HT.sIx l.length 0 a=0/\HT.sIx l.length l.length b=l.length
  ·refine .inr ⟨a',vs,rfl,s,by rw[r.len];exact hz,?_⟩;rw[vm hz] at h3;exact h3.pr R3 rx'
  ·exact .inl ⟨a',vs,rfl,s,by rw[r.len];exact hz,λq' hq=>i9 R3 hq (r.cut _ _) h3⟩
 ·exact h3.elim
end
end L2
namespace Wd
open PySem L2
noncomputable def LET:Str:= "abcdefghijklmnopqrstuvwxyz"
noncomputable def FIG:Str:= "0123456789"
noncomputable def MC (c:Nat):Bool:=decide (c∈LET.cps.toList)
noncomputable def Mz (c:Nat):Bool:=decide (c∈FIG.cps.toList)
noncomputable def Mx (c:Nat):Bool:=decide (c∈(LET++FIG).cps.toList)
theorem xO:LET.cps.toList=G5 97 26:=⋯
theorem yi:FIG.cps.toList=G5 48 10:=⋯
theorem ME {c:Nat}:MC c=true↔97<=c/\c<=122:=by
 unfold MC;rw[decide_eq_true_eq,xO,Jg];omega
theorem MA {c:Nat}:Mz c=true↔48<=c/\c<=57:=by
 unfold Mz;rw[decide_eq_true_eq,yi,Jg];omega
noncomputable def Qc:List Str:=["box", "block", "put", "say", "ask", "go", "if", "else", "table", "stop"]
noncomputable def aO (w:Str):Bool:=decide (1<=w.length/\w.length<=8) && (w.cps.toList.all MC && !decide (w∈Qc))
noncomputable def NT (w:Str):Bool:=decide (1<=w.length/\w.length<=3) && (!(decide (w.cps.toList.head?=some 48) && !decide (w= "0")) && w.cps.toList.all Mz)
noncomputable def df (w:Str):Int:=((PySem.NumText.digitsVal w.cps.toList:Nat):Int)
inductive Exp where
 |num (n:Int)
 |box (x:Str)
 |bin (s:Str)(l r:Exp)
 deriving DecidableEq
noncomputable def M7 (l:List Nat):Option (Exp×List Nat):=
 if aO ⟨(l.takeWhile Mx).toArray⟩=true then some (.box ⟨(l.takeWhile Mx).toArray⟩,l.dropWhile Mx)
 else if NT ⟨(l.takeWhile Mx).toArray⟩=true then some (.num (df ⟨(l.takeWhile Mx).toArray⟩),l.dropWhile Mx) else none
noncomputable def LI (f:List Nat->Option (Exp×List Nat))(ops:List Nat):Nat->Exp->List Nat->Option (Exp×List Nat)
 |0,e,l=>some (e,l)
 |_+1,e,[]=>some (e,[])
 |n+1,e,c::r=>if c∈ops then (match f r with
   |none=>none
   |some (e2,r2)=>LI f ops n (.bin ⟨#[c]⟩ e e2) r2) else some (e,c::r)
noncomputable def Op (f:List Nat->Option (Exp×List Nat))(ops:List Nat)(l:List Nat):Option (Exp×List Nat):=match f l with
 |none=>none
 |some (e,r)=>LI f ops r.length e r
noncomputable def Oj:List Nat:=[42]
noncomputable def Ol:List Nat:=[43,45]
noncomputable def cE (f:List Nat->Option (Exp×List Nat))(r:List Nat):Option (Exp×List Nat):=match f r with
 |some (e,41::r2)=>some (e,r2)
 |_=>none
noncomputable def bK:Nat->List Nat->Option (Exp×List Nat)
 |0,l=>if l.head?=some 40 then none else M7 l
 |m+1,l=>if l.head?=some 40 then cE (Op (Op (bK m) Oj) Ol) l.tail else M7 l
noncomputable def bP (m:Nat):List Nat->Option (Exp×List Nat):=Op (bK m) Oj
noncomputable def eT (m:Nat):List Nat->Option (Exp×List Nat):=Op (bP m) Ol
noncomputable def L6 (w:Str):Option Exp:=if w.length>60 then none else match eT 5 w.cps.toList with
 |some (e,[])=>some e
 |_=>none
noncomputable def Suf (f:List Nat->Option (Exp×List Nat)):Prop:= ∀l e r,f l=some (e,r)->r<:+l
theorem oZ:Suf M7:=λl e r h=>by
 unfold M7 at h;split at h
 ·cases h;exact Jh _
 ·split at h
  ·cases h;exact Jh _
  ·cases h
theorem mz {f:List Nat->Option (Exp×List Nat)}(hf:Suf f): ∀ (n:Nat) (e:Exp) (l:List Nat) (e':Exp) (r:List Nat),LI f ops n e l=some (e',r)->r<:+l
 |0,e,l,e',r,h=>by cases h;exact II _
 |_+1,e,[],e',r,h=>by cases h;exact II _
 |n+1,e,c::l,e',r,h=>by
  unfold LI at h;split at h
  ·split at h
   ·cases h
   ·rename_i e2 r2 hf2;exact (mz hf n _ r2 e' r h).trans ((hf l e2 r2 hf2).trans (List.suffix_cons c l))
  ·cases h;exact II _
theorem ij {f:List Nat->Option (Exp×List Nat)}(hf:Suf f):Suf (Op f ops):=λl e r h=>by
 unfold Op at h;split at h
 ·cases h
 ·rename_i e1 r1 h1;exact (mz hf _ _ _ _ _ h).trans (hf l e1 r1 h1)
theorem o3 {f:List Nat->Option (Exp×List Nat)}(hf:Suf f):Suf (cE f):=λl e r h=>by
 unfold cE at h;split at h
 ·rename_i e1 r1 h1;cases h;exact (List.suffix_cons 41 r).trans (hf l e _ h1)
 ·cases h
theorem iH: ∀m,Suf (bK m)
 |0=>λl e r h=>by
  unfold bK at h;split at h
  ·cases h
  ·exact oZ l e r h
 |m+1=>λl e r h=>by
  unfold bK at h;split at h
  ·exact (o3 (ij (ij (iH m))) _ e r h).trans (List.tail_suffix l)
  ·exact oZ l e r h
theorem jR (m:Nat):Suf (bP m):=ij (iH m)
theorem my (m:Nat):Suf (eT m):=ij (jR m)
theorem vU {w l r:List Nat}{p:Nat}(hl:l=w.drop p)(h:r<:+l):r=w.drop (w.length - r.length)/\r.length<=l.length:=by
 subst hl;refine⟨List.suffix_iff_eq_drop.mp (h.trans (List.drop_suffix p w)),h.length_le⟩
end Wd
namespace Q
open PySem L2
noncomputable def top (i:Nat):Ke:=PySem.Challenge.pw_blockfall_k47_whole_papers_let_by.main.body.getD i (.Pass ⟨0,0,0,0⟩)
noncomputable abbrev j1:Ke:=top 19
noncomputable abbrev nM:Ke:=top 20
noncomputable abbrev O2:Ke:=top 22
noncomputable abbrev nL:Ke:=top 23
noncomputable abbrev i7:Ke:=top 24
noncomputable abbrev j2:Ke:=top 25
noncomputable abbrev gS:Ke:=top 26
noncomputable abbrev qS:Ke:=bY (top 21) 0
noncomputable abbrev qT:Ke:=bY (top 21) 1
noncomputable abbrev kI:Ke:=bY (top 21) 2
noncomputable abbrev qR:Ke:=bY (top 21) 3
noncomputable abbrev O8:Ke:=bY (top 21) 4
end Q
namespace Q
open PySem L2 Wd
noncomputable def Qd:List V:=Qc.map V.str
structure Txt (K:Zf)(mg:Str->Option Jx)(CS CN:JG):Prop where
 cl:Cls K CS
 nw:NoAttr K CS "word"
 np:NoAttr K CS "place"
 mgS:mg "Signs"=some (.ref CS)
 mgN:mg "NoRow"=some (.ref CN)
 exN:PySem.W.excIn K CN Ly "ValueError.__new__"=true
 len:mg "len"=none
 all:mg "all"=none
 int:mg "int"=none
 let_: ∃t,mg "LETTERS"=some (.str LET t)
 fig: ∃t,mg "FIGURES"=some (.str FIG t)
 tak: ∃a,mg "TAKEN_WORDS"=some (.ref a)/\ ∀H:Hp,SqT K H a Qd
 n8: ∃t,mg "LONGEST_NAME"=some (.int 8 t)
 n3: ∃t,mg "LONGEST_NUMBER"=some (.int 3 t)
 n60: ∃t,mg "LONGEST_EXPRESSION"=some (.int 60 t)
 n5: ∃t,mg "DEEPEST_BRACKET"=some (.int 5 t)
theorem cV (h:H p=none)(o:HO):Same H (upd H p o):=λb u q=>by rw[ag (bj q h)];exact q
theorem small {n:Nat}(h:n<=1000):n<=sizeLine:=Hz (jD h)
theorem am {α:Type}{l:List α}{i:Nat}{x:α}(h:l[i]?=some x):l.take (i+1)=l.take i++[x]:=by
 obtain⟨hi,e⟩:=FO.mp h;rw[GP,h];rfl
theorem DB {α:Type}{xs:List α}{i:Int}{v:α}(h0:0<=i)(h:xs[i.toNat]?=some v):atI xs i=some v:=by
 have q:=jz h;have e:((i.toNat:Nat):Int)=i:=∅;rw[e] at q;exact q
theorem br (w:Str):w.cps.toList.length=w.length:=by simp [Str.length]
theorem yesT {A B:Hp->Prop}(h:A H):Qa σ H (λb H3=>if b=true then A H3 else B H3):=by
 show if true=true then A H else B H
 rw[if_pos rfl];exact h
section
variable {P:JB}{w:JC}{K:Zf}{mg:Str->Option Jx}{base:JD}{f CS CN:JG}{fd:Ky}
noncomputable def kB:Sp:=λvs H Q _=> ∃z:Str,vs=[.str z]/\z.length<=sizeLine/\ ∀H',Same H H'->Q (.bl (aO z)) H'
theorem Br:Lb ["word"] ["word"] (ac j1):=⟨rfl,rfl,rfl,⋯,rfl,⋯,⋯⟩
theorem xl:((["sign", ".0"]:List Str)++(["word"]:List Str).map (hid ["sign", ".0"])).Nodup:=⋯
theorem u9 (z:Str):inV (.str z) Qd=decide (z∈Qc):=by
 unfold inV Qd;rw[Gz,GO,decide_eq_true_eq];constructor
 ·rintro⟨v,hv,h⟩
  obtain⟨y,hy,rfl⟩:=FW.mp hv;have:y=z:=by simpa [eqV] using h
  subst this;exact hy
 ·intro h;exact⟨.str z,FW.mpr ⟨z,h,rfl⟩,by simp [eqV]⟩
theorem rS:Qd.all Mc=true:=⋯
theorem zD (F:Fun K "is_name" "is_name" j1 f fd)(T:Txt K mg CS CN):FnOk P w K mg base CX0 1 f fd ["word"] kB:=by
 refine F.ok Br (λvs H Q E h=>?_) (λcdv A outer s H vs Q E hr h=>?_)
 ·obtain⟨z,rfl,_⟩:=h;rfl
 obtain⟨z,rfl,hz,q⟩:=h;obtain⟨t8,h8⟩:=T.n8;obtain⟨tL,hL⟩:=T.let_;obtain⟨aT,hT,sT⟩:=T.tak
 refine⟨_,av (gG (PW.pt (wr (dh wU (cX LF rfl T.len PySem.boot_len (aj (pv 0) Oo)) Ou (dZ _))
   (qW (dh mS (cX LF rfl T.len PySem.boot_len (aj (pv 0) Oo)) (cW (v:=.int 8) rfl h8 ⟨_,rfl⟩) (dZ _))))) (aJ (cx Os)) OC)
  (aJ (cx (wN (cX (lT rfl) rfl T.all PyProof.Rows.boot_all (aj (nZ (ls:=["sign", ".0"]) rfl (.of (ac j1)) (wE (pv 0)) (λ_ _ _ _=>aD (i:=0) xl rfl (Or.inl rfl) (.inr rfl)) (λ_ _ _ _=>nY)
      (λ_ _ _ _=>im Od (pv 0) (cW (v:=.str LET) rfl hL ⟨_,rfl⟩) (by with_unfolding_all rfl))) Oo))
   (wI (im Oh (pv 0) (cW (v:=.ref aT) rfl hT rfl) (by with_unfolding_all rfl)))))),?_⟩
 refine⟨_,rfl,z,rfl,hz,_,_,rfl,rfl,_,rfl,?_⟩;have no: ¬(1<=z.length/\z.length<=8)->aO z=false:=λh=>by unfold aO;rw[decide_eq_false h];rfl
 refine MF (λc=>?_) (λc=>?_)
 ·have c1:(z.length:Int)<1:=of_decide_eq_true c;refine MH ?_;have:=q H (Same.refl _);rw[no ∅] at this;exact this
 ·have c1: ¬(z.length:Int)<1:=of_decide_eq_false (G6.mpr c);refine⟨_,rfl,z,rfl,hz,_,_,rfl,rfl,_,rfl,?_⟩;refine MF (λc=>?_) (λc=>?_)
  ·have c2:(z.length:Int)>8:=of_decide_eq_true c;have:=q H (Same.refl _);rw[no ∅] at this;exact this
  ·have c2: ¬(z.length:Int)>8:=of_decide_eq_false (G6.mpr c);have yes:aO z=(z.cps.toList.all MC && !decide (z∈Qc)):=by
    unfold aO;rw[decide_eq_true (by omega:1<=z.length/\z.length<=8)];rfl
   refine⟨rfl,_,rfl,z,rfl,qd (λi ys H'=>H'=H/\ys=((z.cps.toList.take i).map MC).map V.bl) ⟨rfl,rfl⟩ ?_ ?_⟩
   ·rintro i c0 ys H' hc ⟨rfl,rfl⟩
    refine⟨rfl,rfl,yesT ?_⟩;refine⟨_,rfl,_,_,rfl,rfl,?_,rfl,?_⟩
    ·rw[Fx,Fx,Gk];exact jD (by rw[br];omega)
    ·rw[am hc,Fz,Fz,rP];rfl
   ·rintro ys H' ⟨rfl,rfl⟩ D hD
    refine⟨D,(z.cps.toList.take z.cps.size).map MC,rfl,SqL.of ao,_,rfl,?_⟩;have ea:((z.cps.toList.take z.cps.size).map MC).all id=z.cps.toList.all MC:=by
     have:z.cps.size=z.cps.toList.length:=⇑_;rw[this,FS,HU];rfl
    rw[ea];cases hb:z.cps.toList.all MC with
    |false=>
     refine MG ?_;have this: ∀L,Q _ (upd H' D (.lst L)):=λL=>q _ (cV hD _);rw[yes,hb] at this;exact this _
    |true=>
     refine MH ⟨_,rfl,aT,Qd,rfl,.inr (sT _),rfl,rS,?_⟩;have this: ∀L,Q _ (upd H' D (.lst L)):=λL=>q _ (cV hD _);rw[yes,hb,<-u9] at this;exact this _
noncomputable def PK:Sp:=λvs H Q _=> ∃z:Str,vs=[.str z]/\z.length<=sizeLine/\ ∀H',Same H H'->Q (.bl (NT z)) H'
theorem scNum:Lb ["word"] ["word"] (ac nM):=⟨rfl,rfl,rfl,⋯,rfl,⋯,⋯⟩
theorem Ca (F:Fun K "is_number" "is_number" nM f fd)(T:Txt K mg CS CN):FnOk P w K mg base CX0 1 f fd ["word"] PK:=by
 refine F.ok scNum (λvs H Q E h=>?_) (λcdv A outer s H vs Q E hr h=>?_)
 ·obtain⟨z,rfl,_⟩:=h;rfl
 obtain⟨z,rfl,hz,q⟩:=h;obtain⟨t3,h3⟩:=T.n3;obtain⟨tL,hL⟩:=T.fig
 refine⟨_,av (gG (PW.pt (wr (dh wU (cX LF rfl T.len PySem.boot_len (aj (pv 0) Oo)) Ou (dZ _))
   (qW (dh mS (cX LF rfl T.len PySem.boot_len (aj (pv 0) Oo)) (cW (v:=.int 3) rfl h3 ⟨_,rfl⟩) (dZ _))))) (aJ (cx Os)) OC)
  (av (gG (PW.pt (wu (dh Oa (pE oy (pv 0) Ou (λ_ _=>rfl)) Ov (dZ _)) (sO (dh Og (pv 0) Ov (dZ _))))) (aJ (cx Os)) OC)
  (aJ (cx (cX (lT rfl) rfl T.all PyProof.Rows.boot_all (aj (nZ (ls:=["sign", ".0"]) rfl (.of (ac nM)) (wE (pv 0)) (λ_ _ _ _=>aD (i:=0) xl rfl (Or.inl rfl) (.inr rfl)) (λ_ _ _ _=>nY)
      (λ_ _ _ _=>im Od (pv 0) (cW (v:=.str FIG) rfl hL ⟨_,rfl⟩) (by with_unfolding_all rfl))) Oo))))),?_⟩
 refine⟨_,rfl,z,rfl,hz,_,_,rfl,rfl,_,rfl,?_⟩;have no: ¬(1<=z.length/\z.length<=3)->NT z=false:=λh=>by unfold NT;rw[decide_eq_false h];rfl
 refine MF (λc=>?_) (λc=>?_)
 ·have c1:(z.length:Int)<1:=of_decide_eq_true c;refine MH ?_;have:=q H (Same.refl _);rw[no ∅] at this;exact this
 ·have c1: ¬(z.length:Int)<1:=of_decide_eq_false (G6.mpr c);refine⟨_,rfl,z,rfl,hz,_,_,rfl,rfl,_,rfl,?_⟩;refine MF (λc=>?_) (λc=>?_)
  ·have c2:(z.length:Int)>3:=of_decide_eq_true c;have:=q H (Same.refl _);rw[no ∅] at this;exact this
  ·have c2: ¬(z.length:Int)>3:=of_decide_eq_false (G6.mpr c);have yes:NT z=(!(decide (z.cps.toList.head?=some 48) && !decide (z= "0")) && z.cps.toList.all Mz):=by
    unfold NT;rw[decide_eq_true (by omega:1<=z.length/\z.length<=3)];rfl
   obtain⟨c0,r0,e0⟩: ∃c0 r0,z.cps.toList=c0::r0:=by
    cases h:z.cps.toList with
    |nil=>have:=br z;rw[h] at this;simp at this;omega
    |cons a b=>exact⟨a,b,rfl⟩
   refine⟨_,rfl,z,0,c0,rfl,rfl,hz,by rw[e0];exact DB ↥_ rfl,rfl,_,rfl,?_⟩;have h48:decide (V.str ⟨#[c0]⟩=V.str "0")=decide (z.cps.toList.head?=some 48):=by
    rw[e0,decide_eq_decide];constructor
    ·intro h;have h1:=V.str.inj h;have h2:(#[c0]:Array Nat)=("0":Str).cps:=congrArg Str.cps h1;have h3:("0":Str).cps= #[48]:=⋯;rw[h3] at h2;have:c0=48:=by simpa using h2
     subst this;rfl
    ·intro h;have:c0=48:=by simpa using h
     subst this;have h3:(⟨#[48]⟩:Str)= "0":=⋯;rw[h3]
   have fin:(!(decide (z.cps.toList.head?=some 48) && !decide (z= "0")))=true->tRet (tCB (λxs H Q=> ∃ (p:JG) (bs:List Bool),xs=[.ref p]/\SqL K H p (bs.map V.bl)/\Q (.bl (bs.all id)) H) (P4 (P2 ["word"] ["sign", ".0"] (iStr (P9 0)) (Mj 0) Qa (tOp (λx y H Q=> ∃i j,x=.str i/\y=.str j/\Q (.bl (!(Jy.Str.occurrences j i 0 j.length 1).isEmpty)) H) (P9 0) (tC (.str FIG)))) P7)) {nx:=λ_ H'=>Q .non H',rt:=Q} (PV ["word"] [.str z]) H:=by
    intro hb;refine⟨rfl,_,rfl,z,rfl,qd (λi ys H'=>H'=H/\ys=((z.cps.toList.take i).map Mz).map V.bl) ⟨rfl,rfl⟩ ?_ ?_⟩
    ·rintro i c0 ys H' hc ⟨rfl,rfl⟩
     refine⟨rfl,rfl,yesT ?_⟩;refine⟨_,rfl,_,_,rfl,rfl,?_,rfl,?_⟩
     ·rw[Fx,Fx,Gk];exact jD (by rw[br];omega)
     ·rw[am hc,Fz,Fz,rP];rfl
    ·rintro ys H' ⟨rfl,rfl⟩ D hD
     refine⟨D,(z.cps.toList.take z.cps.size).map Mz,rfl,SqL.of ao,?_⟩;have ea:((z.cps.toList.take z.cps.size).map Mz).all id=z.cps.toList.all Mz:=by
      have:z.cps.size=z.cps.toList.length:=⇑_;rw[this,FS,HU];rfl
     rw[ea];have this: ∀L,Q _ (upd H' D (.lst L)):=λL=>q _ (cV hD _);rw[yes,hb,IJ] at this;exact this _
   rw[h48];refine MF (λc=>?_) (λc=>?_)
   ·refine⟨_,rfl,rfl,_,rfl,?_⟩;have e2:decide (V.str z=V.str "0")=decide (z= "0"):=by
     rw[decide_eq_decide];exact⟨V.str.inj,congrArg V.str⟩
    rw[e2];refine MF (λc2=>?_) (λc2=>?_)
    ·have:=q H (Same.refl _);rw[yes,c,c2] at this;exact this
    ·exact fin (by rw[c,G6.mpr c2];rfl)
   ·exact fin (by rw[G6.mpr c];rfl)
end
end Q
namespace Q
open PySem L2 Wd
structure CF (P:JB)(w:JC)(K:Zf)(mg:Str->Option Jx)(base:JD)(CX:CXT)(k:Nat)(x:Str)(f:JG)(fd:Ky)(ps:List Str)(sp:Sp):Prop where
 ok:FnOk P w K mg base CX k f fd ps sp
 bi:Binds K fd ps []
 kp:Ju K (.ref f)=true
 mg:mg x=some (.ref f)
structure CM (P:JB)(w:JC)(K:Zf)(mg:Str->Option Jx)(base:JD)(CX:CXT)(k:Nat)(C:JG)(m:Str)(f:JG)(fd:Ky)(ps:List Str)(sp:Sp):Prop where
 ok:FnOk P w K mg base CX k f fd ps sp
 bi:Binds K fd ps []
 me:Ld K C m f
theorem vI: ¬(("word":Str)= "place"):=⋯
noncomputable def Mg (z:Str)(p:Int):List (Str×V):=OE "place" (.int p) (OE "word" (.str z) [])
theorem kj (z:Str)(p:Int):Mg z p=([("word",V.str z),("place",V.int p)]:List (Str×V)):=by
 show (if ("word":Str)= "place" then [(("word":Str),V.int p)] else (("word":Str),V.str z)::OE "place" (V.int p) [])=([("word",V.str z),("place",V.int p)]:List (Str×V));rw[if_neg vI]
 all_goals rfl
theorem iy (z:Str)(p:Int):(Mg z p).lookup ("word":Str)=some (.str z):=by
 unfold Mg;rw[cA,if_neg vI,cA,if_pos rfl]
theorem cP (z:Str)(p:Int):(Mg z p).lookup ("place":Str)=some (.int p):=by
 unfold Mg;rw[cA,if_pos rfl]
theorem cN (z:Str)(p:Int){m:Str}(h1: ¬m= "place")(h2: ¬m= "word"):(Mg z p).lookup m=none:=by
 unfold Mg;rw[cA,if_neg h1,cA,if_neg h2]
 all_goals rfl
theorem p4 (z:Str)(p y:Int):OE "place" (.int y) (Mg z p)=Mg z y:=by
 rw[kj,kj];show (if ("word":Str)= "place" then _ else (("word":Str),V.str z)::(if ("place":Str)= "place" then [(("place":Str),V.int y)] else _))=([("word",V.str z),("place",V.int y)]:List (Str×V));rw[if_neg vI,if_pos rfl]
noncomputable def SgAt (C:JG)(H:Hp)(a:JG)(z:Str)(p:Nat):Prop:=z.length<=sizeLine/\p<=z.length/\ ∃dx,H a=some (.ins C dx (Mg z (p:Int)))
noncomputable def Moved (H H':Hp)(a:JG):Prop:= ∀b o,b≠a->H b=some o->H' b=some o
theorem Moved.refl (H:Hp)(a:JG):Moved H H a:=λ_ _ _ h=>h
theorem Moved.trans (x:Moved H H1 a)(y:Moved H1 H2 a):Moved H H2 a:=λb o hb h=>y b o hb (x b o hb h)
theorem Moved.same (x:Same H H1):Moved H H1 a:=λb o _ h=>x b o h
theorem io (o:HO):Moved H (upd H a o) a:=λb u hb h=>by rw[ag hb];exact h
theorem SgAt.same {z:Str}{p:Nat}(g:Same H H')(h:SgAt C H a z p):SgAt C H' a z p:=let ⟨h1,h2,dx,e⟩:=h;⟨h1,h2,dx,g _ _ e⟩
noncomputable def cH (z:Str)(p:Nat)(y:Str):Bool:=match z.cps.toList.drop p with
 |[]=>false
 |c::_=>decide (c∈y.cps.toList)
section
variable {P:JB}{w:JC}{K:Zf}{mg:Str->Option Jx}{base:JD}{f CS CN fD fS:JG}{fd fdD fdS:Ky}
noncomputable def sE (C:JG):Sp:=λvs H Q _=> ∃ (a dx:JG) (z:Str),vs=[.ref a,.str z]/\H a=some (.ins C dx [])/\z.length<=sizeLine/\ ∀H',Moved H H' a->SgAt C H' a z 0->Q .non H'
theorem ze:Lb ["self", "word"] ["self", "word"] (ac qS):=⟨rfl,rfl,rfl,⋯,rfl,⋯,⋯⟩
theorem w5 (F:Fun K "__init__" "Signs.__init__" qS f fd)(T:Txt K mg CS CN):FnOk P w K mg base CX0 1 f fd ["self", "word"] (sE CS):=by
 refine F.ok ze (λvs H Q E h=>?_) (λcdv A outer s H vs Q E hr h=>?_)
 ·obtain⟨a,dx,z,rfl,_⟩:=h;rfl
 obtain⟨a,dx,z,rfl,hp,hz,k⟩:=h;refine⟨_,av (qY (pv 0) (pv 1) rfl) (aJ (qY (pv 0) Ou rfl)),?_⟩;refine⟨_,rfl,_,rfl,a,CS,dx,[],rfl,hp,T.cl,T.nw,(by show 0<1000;decide),_,rfl,a,CS,dx,_,rfl,ao,T.cl,T.np,(by show 1<1000;decide),?_⟩;exact k _ ((io _).trans (io _)) ⟨hz,FY _,dx,ao⟩
noncomputable def nH (C:JG):Sp:=λvs H Q _=> ∃ (a:JG) (z:Str) (p:Nat),vs=[.ref a]/\SgAt C H a z p/\Q (.bl (decide (p=z.length))) H
theorem Bs:Lb ["self"] ["self"] (ac qT):=⟨rfl,rfl,rfl,⋯,rfl,⋯,⋯⟩
theorem zG (F:Fun K "is_done" "Signs.is_done" qT f fd)(T:Txt K mg CS CN):FnOk P w K mg base CX0 1 f fd ["self"] (nH CS):=by
 refine F.ok Bs (λvs H Q E h=>?_) (λcdv A outer s H vs Q E hr h=>?_)
 ·obtain⟨a,z,p,rfl,_⟩:=h;rfl
 obtain⟨a,z,p,rfl,⟨hz,hp,dx,ha⟩,k⟩:=h;refine⟨_,aJ (cx (im Oa (eV (pv 0) rfl) (cX LF rfl T.len PySem.boot_len (aj (eV (pv 0) rfl) Oo)) (dZ _))),?_⟩;refine⟨_,rfl,a,CS,dx,_,_,rfl,ha,T.cl,T.np,cP _ _,_,rfl,a,CS,dx,_,_,rfl,ha,T.cl,T.nw,iy _ _,z,rfl,hz,rfl,?_⟩;have e:decide (V.int (p:Int)=V.int (z.length:Int))=decide (p=z.length):=by
  rw[decide_eq_decide];exact⟨λh=>by have:=V.int.inj h;omega,λh=>by rw[h]⟩
 show Q (.bl (decide (V.int (p:Int)=V.int (z.length:Int)))) H;rw[e];exact k
noncomputable def dz (C:JG):Sp:=λvs H Q _=> ∃ (a:JG) (z:Str) (p:Nat) (y:Str),vs=[.ref a,.str y]/\SgAt C H a z p/\Q (.bl (cH z p y)) H
theorem wd:Lb ["self", "wanted"] ["self", "wanted"] (ac kI):=⟨rfl,rfl,rfl,⋯,rfl,⋯,⋯⟩
theorem AR {z:Str}{p:Nat}(h:p<z.length): ∃c,z.cps.toList[p]?=some c/\z.cps.toList.drop p=c::z.cps.toList.drop (p+1):=by
 have hl:p<z.cps.toList.length:=by rw[br];exact h
 exact⟨z.cps.toList[p],F4 hl,Ha hl⟩
theorem uH (F:Fun K "stands_one_of" "Signs.stands_one_of" kI f fd)(T:Txt K mg CS CN)(M:CM P w K mg base CX0 1 CS "is_done" fD fdD ["self"] (nH CS)):FnOk P w K mg base CX0 2 f fd ["self", "wanted"] (dz CS):=by
 refine F.ok wd (λvs H Q E h=>?_) (λcdv A outer s H vs Q E hr h=>?_)
 ·obtain⟨a,z,p,y,rfl,_⟩:=h;rfl
 obtain⟨a,z,p,y,rfl,S,k⟩:=h;obtain⟨hz,hp,dx,ha⟩:=id S;refine⟨_,aJ (cx (wN (BM (dX (pv 0) T.cl M.me M.ok hr M.bi .nil Oq)) (wI (im Od (pE oy (eV (pv 0) rfl) (eV (pv 0) rfl) (λ_ _=>rfl)) (pv 1) (by with_unfolding_all rfl))))),?_⟩;refine⟨_,rfl,a,dx,_,rfl,ha,cN _ _ ⋯ ⋯,a,z,p,rfl,S,_,rfl,_,rfl,?_⟩;by_cases hd:p=z.length
 ·rw[decide_eq_true hd];refine MG ?_;have e:cH z p y=false:=by
   unfold cH;rw[Ji (by rw[br];omega)]
  rw[e] at k;exact k
 ·rw[decide_eq_false hd];obtain⟨c,hc,hdr⟩:=AR (z:=z) (p:=p) ∅;refine MH ⟨_,rfl,a,CS,dx,_,_,rfl,ha,T.cl,T.nw,iy _ _,_,rfl,a,CS,dx,_,_,rfl,ha,T.cl,T.np,cP _ _,z,(p:Int),c,rfl,rfl,hz,jz hc,_,rfl,_,_,rfl,rfl,?_⟩;have e:cH z p y=decide (c∈y.cps.toList):=by
   unfold cH;rw[hdr]
  rw[e] at k;rw[rP];exact k
noncomputable def jC (C:JG):Sp:=λvs H Q _=> ∃ (a:JG) (z:Str) (p:Nat) (c:Nat),vs=[.ref a]/\SgAt C H a z p/\z.cps.toList[p]?=some c/\ ∀H',Moved H H' a->SgAt C H' a z (p+1)->Q (.str ⟨#[c]⟩) H'
theorem Pl:Lb ["self", "sign"] ["self"] (ac qR):=⟨rfl,rfl,rfl,⋯,rfl,⋯,⋯⟩
theorem jj {z:Str}{p c:Nat}(h:z.cps.toList[p]?=some c):p<z.length:=by rw[<-br];exact (FO.mp h).1
theorem zB (F:Fun K "take_sign" "Signs.take_sign" qR f fd)(T:Txt K mg CS CN):FnOk P w K mg base CX0 1 f fd ["self"] (jC CS):=by
 refine F.ok Pl (λvs H Q E h=>?_) (λcdv A outer s H vs Q E hr h=>?_)
 ·obtain⟨a,z,p,c,rfl,_⟩:=h;rfl
 obtain⟨a,z,p,c,rfl,⟨hz,hp,dx,ha⟩,hc,k⟩:=h;refine⟨_,av (de (i:=1) Pl.nd rfl (Or.inl rfl) (pE oy (eV (pv 0) rfl) (eV (pv 0) rfl) (λ_ _=>rfl))) (av (mO (pv 0) Ou ya) (aJ (cx (pv 1)))),?_⟩;refine⟨_,rfl,a,CS,dx,_,_,rfl,ha,T.cl,T.nw,iy _ _,_,rfl,a,CS,dx,_,_,rfl,ha,T.cl,T.np,cP _ _,z,(p:Int),c,rfl,rfl,hz,jz hc,?_⟩;refine⟨_,rfl,a,CS,dx,_,_,rfl,ha,T.cl,T.np,cP _ _,_,_,rfl,rfl,dx,_,ha,(by rw[kj];show 2<1000;decide),_,rfl,?_⟩;refine k _ (io _) ⟨hz,jj hc,dx,?_⟩;rw[ao,p4];rfl
noncomputable def PL (C:JG):Sp:=λvs H Q _=> ∃ (a:JG) (z:Str) (p:Nat) (y:Str),vs=[.ref a,.str y]/\SgAt C H a z p/\
 ∀H',Moved H H' a->SgAt C H' a z (p+((z.cps.toList.drop p).takeWhile λc=>decide (c∈y.cps.toList)).length)->Q (.str ⟨((z.cps.toList.drop p).takeWhile λc=>decide (c∈y.cps.toList)).toArray⟩) H'
theorem Pk:Lb ["self", "wanted", "begin"] ["self", "wanted"] (ac O8):=⟨rfl,rfl,rfl,⋯,rfl,⋯,⋯⟩
theorem B9 (F:Fun K "run_of" "Signs.run_of" O8 f fd)(T:Txt K mg CS CN)(M:CM P w K mg base CX0 2 CS "stands_one_of" fS fdS ["self", "wanted"] (dz CS)):FnOk P w K mg base CX0 3 f fd ["self", "wanted"] (PL CS):=by
 refine F.ok Pk (λvs H Q E h=>?_) (λcdv A outer s H vs Q E hr h=>?_)
 ·obtain⟨a,z,p,y,rfl,_⟩:=h;rfl
 obtain⟨a,z,p,y,rfl,S,k⟩:=h;obtain⟨hz,hp,dx,ha⟩:=id S
 refine⟨_,av (de (i:=2) Pk.nd rfl (Or.inl rfl) (eV (pv 0) rfl))
  (av (kL Km.never (fW (f6 (pv 0) T.cl M.me M.ok hr M.bi .nil Oq (aj (pv 1) Oo))) (aJ (mO (pv 0) Ou ya)))
  (aJ (cx (kQ Py (eV (pv 0) rfl) (nX (pv 2)) (nX (eV (pv 0) rfl)))))),?_⟩
 refine⟨_,rfl,a,CS,dx,_,_,rfl,ha,T.cl,T.np,cP _ _,?_⟩
 refine⟨λm σ H'=> ∃j,σ=[some (.ref a),some (.str y),some (.int (p:Int))]/\Moved H H' a/\SgAt CS H' a z (p+j)/\m=z.length - (p+j)/\
  (z.cps.toList.drop p).takeWhile (λc=>decide (c∈y.cps.toList))=(z.cps.toList.drop p).take j++(z.cps.toList.drop (p+j)).takeWhile (λc=>decide (c∈y.cps.toList))/\j<=(z.cps.toList.drop p).length,⟨_,0,rfl,Moved.refl _ _,S,rfl,⇑_,FY _⟩,?_⟩
 rintro m σ H' ⟨j,rfl,mv,S',rfl,tw,jl⟩
 obtain⟨hz',hp',dx',ha'⟩:=id S';refine⟨_,rfl,a,dx',_,rfl,ha',cN _ _ ⋯ ⋯,_,rfl,a,z,p+j,y,rfl,S',_,rfl,?_⟩;refine MF (λc=>?_) (λc=>?_)
 ·have lt:p+j<z.length:=by
   rcases Nat.lt_or_ge (p+j) z.length with h|h
   ·exact h
   ·unfold cH at c;rw[Ji (by rw[br];exact h)] at c;cases c
  obtain⟨c0,hc0,hdr⟩:=AR lt;have cw:decide (c0∈y.cps.toList)=true:=by
   unfold cH at c;rw[hdr] at c;exact c
  refine⟨_,λσ' H'' h=>h,⟨_,rfl,a,CS,dx',_,_,rfl,ha',T.cl,T.np,cP _ _,_,_,rfl,rfl,dx',_,ha',(by rw[kj];show 2<1000;decide),?_⟩⟩;refine⟨z.length - (p+(j+1)),∅,j+1,rfl,mv.trans (io _),⟨hz,∅,dx',?_⟩,rfl,?_,?_⟩
  ·rw[ao,p4];show some (HO.ins CS dx' (Mg z (((p+j:Nat):Int)+1)))=some (HO.ins CS dx' (Mg z ((p+(j+1):Nat):Int)));have:((p+j:Nat):Int)+1=((p+(j+1):Nat):Int):=∅;rw[this]
  ·rw[tw,hdr,Jj,if_pos cw];have:(z.cps.toList.drop p)[j]?=some c0:=by rw[Iq];exact hc0
   rw[am this,Gb];rfl
  ·rw[GC,br];omega
 ·have tn:(z.cps.toList.drop (p+j)).takeWhile (λc=>decide (c∈y.cps.toList))=[]:=by
   unfold cH at c;split at c
   ·rename_i h;rw[h];rfl
   ·rename_i c1 r1 h;rw[h,Jj,if_neg c]
  rw[tn,Gd] at tw;have tl:((z.cps.toList.drop p).takeWhile λc=>decide (c∈y.cps.toList)).length=j:=by rw[tw,Gk];omega
  refine⟨_,rfl,a,CS,dx',_,_,rfl,ha',T.cl,T.nw,iy _ _,_,rfl,_,rfl,_,rfl,a,CS,dx',_,_,rfl,ha',T.cl,T.np,cP _ _,_,rfl,z,rfl,hz,?_⟩;have q:=k H' mv (by rw[tl];exact S');rw[StrLaws.sliceText_nat z (a:=p) (b:=p+j) ∅ hp',Nat.add_sub_cancel_left,<-tw];exact q
end
end Q
namespace Q
open PySem L2 Wd
noncomputable def IsE (H:Hp):Exp->V->Prop
 |.num n,v=> ∃p,v=.ref p/\H p=some (.tup [.str "number",.int n])
 |.box x,v=> ∃p,v=.ref p/\H p=some (.tup [.str "box",.str x])
 |.bin s l r,v=> ∃p a b,v=.ref p/\H p=some (.tup [.str s,a,b])/\IsE H l a/\IsE H r b
theorem IsE.mono (g:Same H H'): ∀ {e:Exp}{v:V},IsE H e v->IsE H' e v
 |.num _,_,⟨p,e,h⟩=>⟨p,e,g _ _ h⟩
 |.box _,_,⟨p,e,h⟩=>⟨p,e,g _ _ h⟩
 |.bin _ _ _,_,⟨p,a,b,e,h,h1,h2⟩=>⟨p,a,b,e,g _ _ h,h1.mono g,h2.mono g⟩
theorem qF {H:Hp}{a p C dx:JG}{fs:List (Str×V)}{xs:List V}(ha:H a=some (.ins C dx fs))(h:H p=some (.tup xs)):p≠a:=λz=>by rw[z,ha] at h;cases h
theorem IsE.moved {fs:List (Str×V)}(ha:H a=some (.ins C dx fs))(g:Moved H H' a): ∀ {e:Exp}{v:V},IsE H e v->IsE H' e v
 |.num _,_,⟨p,e,h⟩=>⟨p,e,g _ _ (qF ha h) h⟩
 |.box _,_,⟨p,e,h⟩=>⟨p,e,g _ _ (qF ha h) h⟩
 |.bin _ _ _,_,⟨p,x,y,e,h,h1,h2⟩=>⟨p,x,y,e,g _ _ (qF ha h) h,h1.moved ha g,h2.moved ha g⟩
noncomputable def gC (C CN:JG)(H:Hp)(a:JG)(z:Str)(Q:VK)(E:XK):Option (Exp×List Nat)->Prop
 |some (e,r)=> ∀v H',Moved H H' a->SgAt C H' a z (z.length - r.length)->IsE H' e v->Q v H'
 |none=> ∀H',Moved H H' a->E (.ref CN) none H'
noncomputable def dG (C CN:JG)(fP:Nat->List Nat->Option (Exp×List Nat))(m:Nat):Sp:=λvs H Q E=> ∃ (a:JG) (z:Str) (p:Nat),vs=[.ref a,.int (5 - (m:Int))]/\SgAt C H a z p/\gC C CN H a z Q E (fP m (z.cps.toList.drop p))
noncomputable def brP:Nat->List Nat->Option (Exp×List Nat)
 |0,_=>none
 |m+1,r=>cE (eT m) r
theorem vf (m:Nat)(l:List Nat):bK m l=if l.head?=some 40 then brP m l.tail else M7 l:=by
 cases m<;>rfl
noncomputable def PF (C CN:JG)(m:Nat):Sp:=λvs H Q E=> ∃ (a:JG) (z:Str) (p:Nat) (r:List Nat),vs=[.ref a,.int (6 - (m:Int))]/\m<=5/\SgAt C H a z p/\z.cps.toList.drop p=40::r/\gC C CN H a z Q E (brP m r)
theorem lR {f:List Nat->Option (Exp×List Nat)}: ∀ {n:Nat}{l:List Nat},(∀c r,l=c::r-> ¬c∈ops)->LI f ops n e l=some (e,l)
 |0,_,_=>rfl
 |_+1,[],_=>rfl
 |_+1,c::r,h=>by
  unfold LI;rw[if_neg (h c r rfl)]
theorem AV:("+-":Str).cps.toList=Ol:=⋯
theorem AW:("*":Str).cps.toList=Oj:=⋯
theorem Ef:("(":Str).cps.toList=[40]:=⋯
theorem Ee:(")":Str).cps.toList=[41]:=⋯
theorem p7 {z:Str}{p:Nat}(hp:p<=z.length):z.length - (z.cps.toList.drop p).length=p:=by rw[GC,br];omega
theorem gA {z:Str}{p c:Nat}(h:z.cps.toList.drop p=c::r):z.cps.toList[p]?=some c/\z.cps.toList.drop (p+1)=r:=by
 refine⟨?_,?_⟩
 ·have:(z.cps.toList.drop p)[0]?=some c:=by rw[h];rfl
  rw[Iq] at this;exact this
 ·have:=congrArg (List.drop 1) h;rw[List.drop_drop] at this;exact this
theorem yI {f:List Nat->Option (Exp×List Nat)}(h:f r=none):cE f r=none:=by unfold cE;rw[h]
theorem AK {f:List Nat->Option (Exp×List Nat)}(h:f r=some (e,41::r2)):cE f r=some (e,r2):=by unfold cE;rw[h];rfl
theorem yH {f:List Nat->Option (Exp×List Nat)}(h:f r=some (e,r1))(h2: ¬r1.head?=some 41):cE f r=none:=by
 unfold cE;rw[h];split
 ·rename_i heq;cases heq;exact absurd rfl h2
 ·rfl
theorem jy {C:JG}{H:Hp}{a:JG}{z:Str}{p:Nat}(h:r<:+z.cps.toList.drop p):z.cps.toList.drop (z.length - r.length)=r:=by
 have:=(vU (w:=z.cps.toList) rfl h).1;rw[br] at this;exact this.symm
section
variable {P:JB}{w:JC}{K:Zf}{mg:Str->Option Jx}{base:JD}{f CS CN fG fS fK:JG}{fd fdG fdS fdK:Ky}
theorem Pm:Lb ["signs", "depth", "e", "sign"] ["signs", "depth"] (ac nL):=⟨rfl,rfl,rfl,⋯,rfl,⋯,⋯⟩
theorem pH {m k:Nat}(hk:2<=k)(F:Fun K "read_terms" "read_terms" nL f fd)(T:Txt K mg CS CN)(G:CF P w K mg base (CXx P w) k "read_factors" fG fdG ["signs", "depth"] (dG CS CN bP m))
  (MS:CM P w K mg base CX0 2 CS "stands_one_of" fS fdS ["self", "wanted"] (dz CS))(MT:CM P w K mg base CX0 1 CS "take_sign" fK fdK ["self"] (jC CS)):FnOk P w K mg base (CXx P w) (k+1) f fd ["signs", "depth"] (dG CS CN eT m):=by
 refine F.okX Pm (λvs H Q E h=>?_) (λcdv A outer s H vs Q E hr h=>?_)
 ·obtain⟨a,z,p,rfl,_⟩:=h;rfl
 obtain⟨a,z,p,rfl,S,k0⟩:=h
 refine⟨_,av (de (i:=2) Pm.nd rfl (Or.inl rfl) (di G.ok hr rfl G.mg G.kp G.bi .nil dY (aj (pv 0) (aj (pv 1) Oo))))
  (av (kL Km.leaving (fW (f6 (pv 0) T.cl MS.me MS.ok (hr.mono hk) MS.bi .nil Oq (aj Ov Oo)))
   (av (de (i:=3) Pm.nd rfl (Or.inl rfl) (dX (pv 0) T.cl MT.me MT.ok (hr.mono ∅) MT.bi .nil Oq))
   (aJ (de (i:=2) Pm.nd rfl (Or.inl rfl) (jE (aj (pv 3) (aj (pv 2) (aj (di G.ok hr rfl G.mg G.kp G.bi .nil dY (aj (pv 0) (aj (pv 1) Oo))) Oo))))))))
  (aJ (cx (pv 2)))),?_⟩
 have sufG:Suf (bP m):=jR m;refine⟨_,rfl,_,rfl,a,z,p,rfl,S,?_⟩;have k1:gC CS CN H a z Q E (Op (bP m) Ol (z.cps.toList.drop p)):=k0;unfold Op at k1;cases hG:bP m (z.cps.toList.drop p) with
 |none=>
  rw[hG] at k1;exact λH' mv=>k1 H' mv
 |some er=>
  obtain⟨e1,r1⟩:=er;rw[hG] at k1;have k1:gC CS CN H a z Q E (LI (bP m) Ol r1.length e1 r1):=k1;intro v1 H1 mv1 S1 i1;have b1:z.cps.toList.drop (z.length - r1.length)=r1:=jy (C:=CS) (H:=H) (a:=a) (sufG _ _ _ hG);generalize hR:LI (bP m) Ol r1.length e1 r1=R at k1
  refine⟨λmm σ H'=> ∃ (v:V) (e:Exp) (p' n:Nat) (sg:Option V),σ=[some (.ref a),some (.int (5 - (m:Int))),some v,sg]/\Moved H H' a/\SgAt CS H' a z p'/\IsE H' e v/\(z.cps.toList.drop p').length<=n/\
   LI (bP m) Ol n e (z.cps.toList.drop p')=R/\mm=z.length - p',⟨_,v1,e1,z.length - r1.length,r1.length,none,rfl,mv1,S1,i1,by rw[b1];exact Fy _,by rw[b1];exact hR,rfl⟩,?_⟩
  rintro mm σ H' ⟨v,e,p',n,sg,rfl,mv,S',ie,ln,ch,rfl⟩
  obtain⟨hz,hp',dx,ha⟩:=id S';refine⟨_,rfl,a,dx,_,rfl,ha,cN _ _ ⋯ ⋯,a,z,p', "+-",rfl,S',_,rfl,?_⟩;refine MF (λc=>?_) (λc=>?_)
  ·unfold cH at c;cases hd:z.cps.toList.drop p' with
   |nil=>rw[hd] at c;cases c
   |cons c0 r0=>
    rw[hd] at c ch ln;have c0m:c0∈Ol:=by rw[<-AV];exact of_decide_eq_true c
    obtain⟨n,rfl⟩: ∃n',n=n'+1:=⟨n - 1,by rw[FH] at ln;omega⟩
    obtain⟨at0,dr0⟩:=gA hd;unfold LI at ch;rw[if_pos c0m] at ch;refine⟨_,λσ' H'' h=>h,⟨_,rfl,a,dx,_,rfl,ha,cN _ _ ⋯ ⋯,a,z,p',c0,rfl,S',at0,λH2 mv2 S2=>?_⟩⟩;obtain⟨_,hp2,dx2,ha2⟩:=id S2;refine⟨_,rfl,_,rfl,_,rfl,_,rfl,a,z,p'+1,rfl,S2,?_⟩;rw[dr0];cases hG2:bP m r0 with
    |none=>
     rw[hG2] at ch;subst ch;exact λH3 mv3=>k1 H3 (mv.trans (mv2.trans mv3))
    |some er2=>
     obtain⟨e2,r2⟩:=er2;rw[hG2] at ch;intro v2 H3 mv3 S3 i3;refine⟨small (by show 3<=1000;decide),λt ht=>?_⟩;have g4:=cV ht (.tup [.str ⟨#[c0]⟩,v,v2]);have suf2:r2<:+z.cps.toList.drop (p'+1):=by rw[dr0];exact sufG _ _ _ hG2
     have b2:=jy (C:=CS) (H:=H) (a:=a) suf2;have l2:r2.length<=r0.length:=(sufG _ _ _ hG2).length_le;have l0:=jj at0;have l3:r0.length=z.length - (p'+1):=by rw[<-dr0,GC,br]
     refine⟨z.length - (z.length - r2.length),∅,.ref t,.bin ⟨#[c0]⟩ e e2,z.length - r2.length,n,_,rfl,mv.trans (mv2.trans (mv3.trans (Moved.same g4))),S3.same g4,?_,?_,?_,rfl⟩
     ·exact⟨t,v,v2,rfl,ao,((ie.moved ha mv2).moved ha2 mv3).mono g4,i3.mono g4⟩
     ·rw[b2];rw[FH] at ln;omega
     ·rw[b2];exact ch
  ·have st:LI (bP m) Ol n e (z.cps.toList.drop p')=some (e,z.cps.toList.drop p'):=lR λc0 r0 hd hm=>by
    unfold cH at c;rw[hd] at c;exact c (decide_eq_true (by rw[AV];exact hm))
   rw[st] at ch;subst ch;exact⟨_,rfl,k1 v H' mv (by rw[p7 hp'];exact S') ie⟩
theorem Pj:Lb ["signs", "depth", "e", "sign"] ["signs", "depth"] (ac i7):=⟨rfl,rfl,rfl,⋯,rfl,⋯,⋯⟩
theorem kX {m k:Nat}(hk:2<=k)(F:Fun K "read_factors" "read_factors" i7 f fd)(T:Txt K mg CS CN)(G:CF P w K mg base (CXx P w) k "read_factor" fG fdG ["signs", "depth"] (dG CS CN bK m))
  (MS:CM P w K mg base CX0 2 CS "stands_one_of" fS fdS ["self", "wanted"] (dz CS))(MT:CM P w K mg base CX0 1 CS "take_sign" fK fdK ["self"] (jC CS)):FnOk P w K mg base (CXx P w) (k+1) f fd ["signs", "depth"] (dG CS CN bP m):=by
 refine F.okX Pj (λvs H Q E h=>?_) (λcdv A outer s H vs Q E hr h=>?_)
 ·obtain⟨a,z,p,rfl,_⟩:=h;rfl
 obtain⟨a,z,p,rfl,S,k0⟩:=h
 refine⟨_,av (de (i:=2) Pj.nd rfl (Or.inl rfl) (di G.ok hr rfl G.mg G.kp G.bi .nil dY (aj (pv 0) (aj (pv 1) Oo))))
  (av (kL Km.leaving (fW (f6 (pv 0) T.cl MS.me MS.ok (hr.mono hk) MS.bi .nil Oq (aj Ov Oo)))
   (av (de (i:=3) Pj.nd rfl (Or.inl rfl) (dX (pv 0) T.cl MT.me MT.ok (hr.mono ∅) MT.bi .nil Oq))
   (aJ (de (i:=2) Pj.nd rfl (Or.inl rfl) (jE (aj (pv 3) (aj (pv 2) (aj (di G.ok hr rfl G.mg G.kp G.bi .nil dY (aj (pv 0) (aj (pv 1) Oo))) Oo))))))))
  (aJ (cx (pv 2)))),?_⟩
 have sufG:Suf (bK m):=iH m;refine⟨_,rfl,_,rfl,a,z,p,rfl,S,?_⟩;have k1:gC CS CN H a z Q E (Op (bK m) Oj (z.cps.toList.drop p)):=k0;unfold Op at k1;cases hG:bK m (z.cps.toList.drop p) with
 |none=>
  rw[hG] at k1;exact λH' mv=>k1 H' mv
 |some er=>
  obtain⟨e1,r1⟩:=er;rw[hG] at k1;have k1:gC CS CN H a z Q E (LI (bK m) Oj r1.length e1 r1):=k1;intro v1 H1 mv1 S1 i1;have b1:z.cps.toList.drop (z.length - r1.length)=r1:=jy (C:=CS) (H:=H) (a:=a) (sufG _ _ _ hG);generalize hR:LI (bK m) Oj r1.length e1 r1=R at k1
  refine⟨λmm σ H'=> ∃ (v:V) (e:Exp) (p' n:Nat) (sg:Option V),σ=[some (.ref a),some (.int (5 - (m:Int))),some v,sg]/\Moved H H' a/\SgAt CS H' a z p'/\IsE H' e v/\(z.cps.toList.drop p').length<=n/\
   LI (bK m) Oj n e (z.cps.toList.drop p')=R/\mm=z.length - p',⟨_,v1,e1,z.length - r1.length,r1.length,none,rfl,mv1,S1,i1,by rw[b1];exact Fy _,by rw[b1];exact hR,rfl⟩,?_⟩
  rintro mm σ H' ⟨v,e,p',n,sg,rfl,mv,S',ie,ln,ch,rfl⟩
  obtain⟨hz,hp',dx,ha⟩:=id S';refine⟨_,rfl,a,dx,_,rfl,ha,cN _ _ ⋯ ⋯,a,z,p', "*",rfl,S',_,rfl,?_⟩;refine MF (λc=>?_) (λc=>?_)
  ·unfold cH at c;cases hd:z.cps.toList.drop p' with
   |nil=>rw[hd] at c;cases c
   |cons c0 r0=>
    rw[hd] at c ch ln;have c0m:c0∈Oj:=by rw[<-AW];exact of_decide_eq_true c
    obtain⟨n,rfl⟩: ∃n',n=n'+1:=⟨n - 1,by rw[FH] at ln;omega⟩
    obtain⟨at0,dr0⟩:=gA hd;unfold LI at ch;rw[if_pos c0m] at ch;refine⟨_,λσ' H'' h=>h,⟨_,rfl,a,dx,_,rfl,ha,cN _ _ ⋯ ⋯,a,z,p',c0,rfl,S',at0,λH2 mv2 S2=>?_⟩⟩;obtain⟨_,hp2,dx2,ha2⟩:=id S2;refine⟨_,rfl,_,rfl,_,rfl,_,rfl,a,z,p'+1,rfl,S2,?_⟩;rw[dr0];cases hG2:bK m r0 with
    |none=>
     rw[hG2] at ch;subst ch;exact λH3 mv3=>k1 H3 (mv.trans (mv2.trans mv3))
    |some er2=>
     obtain⟨e2,r2⟩:=er2;rw[hG2] at ch;intro v2 H3 mv3 S3 i3;refine⟨small (by show 3<=1000;decide),λt ht=>?_⟩;have g4:=cV ht (.tup [.str ⟨#[c0]⟩,v,v2]);have suf2:r2<:+z.cps.toList.drop (p'+1):=by rw[dr0];exact sufG _ _ _ hG2
     have b2:=jy (C:=CS) (H:=H) (a:=a) suf2;have l2:r2.length<=r0.length:=(sufG _ _ _ hG2).length_le;have l0:=jj at0;have l3:r0.length=z.length - (p'+1):=by rw[<-dr0,GC,br]
     refine⟨z.length - (z.length - r2.length),∅,.ref t,.bin ⟨#[c0]⟩ e e2,z.length - r2.length,n,_,rfl,mv.trans (mv2.trans (mv3.trans (Moved.same g4))),S3.same g4,?_,?_,?_,rfl⟩
     ·exact⟨t,v,v2,rfl,ao,((ie.moved ha mv2).moved ha2 mv3).mono g4,i3.mono g4⟩
     ·rw[b2];rw[FH] at ln;omega
     ·rw[b2];exact ch
  ·have st:LI (bK m) Oj n e (z.cps.toList.drop p')=some (e,z.cps.toList.drop p'):=lR λc0 r0 hd hm=>by
    unfold cH at c;rw[hd] at c;exact c (decide_eq_true (by rw[AW];exact hm))
   rw[st] at ch;subst ch;exact⟨_,rfl,k1 v H' mv (by rw[p7 hp'];exact S') ie⟩
theorem Pf:Lb ["signs", "depth", "e"] ["signs", "depth"] (ac gS):=⟨rfl,rfl,rfl,⋯,rfl,⋯,⋯⟩
theorem Cb (F:Fun K "read_bracket" "read_bracket" gS f fd)(T:Txt K mg CS CN):FnOk P w K mg base (CXx P w) 1 f fd ["signs", "depth"] (PF CS CN 0):=by
 refine F.okX Pf (λvs H Q E h=>?_) (λcdv A outer s H vs Q E hr h=>?_)
 ·obtain⟨a,z,p,r,rfl,_⟩:=h;rfl
 obtain⟨a,z,p,r,rfl,h5,S,hd,k0⟩:=h;obtain⟨t5,g5⟩:=T.n5;refine⟨_,av (gG (dh mS (pv 1) (cW (v:=.int 5) rfl g5 ⟨_,rfl⟩) (dZ _)) (aJ (fk fj rfl rfl T.mgN T.exN (aj Ov Oo))) OC) uy,?_⟩;refine⟨_,rfl,_,_,rfl,rfl,_,rfl,?_⟩;refine MH ⟨small (by show 1<=1000;decide),k0 H (Moved.refl _ _)⟩
theorem Em {m k:Nat}(hk:2<=k)(F:Fun K "read_bracket" "read_bracket" gS f fd)(T:Txt K mg CS CN)(G:CF P w K mg base (CXx P w) k "read_terms" fG fdG ["signs", "depth"] (dG CS CN eT m))
  (MS:CM P w K mg base CX0 2 CS "stands_one_of" fS fdS ["self", "wanted"] (dz CS))(MT:CM P w K mg base CX0 1 CS "take_sign" fK fdK ["self"] (jC CS)):FnOk P w K mg base (CXx P w) (k+1) f fd ["signs", "depth"] (PF CS CN (m+1)):=by
 refine F.okX Pf (λvs H Q E h=>?_) (λcdv A outer s H vs Q E hr h=>?_)
 ·obtain⟨a,z,p,r,rfl,_⟩:=h;rfl
 obtain⟨a,z,p,r,rfl,h5,S,hd,k0⟩:=h;obtain⟨t5,g5⟩:=T.n5
 refine⟨_,av (gG (dh mS (pv 1) (cW (v:=.int 5) rfl g5 ⟨_,rfl⟩) (dZ _)) (aJ (fk fj rfl rfl T.mgN T.exN (aj Ov Oo))) OC)
  (av (nV (dX (pv 0) T.cl MT.me MT.ok (hr.mono ∅) MT.bi .nil Oq))
  (av (de (i:=2) Pf.nd rfl (Or.inl rfl) (di G.ok hr rfl G.mg G.kp G.bi .nil dY (aj (pv 0) (aj (pv 1) Oo))))
  (av (gG (qX (fW (f6 (pv 0) T.cl MS.me MS.ok (hr.mono hk) MS.bi .nil Oq (aj Ov Oo)))) (aJ (fk fj rfl rfl T.mgN T.exN (aj Ov Oo))) OC)
  (av (nV (dX (pv 0) T.cl MT.me MT.ok (hr.mono ∅) MT.bi .nil Oq))
  (aJ (cx (pv 2))))))),?_⟩
 obtain⟨hz,hp,dx,ha⟩:=id S;obtain⟨at0,dr0⟩:=gA hd;refine⟨_,rfl,_,_,rfl,rfl,_,rfl,?_⟩;refine MF (λc=>?_) (λc=>?_)
 ·have c1:(6 - ((m+1:Nat):Int))>5:=of_decide_eq_true c;omega
 ·refine⟨_,rfl,a,dx,_,rfl,ha,cN _ _ ⋯ ⋯,a,z,p,40,rfl,S,at0,λH1 mv1 S1=>?_⟩;have e6:(6 - ((m+1:Nat):Int))=5 - (m:Int):=∅;refine⟨_,rfl,_,rfl,a,z,p+1,by show [V.ref a,V.int (6 - ((m+1:Nat):Int))]=_;rw[e6],S1,?_⟩;rw[dr0];have k1:gC CS CN H a z Q E (cE (eT m) r):=k0;cases hG:eT m r with
  |none=>
   rw[yI hG] at k1;exact λH' mv=>k1 H' (mv1.trans mv)
  |some er=>
   obtain⟨e1,r1⟩:=er;intro v2 H2 mv2 S2 i2;obtain⟨_,hp2,dx2,ha2⟩:=id S2;have suf1:r1<:+z.cps.toList.drop (p+1):=by rw[dr0];exact my m _ _ _ hG
   have b1:=jy (C:=CS) (H:=H) (a:=a) suf1;refine⟨_,rfl,a,dx2,_,rfl,ha2,cN _ _ ⋯ ⋯,a,z,_, ")",rfl,S2,_,rfl,?_⟩;have st:cH z (z.length - r1.length) ")"=decide (r1.head?=some 41):=by
    unfold cH;rw[b1];cases r1 with
    |nil=>rfl
    |cons c0 r0=>
     show decide (c0∈(")":Str).cps.toList)=decide (some c0=some 41);rw[Ee,decide_eq_decide];simp
   rw[st];by_cases h41:r1.head?=some 41
   ·rw[decide_eq_true h41];obtain⟨r2,rfl⟩: ∃r2,r1=41::r2:=by
     cases r1 with
     |nil=>cases h41
     |cons c0 r0=>have:c0=41:=by simpa using h41
                  subst this;exact⟨r0,rfl⟩
    obtain⟨at1,dr1⟩:=gA b1;refine MG ⟨_,rfl,a,dx2,_,rfl,ha2,cN _ _ ⋯ ⋯,a,z,_,41,rfl,S2,at1,λH3 mv3 S3=>⟨_,rfl,?_⟩⟩;rw[AK hG] at k1;have k2: ∀v H',Moved H H' a->SgAt CS H' a z (z.length - r2.length)->IsE H' e1 v->Q v H':=k1;refine k2 v2 H3 (mv1.trans (mv2.trans mv3)) ?_ (i2.moved ha2 mv3);have l1:=jj at1;have:z.length - (41::r2).length+1=z.length - r2.length:=by
     have:=suf1.length_le;rw[GC,br,FH] at this;rw[FH];omega
    rw[this] at S3;exact S3
   ·rw[decide_eq_false h41];refine MH ⟨small (by show 1<=1000;decide),?_⟩;rw[yH hG h41] at k1;have k2: ∀H',Moved H H' a->E (.ref CN) none H':=k1;exact k2 H2 (mv1.trans mv2)
theorem Ph:Lb ["signs", "depth", "factor"] ["signs", "depth"] (ac j2):=⟨rfl,rfl,rfl,⋯,rfl,⋯,⋯⟩
theorem DF:LET.length+FIG.length<=sizeLine:=⋯
theorem pJ {z:Str}(h:NT z=true):PySem.intText? z=some (df z)/\z.length<=640:=by
 unfold NT at h;simp only[F7,decide_eq_true_eq] at h;obtain⟨⟨h1,h2⟩,_,h4⟩:=h;refine⟨?_,∅⟩;refine PySem.intText_digits (λc hc=>?_) (λe=>?_) ∅
 ·exact MA.mp (Gf.mp h4 c hc)
 ·have:=br z;rw[e] at this;simp at this;omega
theorem mU {m k:Nat}(hk:3<=k)(hm5:m<=5)(F:Fun K "read_factor" "read_factor" j2 f fd)(T:Txt K mg CS CN)(G:CF P w K mg base (CXx P w) k "read_bracket" fG fdG ["signs", "depth"] (PF CS CN m))
  (MS:CM P w K mg base CX0 2 CS "stands_one_of" fS fdS ["self", "wanted"] (dz CS))(MR:CM P w K mg base CX0 3 CS "run_of" fR fdR ["self", "wanted"] (PL CS))
  (FN:CF P w K mg base CX0 1 "is_name" fN fdN ["word"] kB)(FM:CF P w K mg base CX0 1 "is_number" fM fdM ["word"] PK):FnOk P w K mg base (CXx P w) (k+1) f fd ["signs", "depth"] (dG CS CN bK m):=by
 refine F.okX Ph (λvs H Q E h=>?_) (λcdv A outer s H vs Q E hr h=>?_)
 ·obtain⟨a,z,p,rfl,_⟩:=h;rfl
 obtain⟨a,z,p,rfl,S,k0⟩:=h;obtain⟨tL,hL⟩:=T.let_;obtain⟨tF,hF⟩:=T.fig
 refine⟨_,av (gG (fW (f6 (pv 0) T.cl MS.me MS.ok (hr.mono ∅) MS.bi .nil Oq (aj Ov Oo))) (aJ (cx (di G.ok hr rfl G.mg G.kp G.bi .nil dY (aj (pv 0) (aj (sU N4 (pv 1) Ou) Oo))))) OC)
  (av (de (i:=2) Ph.nd rfl (Or.inl rfl) (f6 (pv 0) T.cl MR.me MR.ok (hr.mono hk) MR.bi .nil Oq (aj (sU N5 (cW (v:=.str LET) rfl hL ⟨_,rfl⟩) (cW (v:=.str FIG) rfl hF ⟨_,rfl⟩)) Oo)))
  (av (gG (fW (di FN.ok (hr.mono ∅) rfl FN.mg FN.kp FN.bi .nil Oq (aj (pv 2) Oo))) (aJ (cx (jE (aj Ov (aj (pv 2) Oo))))) OC)
  (av (gG (fW (di FM.ok (hr.mono ∅) rfl FM.mg FM.kp FM.bi .nil Oq (aj (pv 2) Oo))) (aJ (cx (jE (aj Ov (aj (jF jv rfl T.int PyProof.Rows.boot_int (aj (pv 2) Oo)) Oo))))) OC)
  (aJ (fk fj rfl rfl T.mgN T.exN (aj Ov Oo)))))),?_⟩
 obtain⟨hz,hp,dx,ha⟩:=id S;refine⟨_,rfl,a,dx,_,rfl,ha,cN _ _ ⋯ ⋯,a,z,p, "(",rfl,S,_,rfl,?_⟩;rw[vf] at k0;have st:cH z p "("=decide ((z.cps.toList.drop p).head?=some 40):=by
  unfold cH;cases hd:z.cps.toList.drop p with
  |nil=>rfl
  |cons c0 r0=>
   show decide (c0∈("(":Str).cps.toList)=decide (some c0=some 40);rw[Ef,decide_eq_decide];simp
 rw[st];by_cases h40:(z.cps.toList.drop p).head?=some 40
 ·rw[decide_eq_true h40];rw[if_pos h40] at k0;obtain⟨r,hd⟩: ∃r,z.cps.toList.drop p=40::r:=by
   cases hd:z.cps.toList.drop p with
   |nil=>rw[hd] at h40;cases h40
   |cons c0 r0=>rw[hd] at h40
                have:c0=40:=by simpa using h40
                subst this;exact⟨r0,rfl⟩
  rw[hd] at k0;refine MH ⟨_,rfl,_,rfl,_,_,rfl,rfl,a,z,p,r,?_,hm5,S,hd,k0⟩;show [V.ref a,V.int (5 - (m:Int)+1)]=_;have:(5 - (m:Int)+1)=6 - (m:Int):=∅;rw[this]
 ·rw[decide_eq_false h40];rw[if_neg h40] at k0;refine MG ⟨_,rfl,a,dx,_,rfl,ha,cN _ _ ⋯ ⋯,_,_,rfl,rfl,DF,a,z,p,LET++FIG,rfl,S,λH1 mv1 S1=>?_⟩;have ean:(λc=>decide (c∈(LET++FIG).cps.toList))=Mx:=rfl;rw[ean] at S1 ⊢;have fl:(⟨((z.cps.toList.drop p).takeWhile Mx).toArray⟩:Str).length<=sizeLine:=by
   show (((z.cps.toList.drop p).takeWhile Mx).toArray).size<=sizeLine;rw[FP];have:=(List.takeWhile_sublist (l:=z.cps.toList.drop p) Mx).length_le;rw[GC,br] at this;omega
  have dw:z.length - ((z.cps.toList.drop p).dropWhile Mx).length=p+((z.cps.toList.drop p).takeWhile Mx).length:=by
   have e:=congrArg List.length (List.takeWhile_append_dropWhile (p:=Mx) (l:=z.cps.toList.drop p));rw[FE,GC,br] at e;omega
  unfold M7 at k0;refine⟨_,rfl,_,rfl,fl,λH2 g2=>⟨_,rfl,?_⟩⟩;refine MF (λc=>?_) (λc=>?_)
  ·rw[if_pos c] at k0;have k1: ∀v H',Moved H H' a->SgAt CS H' a z (z.length - ((z.cps.toList.drop p).dropWhile Mx).length)->IsE H' (.box ⟨((z.cps.toList.drop p).takeWhile Mx).toArray⟩) v->Q v H':=k0;refine⟨_,rfl,small (by show 2<=1000;decide),λt ht=>?_⟩;refine k1 _ _ (mv1.trans ((Moved.same g2).trans (Moved.same (cV ht _)))) ?_ ⟨t,rfl,ao⟩;rw[dw];exact (S1.same g2).same (cV ht _)
  ·rw[if_neg c] at k0;refine⟨_,rfl,_,rfl,fl,λH3 g3=>⟨_,rfl,?_⟩⟩;refine MF (λc2=>?_) (λc2=>?_)
   ·rw[if_pos c2] at k0;have k1: ∀v H',Moved H H' a->SgAt CS H' a z (z.length - ((z.cps.toList.drop p).dropWhile Mx).length)->IsE H' (.num (df ⟨((z.cps.toList.drop p).takeWhile Mx).toArray⟩)) v->Q v H':=k0;obtain⟨n1,n2⟩:=pJ c2;refine⟨_,rfl,_,_,rfl,n1,n2,small (by show 2<=1000;decide),λt ht=>?_⟩;refine k1 _ _ (mv1.trans ((Moved.same g2).trans ((Moved.same g3).trans (Moved.same (cV ht _))))) ?_ ⟨t,rfl,ao⟩;rw[dw];exact ((S1.same g2).same g3).same (cV ht _)
   ·rw[if_neg c2] at k0;exact⟨small (by show 1<=1000;decide),k0 H3 (mv1.trans ((Moved.same g2).trans (Moved.same g3)))⟩
end
end Q
namespace Q
open PySem L2 Wd
noncomputable def Told (CN:JG)(H:Hp)(Q:VK)(E:XK):Option Exp->Prop
 |some e=> ∀v H',Same H H'->IsE H' e v->Q v H'
 |none=> ∀H',Same H H'->E (.ref CN) none H'
noncomputable def qI (CN:JG):Sp:=λvs H Q E=> ∃z:Str,vs=[.str z]/\z.length<=sizeLine/\Told CN H Q E (L6 z)
section
variable {P:JB}{w:JC}{K:Zf}{mg:Str->Option Jx}{base:JD}{f CS CN fT fI fD:JG}{fd fdT fdI fdD:Ky}
theorem Pg:Lb ["word", "signs", "e"] ["word"] (ac O2):=⟨rfl,rfl,rfl,⋯,rfl,⋯,⋯⟩
theorem zF {k:Nat}(hk:2<=k)(F:Fun K "expression" "expression" O2 f fd)(T:Txt K mg CS CN)(G:CF P w K mg base (CXx P w) k "read_terms" fT fdT ["signs", "depth"] (dG CS CN eT 5))
  (M:Mk K CS fI)(GI:FnOk P w K mg base CX0 1 fI fdI ["self", "word"] (sE CS))(bI:Binds K fdI ["self", "word"] [])(MD:CM P w K mg base CX0 1 CS "is_done" fD fdD ["self"] (nH CS)):FnOk P w K mg base (CXx P w) (k+1) f fd ["word"] (qI CN):=by
 refine F.okX Pg (λvs H Q E h=>?_) (λcdv A outer s H vs Q E hr h=>?_)
 ·obtain⟨z,rfl,_⟩:=h;rfl
 obtain⟨z,rfl,hz,k0⟩:=h;obtain⟨t60,h60⟩:=T.n60
 refine⟨_,av (gG (dh mS (cX LF rfl T.len PySem.boot_len (aj (pv 0) Oo)) (cW (v:=.int 60) rfl h60 ⟨_,rfl⟩) (dZ _)) (aJ (fk fj rfl rfl T.mgN T.exN (aj Ov Oo))) OC)
  (av (de (i:=1) Pg.nd rfl (Or.inl rfl) (zv M GI (hr.mono hk) rfl T.mgS bI .nil Oq (aj (pv 0) Oo)))
  (av (de (i:=2) Pg.nd rfl (Or.inl rfl) (di G.ok hr rfl G.mg G.kp G.bi .nil dY (aj (pv 1) (aj Ou Oo))))
  (av (gG (qX (fW (dX (pv 1) T.cl MD.me MD.ok (hr.mono ∅) MD.bi .nil Oq))) (aJ (fk fj rfl rfl T.mgN T.exN (aj Ov Oo))) OC)
  (aJ (cx (pv 2)))))),?_⟩
 refine⟨_,rfl,z,rfl,hz,_,_,rfl,rfl,_,rfl,?_⟩;unfold L6 at k0;refine MF (λc=>?_) (λc=>?_)
 ·have c1:(z.length:Int)>60:=of_decide_eq_true c;rw[if_pos ∅] at k0;exact⟨small (by show 1<=1000;decide),k0 H (Same.refl _)⟩
 ·have c1: ¬(z.length:Int)>60:=of_decide_eq_false (G6.mpr c);rw[if_neg ∅] at k0;refine⟨_,rfl,λx dx nx ndx nex=>?_⟩;refine⟨x,dx,z,rfl,ao,hz,λH1 mv1 S1=>⟨rfl,?_⟩⟩;have s0: ∀ {H2:Hp},Moved H1 H2 x->Same H H2:=λ{H2} mv b o e=>mv b o (bj e nx) (mv1 b o (bj e nx) (by rw[ag (bj e nx),ag (bj e ndx)];exact e));refine⟨_,rfl,x,z,0,rfl,S1,?_⟩;rw[HG];cases hG:eT 5 z.cps.toList with
  |none=>
   rw[hG] at k0;exact λH2 mv2=>k0 H2 (s0 mv2)
  |some er=>
   obtain⟨e1,r1⟩:=er;rw[hG] at k0;intro v2 H2 mv2 S2 i2;obtain⟨_,hp2,dx2,ha2⟩:=id S2;refine⟨_,rfl,x,dx2,_,rfl,ha2,cN _ _ ⋯ ⋯,x,z,_,rfl,S2,_,rfl,?_⟩;have rl:r1.length<=z.length:=by
    have:=(my 5 _ _ _ hG).length_le;rw[br] at this;exact this
   cases r1 with
   |nil=>
    have k1: ∀v H',Same H H'->IsE H' e1 v->Q v H':=k0;rw[decide_eq_true (by simp:z.length - ([]:List Nat).length=z.length)];exact MG ⟨_,rfl,k1 v2 H2 (s0 mv2) i2⟩
   |cons c0 r0=>
    have k1: ∀H',Same H H'->E (.ref CN) none H':=k0;rw[decide_eq_false (by rw[FH] at rl ⊢;omega)];exact MH ⟨small (by show 1<=1000;decide),k1 H2 (s0 mv2)⟩
end
section
variable {P:JB}{w:JC}{K:Zf}{mg:Str->Option Jx}{base:JD}{CS CN fT fF fA fB fS fK fN fM fR:JG}{fdT fdF fdA fdB fdS fdK fdN fdM fdR:Ky}
theorem sL (T:Txt K mg CS CN)(FT:Fun K "read_terms" "read_terms" nL fT fdT)(bT:Binds K fdT ["signs", "depth"] [])(mT:mg "read_terms"=some (.ref fT))
  (FF:Fun K "read_factors" "read_factors" i7 fF fdF)(bF:Binds K fdF ["signs", "depth"] [])(mF:mg "read_factors"=some (.ref fF))
  (FA:Fun K "read_factor" "read_factor" j2 fA fdA)(bA:Binds K fdA ["signs", "depth"] [])(mA:mg "read_factor"=some (.ref fA))
  (FB:Fun K "read_bracket" "read_bracket" gS fB fdB)(bB:Binds K fdB ["signs", "depth"] [])(mB:mg "read_bracket"=some (.ref fB))
  (MS:CM P w K mg base CX0 2 CS "stands_one_of" fS fdS ["self", "wanted"] (dz CS))(MT:CM P w K mg base CX0 1 CS "take_sign" fK fdK ["self"] (jC CS))(MR:CM P w K mg base CX0 3 CS "run_of" fR fdR ["self", "wanted"] (PL CS))
  (CN':CF P w K mg base CX0 1 "is_name" fN fdN ["word"] kB)(CM':CF P w K mg base CX0 1 "is_number" fM fdM ["word"] PK):
  ∀m,m<=5->CF P w K mg base (CXx P w) (4 * m+7) "read_terms" fT fdT ["signs", "depth"] (dG CS CN eT m)
 |0,h=>by
  have B0:CF P w K mg base (CXx P w) 4 "read_bracket" fB fdB ["signs", "depth"] (PF CS CN 0):=⟨(Cb FB T).mono ↥_,bB,FB.kp,mB⟩
  have A0:CF P w K mg base (CXx P w) 5 "read_factor" fA fdA ["signs", "depth"] (dG CS CN bK 0):=⟨mU ↥_ h FA T B0 MS MR CN' CM',bA,FA.kp,mA⟩
  have F0:CF P w K mg base (CXx P w) 6 "read_factors" fF fdF ["signs", "depth"] (dG CS CN bP 0):=⟨kX ↥_ FF T A0 MS MT,bF,FF.kp,mF⟩
  exact⟨pH ↥_ FT T F0 MS MT,bT,FT.kp,mT⟩
 |m+1,h=>by
  have T0:=sL T FT bT mT FF bF mF FA bA mA FB bB mB MS MT MR CN' CM' m ∅;have B0:CF P w K mg base (CXx P w) (4 * m+8) "read_bracket" fB fdB ["signs", "depth"] (PF CS CN (m+1)):=⟨Em ∅ FB T T0 MS MT,bB,FB.kp,mB⟩
  have A0:CF P w K mg base (CXx P w) (4 * m+9) "read_factor" fA fdA ["signs", "depth"] (dG CS CN bK (m+1)):=⟨mU ∅ h FA T B0 MS MR CN' CM',bA,FA.kp,mA⟩
  have F0:CF P w K mg base (CXx P w) (4 * m+10) "read_factors" fF fdF ["signs", "depth"] (dG CS CN bP (m+1)):=⟨kX ∅ FF T A0 MS MT,bF,FF.kp,mF⟩
  exact⟨pH ∅ FT T F0 MS MT,bT,FT.kp,mT⟩
end
end Q
namespace Wd
open PySem L2
section
noncomputable def M1 (c:Nat):Nat:=if Mz c=true then 2 else if MC c=true then 1 else 0
noncomputable abbrev Tk:=Nat×List Nat
noncomputable def toks:List Nat->List Tk
 |[]=>[]
 |c::r=>match toks r with
  |[]=>[(M1 c,[c])]
  |(k,t)::ts=>if M1 c≠0/\k=M1 c then (k,c::t)::ts else (M1 c,[c])::(k,t)::ts
end
section
noncomputable def mid (l:List Nat):List Nat:=l.tail.dropLast
end
section
noncomputable def L5:Exp->W
 |.num n=>.tup [.str "number",.int n]
 |.box x=>.tup [.str "box",.str x]
 |.bin s l r=>.tup [.str s,L5 l,L5 r]
noncomputable def kn (ws:List W):M W:=match ws with
 |[.str z]=>gd (z.length<=sizeLine) (pr (.bl (aO z)))
 |_=>no
noncomputable def oH (ws:List W):M W:=match ws with
 |[.str z]=>gd (z.length<=sizeLine) (pr (.bl (NT z)))
 |_=>no
noncomputable def hZ (ws:List W):M W:=match ws with
 |[.str z]=>gd (z.length<=sizeLine) (match L6 z with
  |some e=>pr (L5 e)
  |none=>no)
 |_=>no
end
end Wd
namespace Q
open PySem L2 Wd
theorem rM {K:Zf}{mu:Nat->JG}: ∀ {e:Exp}{v:V},IsE H e v->Rv K ⟨mu,h,H⟩ (L5 e) v
 |.num n,v,q=>by
  obtain⟨p,rfl,e⟩:=q;unfold L5 Rv;exact⟨p,_,rfl,.of e,Rvs.cons (OY.mpr rfl) (Rvs.cons (OV.mpr rfl) Rvs.nil)⟩
 |.box n,v,q=>by
  obtain⟨p,rfl,e⟩:=q;unfold L5 Rv;exact⟨p,_,rfl,.of e,Rvs.cons (OY.mpr rfl) (Rvs.cons (OY.mpr rfl) Rvs.nil)⟩
 |.bin s l r,v,q=>by
  obtain⟨p,a,b,rfl,e,h1,h2⟩:=q;unfold L5 Rv;exact⟨p,_,rfl,.of e,Rvs.cons (OY.mpr rfl) (Rvs.cons (rM h1) (Rvs.cons (rM h2) Rvs.nil))⟩
section
variable {P:JB}{w:JC}{K:Zf}{mg:Str->Option Jx}{base:JD}{f CN:JG}{fd:Ky}{k:Nat}
theorem vo (C:CF P w K mg base CX0 1 "is_name" f fd ["word"] kB):CG P w K mg base 1 "is_name" f fd ["word"] 1 kn:=
 ⟨C.ok.imp λvs H Q E h=>by
  obtain⟨o,ws,rfl,hl,R,rv,h⟩:=h;rcases ws with _|⟨x,_|⟨_,_⟩⟩
  ·exact h.elim
  ·obtain⟨v,rfl,r⟩:=rv.one;cases x with
   |str z=>
    obtain⟨hz,h⟩:=h.gd;exact⟨z,by rw[OY.mp r],hz,λH' g=>o9 (ws:=[]) R g (OU.mpr rfl) h⟩
   |_=>exact h.elim
  ·exact absurd hl ⇑_,C.bi,C.kp,C.mg⟩
theorem yA (C:CF P w K mg base CX0 1 "is_number" f fd ["word"] PK):CG P w K mg base 1 "is_number" f fd ["word"] 1 oH:=
 ⟨C.ok.imp λvs H Q E h=>by
  obtain⟨o,ws,rfl,hl,R,rv,h⟩:=h;rcases ws with _|⟨x,_|⟨_,_⟩⟩
  ·exact h.elim
  ·obtain⟨v,rfl,r⟩:=rv.one;cases x with
   |str z=>
    obtain⟨hz,h⟩:=h.gd;exact⟨z,by rw[OY.mp r],hz,λH' g=>o9 (ws:=[]) R g (OU.mpr rfl) h⟩
   |_=>exact h.elim
  ·exact absurd hl ⇑_,C.bi,C.kp,C.mg⟩
theorem AI (C:CF P w K mg base (CXx P w) k "expression" f fd ["word"] (qI CN)):CG P w K mg base k "expression" f fd ["word"] 1 hZ:=
 ⟨yh C.ok λvs H Q E h=>by
  obtain⟨o,ws,rfl,hl,R,rv,h⟩:=h;rcases ws with _|⟨x,_|⟨_,_⟩⟩
  ·exact h.elim
  ·obtain⟨v,rfl,r⟩:=rv.one;cases x with
   |str z=>
    obtain⟨hz,h⟩:=h.gd;refine⟨z,by rw[OY.mp r],hz,?_⟩;cases e:L6 z with
    |none=>rw[e] at h;exact h.elim
    |some x=>
     rw[e] at h;exact λv H' g i=>Ps.at (p:=⟨o.mu,o.h,H'⟩) h rfl (Ex.same g) (R.same g) (rM i)
   |_=>exact h.elim
  ·exact absurd hl ⇑_,C.bi,C.kp,C.mg⟩
end
end Q
namespace Q
open PySem L2 Wd
noncomputable abbrev qN:Ke:=top 27
noncomputable abbrev ur:Ke:=top 51
noncomputable abbrev pc:Ke:=top 52
noncomputable abbrev kF:Ke:=top 50
noncomputable abbrev mK:Ke:=top 49
noncomputable abbrev md:Ke:=top 54
noncomputable abbrev qM:Ke:=top 56
noncomputable abbrev gE:Ke:=top 55
noncomputable abbrev iL:Ke:=bY (top 53) 0
noncomputable abbrev iK:Ke:=bY (top 53) 1
noncomputable abbrev dJ:Ke:=bY (top 53) 8
noncomputable abbrev gI:Ke:=bY (top 53) 3
noncomputable abbrev gH:Ke:=bY (top 53) 4
noncomputable abbrev gR:Ke:=bY (top 53) 5
noncomputable abbrev gJ:Ke:=bY (top 53) 6
noncomputable abbrev iJ:Ke:=bY (top 53) 7
noncomputable abbrev kH:Ke:=bY (top 53) 2
noncomputable abbrev fV:Ke:=bY (top 53) 9
noncomputable abbrev Bx:Ke:=top 48
noncomputable abbrev qL:Ke:=top 29
noncomputable abbrev Bv:Ke:=top 30
noncomputable abbrev zg:Ke:=top 33
noncomputable abbrev i6:Ke:=top 34
noncomputable abbrev mI:Ke:=top 35
noncomputable abbrev zf:Ke:=top 36
noncomputable abbrev gQ:Ke:=top 37
noncomputable abbrev sF:Ke:=top 38
noncomputable abbrev iI:Ke:=top 39
noncomputable abbrev kG:Ke:=top 40
noncomputable abbrev ma:Ke:=top 58
noncomputable abbrev l8:Ke:=top 59
noncomputable abbrev ph:Ke:=top 60
noncomputable abbrev qO:Ke:=top 61
noncomputable abbrev jX:Ke:=top 62
noncomputable abbrev ut:Ke:=top 63
noncomputable abbrev qP:Ke:=top 64
noncomputable abbrev i5:Ke:=top 65
noncomputable abbrev pj:Ke:=top 66
noncomputable abbrev qQ:Ke:=top 67
noncomputable abbrev l9:Ke:=top 68
noncomputable abbrev pf:Ke:=top 69
noncomputable abbrev mJ:Ke:=top 70
noncomputable abbrev jS:Ke:=top 71
noncomputable abbrev sG:Ke:=top 72
noncomputable def cC (fr:List W->M W):La->M Fl:=(O9 (sIf (mB (m2 eqW (m2 ixW (NE 0) ⇑0) ⇑"number")) (O7 (mTl (M8 Nx))) O6) (O9 (sIf (mB (m2 eqW (m2 ixW (NE 0) ⇑0) ⇑"box")) (O7 (mTl (M8 (Np (m2 ixW (NE 0) ⇑1) Nx)))) O6) (O7 (m2 Lr (Nn (arW 1 fr) (Np (m2 ixW (NE 0) ⇑1) Nx)) (Nn (arW 1 fr) (Np (m2 ixW (NE 0) ⇑2) Nx))))))
noncomputable def aP:Nat->List W->M W
 |0=>λ_=>no
 |n+1=>OS 1 (cC (aP n))
noncomputable def iq:La->M Fl:=(O9 (sIf (Ny (mB (Nn (arW 1 kn) (Np (NE 0) Nx)))) O0 O6) (O7 (NE 0)))
noncomputable def bH:List W->M W:=OS 1 iq
noncomputable def eC:La->M Fl:=(O9 (sIf (Ny (mB (Nn (arW 1 oH) (Np (NE 0) Nx)))) O0 O6) (O7 (Nn Mu (Np (NE 0) Nx))))
noncomputable def eJ:List W->M W:=OS 1 eC
noncomputable def cZ:La->M Fl:=(O9 (Pa 1 (m2 ixW (NE 0) ⇑2)) (O9 (sIf (mOr (mB (m2 cy (NE 1) (mC (.tup ((["<", "="]:List Str).map W.str))))) (mB (m2 neW (m2 ixW (NE 0) ⇑5) ⇑"else"))) O0 O6) (O9 (Pa 2 (Nn (arW 1 hZ) (Np (m2 ixW (NE 0) ⇑1) Nx))) (O9 (Pa 3 (Nn (arW 1 hZ) (Np (m2 ixW (NE 0) ⇑3) Nx))) (O7 (ND (Np ⇑"if" (Np (NE 1) (Np (NE 2) (Np (NE 3) (Np (Nn (arW 1 bH) (Np (m2 ixW (NE 0) ⇑4) Nx)) (Np (Nn (arW 1 bH) (Np (m2 ixW (NE 0) ⇑6) Nx)) Nx))))))))))))
noncomputable def c9:List W->M W:=OS 4 cZ
noncomputable def iw:La->M Fl:=(O9 (Pa 1 (Nu isS PM (NE 0) (Np ⇑" " Nx))) (O9 (Pa 2 (m2 ixW (NE 1) ⇑0)) (O9 (Pa 3 (Nn Na (Np (NE 1) Nx))) (O9 (sIf (Nm (mB (m2 eqW (NE 2) ⇑"box")) (mB (m2 eqW (NE 3) ⇑3))) (O7 (ND (Np ⇑"box" (Np (Nn (arW 1 bH) (Np (m2 ixW (NE 1) ⇑1) Nx)) (Np (Nn (arW 1 eJ) (Np (m2 ixW (NE 1) ⇑2) Nx)) Nx))))) O6) (O9 (sIf (Nm (mB (m2 eqW (NE 2) ⇑"block")) (mB (m2 eqW (NE 3) ⇑2))) (O7 (ND (Np ⇑"block" (Np (Nn (arW 1 bH) (Np (m2 ixW (NE 1) ⇑1) Nx)) Nx)))) O6) (O9 (sIf (Nm (mB (m2 eqW (NE 2) ⇑"put")) (mB (m2 eqW (NE 3) ⇑3))) (O7 (ND (Np ⇑"put" (Np (Nn (arW 1 bH) (Np (m2 ixW (NE 1) ⇑1) Nx)) (Np (Nn (arW 1 hZ) (Np (m2 ixW (NE 1) ⇑2) Nx)) Nx))))) O6) (O9 (sIf (Nm (mB (m2 eqW (NE 2) ⇑"say")) (mB (m2 eqW (NE 3) ⇑2))) (O7 (ND (Np ⇑"say" (Np (Nn (arW 1 hZ) (Np (m2 ixW (NE 1) ⇑1) Nx)) Nx)))) O6) (O9 (sIf (Nm (mB (m2 eqW (NE 2) ⇑"ask")) (mB (m2 eqW (NE 3) ⇑2))) (O7 (ND (Np ⇑"ask" (Np (Nn (arW 1 bH) (Np (m2 ixW (NE 1) ⇑1) Nx)) Nx)))) O6) (O9 (sIf (Nm (mB (m2 eqW (NE 2) ⇑"go")) (mB (m2 eqW (NE 3) ⇑2))) (O7 (ND (Np ⇑"go" (Np (Nn (arW 1 bH) (Np (m2 ixW (NE 1) ⇑1) Nx)) Nx)))) O6) (O9 (sIf (Nm (mB (m2 eqW (NE 2) ⇑"if")) (mB (m2 eqW (NE 3) ⇑7))) (O7 (Nn (arW 1 c9) (Np (NE 1) Nx))) O6) (O9 (sIf (Nm (mB (m2 eqW (NE 2) ⇑"table")) (mB (aK leW leW ⇑3 (NE 3) (m2 Lr ⇑2 ⇑6)))) (O7 (ND (Np ⇑"table" (Np (Nn (arW 1 hZ) (Np (m2 ixW (NE 1) ⇑1) Nx)) (Np (Nn fU (Np (mTl (No [] (NB (m3 slW (NE 1) (Nz ⇑2) ai) PQ) (tgN 0) NF (Nn (arW 1 bH) (Np (NE 0) Nx)) 2)) Nx)) Nx))))) O6) (O9 (sIf (Nm (mB (m2 eqW (NE 2) ⇑"stop")) (mB (m2 eqW (NE 3) ⇑1))) (O7 (ND (Np ⇑"stop" Nx))) O6) O0))))))))))))
noncomputable def iB:List W->M W:=OS 4 iw
noncomputable def ak:La->M Fl:=(O9 (sIf (mB (m2 eqW (m2 ixW (NE 0) ⇑0) ⇑"put")) (O7 (mTl (LH (mTl (M8 (Np (m2 ixW (NE 0) ⇑1) Nx))) (Nn (arW 1 (aP 62)) (Np (m2 ixW (NE 0) ⇑2) Nx))))) O6) (O9 (sIf (mB (m2 eqW (m2 ixW (NE 0) ⇑0) ⇑"say")) (O7 (Nn (arW 1 (aP 62)) (Np (m2 ixW (NE 0) ⇑1) Nx))) O6) (O9 (sIf (mB (m2 eqW (m2 ixW (NE 0) ⇑0) ⇑"ask")) (O7 (mTl (M8 (Np (m2 ixW (NE 0) ⇑1) Nx)))) O6) (O9 (sIf (mB (m2 eqW (m2 ixW (NE 0) ⇑0) ⇑"if")) (O7 (m2 Lr (Nn (arW 1 (aP 62)) (Np (m2 ixW (NE 0) ⇑2) Nx)) (Nn (arW 1 (aP 62)) (Np (m2 ixW (NE 0) ⇑3) Nx)))) O6) (O9 (sIf (mB (m2 eqW (m2 ixW (NE 0) ⇑0) ⇑"table")) (O7 (Nn (arW 1 (aP 62)) (Np (m2 ixW (NE 0) ⇑1) Nx))) O6) (O7 (mTl (M8 Nx))))))))
noncomputable def aH:List W->M W:=OS 1 ak
noncomputable def gg:La->M Fl:=(O9 (sIf (mB (m2 cy (NE 0) (NE 1))) O0 O6) (O7 (Nu MB Pu (NE 1) (Np (NE 0) Nx))))
noncomputable def cQ:List W->M W:=OS 2 gg
noncomputable def aG:La->M Fl:=(O9 (sIf (mB (m2 eqW (m2 ixW (NE 0) ⇑0) ⇑"go")) (O7 (ND (Np ⇑"go" (Np (Nn (arW 2 cQ) (Np (m2 ixW (NE 0) ⇑1) (Np (NE 1) Nx))) Nx)))) O6) (O9 (sIf (mB (m2 eqW (m2 ixW (NE 0) ⇑0) ⇑"if")) (O7 (m2 Lr (m3 slW (NE 0) ai (Nz ⇑4)) (ND (Np (Nn (arW 2 cQ) (Np (m2 ixW (NE 0) ⇑4) (Np (NE 1) Nx))) (Np (Nn (arW 2 cQ) (Np (m2 ixW (NE 0) ⇑5) (Np (NE 1) Nx))) Nx))))) O6) (O9 (sIf (mB (m2 eqW (m2 ixW (NE 0) ⇑0) ⇑"table")) (O7 (ND (Np ⇑"table" (Np (m2 ixW (NE 0) ⇑1) (Np (Nn fU (Np (mTl (No [] (NB (m2 ixW (NE 0) ⇑2) PR) (tgN 0) NF (Nn (arW 2 cQ) (Np (NE 0) (Np (NE 3) Nx))) 2)) Nx)) Nx))))) O6) (O7 (NE 0)))))
noncomputable def bv:List W->M W:=OS 2 aG
noncomputable def ci:La->M Fl:=(O9 (O3 "Reading" "boxes" (NE 0) (Nv (M8 Nx))) (O9 (O3 "Reading" "block_names" (NE 0) (Nv (M8 Nx))) (O9 (O3 "Reading" "ended_blocks" (NE 0) (Nv (M8 Nx))) (O3 "Reading" "statements" (NE 0) (Nv (M8 Nx))))))
noncomputable def cj:List W->M W:=OS 1 ci
noncomputable def bZ:La->M Fl:=(O7 (m2 gtW (Nn Na (Np (m1 (Md "Reading" "block_names") (NE 0)) Nx)) (Nn Na (Np (m1 (Md "Reading" "ended_blocks") (NE 0)) Nx))))
noncomputable def bp:List W->M W:=OS 1 bZ
noncomputable def bR:La->M Fl:=(O7 (mTl (No [] (NB (m1 (Md "Reading" "boxes") (NE 0)) PQ) (tgT [0,1]) NF (NE 0) 3)))
noncomputable def bz:List W->M W:=OS 1 bR
noncomputable def az:La->M Fl:=(sIf (mB (m2 eqW (NE 1) ⇑"box")) (sIf (mB (m2 gtW (Nn Na (Np (m1 (Md "Reading" "block_names") (NE 0)) Nx)) ⇑0)) O0 O6) (sIf (mB (m2 eqW (NE 1) ⇑"block")) (sIf (mB (Nt "Reading" "in_block" 1 bp (NE 0) Nx)) O0 O6) (sIf (Ny (mB (Nt "Reading" "in_block" 1 bp (NE 0) Nx))) O0 O6)))
noncomputable def au:List W->M W:=OS 2 az
noncomputable def ay:La->M Fl:=(O9 (sIf (Nm (mB (m2 eqW (m2 ixW (NE 1) ⇑0) ⇑"box")) (mB (m2 inW (m2 ixW (NE 1) ⇑1) (Nt "Reading" "box_names" 1 bz (NE 0) Nx)))) O0 O6) (sIf (Nm (mB (m2 eqW (m2 ixW (NE 1) ⇑0) ⇑"block")) (mB (m2 inW (m2 ixW (NE 1) ⇑1) (m1 (Md "Reading" "block_names") (NE 0))))) O0 O6))
noncomputable def ar:List W->M W:=OS 2 ay
noncomputable def aB:La->M Fl:=(O9 (sIf (Nm (mB (m2 eqW (NE 1) ⇑"box")) (mB (m2 eqW (Nn Na (Np (m1 (Md "Reading" "boxes") (NE 0)) Nx)) ⇑4))) O0 O6) (O9 (sIf (Nm (mB (m2 eqW (NE 1) ⇑"block")) (mB (m2 eqW (Nn Na (Np (m1 (Md "Reading" "block_names") (NE 0)) Nx)) ⇑10))) O0 O6) (sIf (Nm (mB (m2 inW (NE 1) (mC (.tup ((["put", "say", "ask"]:List Str).map W.str))))) (mB (m2 eqW (Nn Na (Np (m1 (Md "Reading" "statements") (NE 0)) Nx)) ⇑8))) O0 O6)))
noncomputable def aw:List W->M W:=OS 2 aB
noncomputable def bJ:La->M Fl:=(O9 (Pa 2 (Nt "Reading" "box_names" 1 bz (NE 0) Nx)) (O4 (NB (Nn (arW 1 aH) (Np (NE 1) Nx)) PQ) (tgN 3) (sIf (mB (m2 cy (NE 3) (NE 2))) O0 O6)))
noncomputable def bh:List W->M W:=OS 4 bJ
noncomputable def ax:La->M Fl:=(sIf (mB (m2 eqW (m2 ixW (NE 1) ⇑0) ⇑"box")) (sEx (Nu isL aV (m1 (Md "Reading" "boxes") (NE 0)) (Np (ND (Np (m2 ixW (NE 1) ⇑1) (Np (m2 ixW (NE 1) ⇑2) Nx))) Nx))) (sIf (mB (m2 eqW (m2 ixW (NE 1) ⇑0) ⇑"block")) (O9 (sEx (Nu isL aV (m1 (Md "Reading" "block_names") (NE 0)) (Np (m2 ixW (NE 1) ⇑1) Nx))) (O3 "Reading" "statements" (NE 0) (Nv (M8 Nx)))) (sIf (mB (m2 inW (m2 ixW (NE 1) ⇑0) (mC (.tup ((["put", "say", "ask"]:List Str).map W.str))))) (sEx (Nu isL aV (m1 (Md "Reading" "statements") (NE 0)) (Np (NE 1) Nx))) (sEx (Nu isL aV (m1 (Md "Reading" "ended_blocks") (NE 0)) (Np (ND (Np (m2 ixW (m1 (Md "Reading" "block_names") (NE 0)) (m1 NQ ⇑1)) (Np (m1 Mr (m1 (Md "Reading" "statements") (NE 0))) (Np (NE 1) Nx)))) Nx))))))
noncomputable def aq:List W->M W:=OS 2 ax
noncomputable def c8:La->M Fl:=(O9 (sEx (Nt "Reading" "check_place" 2 au (NE 0) (Np (m2 ixW (NE 1) ⇑0) Nx))) (O9 (sEx (Nt "Reading" "check_twice" 2 ar (NE 0) (Np (NE 1) Nx))) (O9 (sEx (Nt "Reading" "check_room" 2 aw (NE 0) (Np (m2 ixW (NE 1) ⇑0) Nx))) (O9 (sEx (Nt "Reading" "check_boxes" 2 bh (NE 0) (Np (NE 1) Nx))) (sEx (Nt "Reading" "put_down" 2 aq (NE 0) (Np (NE 1) Nx)))))))
noncomputable def da:List W->M W:=OS 2 c8
noncomputable def bC:La->M Fl:=(O9 (sIf (mOr (mB (Nt "Reading" "in_block" 1 bp (NE 0) Nx)) (mB (m2 eqW (Nn Na (Np (m1 (Md "Reading" "block_names") (NE 0)) Nx)) ⇑0))) O0 O6) (O9 (Pa 1 (Nv (M8 Nx))) (O9 (O4 (NB (m1 (Md "Reading" "ended_blocks") (NE 0)) PQ) (tgT [2,3,4]) (sEx (Nu isL aV (NE 1) (Np (ND (Np (NE 2) (Np (NE 3) (Np (Nn (arW 2 bv) (Np (NE 4) (Np (m1 (Md "Reading" "block_names") (NE 0)) Nx))) Nx)))) Nx)))) (O7 (ND (Np (m1 Mr (m1 (Md "Reading" "boxes") (NE 0))) (Np (m1 Mr (NE 1)) Nx)))))))
noncomputable def bD:List W->M W:=OS 5 bC
noncomputable def oE:La->M Fl:=(O9 (Pa 1 (Nu isS PM (NE 0) (Np ⇑"\n" Nx))) (O9 (sIf (mB (m2 gtW (Nn Na (Np (NE 1) Nx)) ⇑120)) O0 O6) (O9 (Pa 2 (Nr "Reading" 1 cj Nx)) (O9 (O4 (NB (NE 1) PQ) (tgN 3) (sEx (Nt "Reading" "take" 2 da (NE 2) (Np (Nn (arW 1 iB) (Np (NE 3) Nx)) Nx)))) (O7 (Nt "Reading" "told_program" 1 bD (NE 2) Nx))))))
noncomputable def jN:List W->M W:=OS 4 oE
noncomputable def gf:La->M Fl:=(O9 (sIf (mB (m2 eqW (m2 ixW (NE 0) ⇑0) ⇑"go")) (O7 (ND (Np (m2 ixW (NE 0) ⇑1) Nx))) O6) (O9 (sIf (mB (m2 eqW (m2 ixW (NE 0) ⇑0) ⇑"if")) (O7 (ND (Np (m2 ixW (NE 0) ⇑4) (Np (m2 ixW (NE 0) ⇑5) Nx)))) O6) (O9 (sIf (mB (m2 eqW (m2 ixW (NE 0) ⇑0) ⇑"table")) (O7 (m2 ixW (NE 0) ⇑2)) O6) (O7 (ND Nx)))))
noncomputable def gv:List W->M W:=OS 1 gf
noncomputable def oC:La->M Fl:=(O9 (Pa 1 (Nv (M8 Nx))) (O9 (O4 (NC (Np (m2 ixW (NE 0) ⇑1) Nx) LY) (tgT [2,3]) (O4 (NC (Np (Nn (arW 1 gv) (Np (m2 ixW (NE 3) ⇑2) Nx)) Nx) LZ) (tgT [4,5]) (sEx (Nu isL aV (NE 1) (Np (ND (Np (NE 2) (Np (NE 4) (Np (NE 5) Nx)))) Nx))))) (O7 (m1 Mr (NE 1)))))
noncomputable def iU:List W->M W:=OS 6 oC
noncomputable def ka:La->M Fl:=(O9 (Pa 2 oq) (O9 (O4 (NC (Np (Nn (arW 1 iU) (Np (NE 0) Nx)) (Np (NE 1) Nx)) (PU false false)) (tgT [3,4]) (O9 (Pa 5 (m2 ixW (m2 ixW (m2 ixW (NE 0) ⇑1) (m2 ixW (NE 3) ⇑0)) ⇑2)) (sIf (mB (m2 neW (m2 ixW (NE 5) ⇑0) ⇑"table")) (O9 (Pa 6 (mKt (Np (m2 ixW (NE 3) ⇑0) (Np (m2 ixW (NE 3) ⇑2) Nx)))) (aM (NE 2) (NE 6) (m2 Lr (Nq (NE 2) (NE 6) ⇑0) (NE 4)))) O6))) (O7 (NE 2))))
noncomputable def iA:List W->M W:=OS 7 ka
noncomputable def dQ:La->M Fl:=(O9 (Pa 1 (mTl (M8 (Np (ND (Np ⇑0 Nx)) Nx)))) (O9 (O4 (NC (Np ⇑1 (Np (NE 0) Nx)) OP) (tgN 2) (Pa 1 (m2 Lr (NE 1) (mTl (No [] (NB (NE 1) PQ) (tgN 0) NF (m2 Lr (NE 0) (ND (Np (NE 4) Nx))) 2))))) (O7 (NE 1))))
noncomputable def dR:List W->M W:=OS 3 dQ
noncomputable def ip:La->M Fl:=(O7 (Nn fU (Np (mTl (No [] (NB (NE 0) PR) (tgN 0) (mB (m2 neW (NE 0) (NE 3))) (NE 0) 2)) Nx)))
noncomputable def fE:List W->M W:=OS 2 ip
noncomputable def j9:La->M Fl:=(O9 (Pa 1 (Nv (M8 (Np (mC (M0 true (0,[0]))) Nx)))) (O9 (O4 (NB (Nn (arW 1 dR) (Np (NE 0) Nx)) PQ) (tgN 2) (O4 (NB (m3 slW (NE 2) (Nz ⇑1) ai) PR) (tgN 3) (sEx (Nu isL aV (NE 1) (Np (ND (Np (NE 2) (Np (NE 3) Nx))) Nx))))) (O7 (m1 Mr (NE 1)))))
noncomputable def iz:List W->M W:=OS 4 j9
noncomputable def bV:La->M Fl:=(O9 (sIf (mB (m2 eqW (ND (Np (NE 0) (Np (NE 1) Nx))) (mC (M0 true (0,[0]))))) (O7 ⇑0) O6) (O9 (Pa 4 (Nn (arW 2 fE) (Np (NE 0) (Np (NE 1) Nx)))) (O9 (Pa 5 (mIf (mB (m2 eqW (NE 4) (ND (Np ⇑0 Nx)))) (NE 4) (m3 slW (NE 4) (Nz ⇑1) ai))) (O7 (Nn (L7 NH) (Np (mTl (No [] (NB (NE 5) PR) (tgN 0) NF (m2 Lr (m2 MI (NE 4) (ND (Np (NE 6) (Np (NE 0) Nx)))) (Nq (NE 5) (ND (Np (NE 0) (Np (NE 3) Nx))) ⇑0)) 2)) Nx))))))
noncomputable def bg:List W->M W:=OS 6 bV
noncomputable def j8:La->M Fl:=(O9 (Pa 2 (Nn (arW 2 iA) (Np (NE 0) (Np (NE 1) Nx)))) (O9 (Pa 3 (iR true)) (O9 (O4 (NB (Nn (arW 1 iz) (Np (Nn Na (Np (m2 ixW (NE 0) ⇑1) Nx)) Nx)) PQ) (tgT [4,5]) (dM (NE 3) (ND (Np (NE 4) (Np (NE 5) Nx))) (Nn (arW 4 bg) (Np (NE 4) (Np (NE 5) (Np (NE 3) (Np (NE 2) Nx))))))) (O7 (Nn PD (Np (mTl (No [] (NB (m1 Mr (NE 3)) PP) (tgT [0,1]) NF (m2 Lr (NE 0) (ND (Np (NE 1) Nx))) 3)) Nx))))))
noncomputable def jt:List W->M W:=OS 6 j8
noncomputable def gq:La->M Fl:=(O9 (Pa 3 (Nn (arW 1 iz) (Np (Nn Na (Np (m2 ixW (NE 0) ⇑1) Nx)) Nx))) (O9 (Pa 4 (iR true)) (O9 (O4 (NB (NE 2) PQ) (tgT [5,6,7]) (dM (NE 4) (ND (Np (NE 5) (Np (NE 6) Nx))) (NE 7))) (O9 (sIf (mOr (mB (m2 neW (Nn Na (Np (NE 2) Nx)) (Nn Na (Np (NE 3) Nx)))) (mB (Nn Lu (Np (mTl (No [] (NB (NE 3) PQ) (tgN 0) NF (m2 (Ms true) (NE 0) (NE 6)) 2)) Nx)))) (O7 (mC (.bl false))) O6) (O9 (Pa 8 (Nn (arW 2 iA) (Np (NE 0) (Np (NE 1) Nx)))) (O7 (Nn Ls (Np (mTl (No [] (NB (NE 3) PQ) (tgT [0,1]) NF (m2 geW (m2 MI (NE 7) (ND (Np (NE 0) (Np (NE 1) Nx)))) (Nn (arW 4 bg) (Np (NE 0) (Np (NE 1) (Np (NE 7) (Np (NE 11) Nx)))))) 3)) Nx))))))))
noncomputable def d5:List W->M W:=OS 9 gq
noncomputable def gu:La->M Fl:=(O9 (Pa 3 (Nn Qf (Np (Nn Na (Np (m2 ixW (NE 0) ⇑1) Nx)) Nx))) (O7 (m2 P0 (Nn P1 (Np (NE 1) Nx)) (Nn (L7 NH) (Np (mTl (No [] (NB (NE 2) PQ) (tgT [0,1,2]) (mB (m2 eqW (NE 0) (NE 7))) (NE 2) 4)) Nx)))))
noncomputable def d6:List W->M W:=OS 4 gu
noncomputable def dy:La->M Fl:=(O9 (sIf (mB (m2 ltW (NE 1) (Nn Na (Np (NE 0) Nx)))) (O7 (m2 ixW (NE 0) (NE 1))) O6) (O7 ⇑0))
noncomputable def bG:List W->M W:=OS 2 dy
noncomputable def dm:La->M Fl:=(O9 (Pa 2 (Nv (M8 Nx))) (O9 (Pa 3 (Nn Lp (Np (NE 0) Nx))) (O9 (O4 (NC (Np (NE 1) Nx) OO) (tgN 4) (sIf (mB (m2 geW (Nn Lp (Np (NE 0) Nx)) (m2 Oz ⇑10 ⇑18))) (O9 (sEx (Nu isL aV (NE 2) (Np (m2 NJ (NE 3) ⇑1009) Nx))) (Pa 3 (m2 L9 (NE 3) ⇑1009))) (O9 (Pa 5 (m2 NJ (m2 Lr (m2 NJ (NE 3) ⇑2147483629) (m2 NM (m2 NM ⇑7919 (m2 Lr (NE 4) ⇑1)) (m2 Lr (NE 4) ⇑3))) ⇑2147483629)) (O9 (Pa 5 (m2 Lr (m2 NJ (m2 NM (NE 5) (NE 5)) ⇑2147483587) (m2 L9 (NE 5) ⇑7))) (sEx (Nu isL aV (NE 2) (Np (m2 L9 (m2 NJ (m2 NM (NE 5) ⇑48271) ⇑2147483647) ⇑16) Nx))))))) (O7 (m1 Mr (NE 2))))))
noncomputable def bq:List W->M W:=OS 6 dm
noncomputable def eF:La->M Fl:=(O9 (Pa 1 (mTl (M8 (Np ⇑"a" (Np ⇑"b" (Np ⇑"c" (Np ⇑"d" (Np ⇑"e" (Np ⇑"f" (Np ⇑"g" (Np ⇑"h" (Np ⇑"i" (Np ⇑"j" Nx))))))))))))) (O9 (Pa 2 (mTl (M8 (Np ⇑"top" (Np ⇑"t" (Np ⇑"ab" (Np ⇑"a" (Np ⇑"zed" (Np ⇑"n" (Np ⇑"nn" (Np ⇑"out" (Np ⇑"mid" (Np ⇑"x" Nx))))))))))))) (O7 (m2 ixW (mTl (M8 (Np (NE 1) (Np (NE 2) (Np (NA (NE 1) (Nz (m1 NQ ⇑1))) (Np (NA (NE 2) (Nz (m1 NQ ⇑1))) Nx)))))) (m2 NJ (NE 0) ⇑4)))))
noncomputable def dC:List W->M W:=OS 3 eF
noncomputable def gh:La->M Fl:=(O9 (Pa 1 (m2 ixW (mTl (M8 (Np ⇑"n" (Np ⇑"nn" Nx)))) (m2 NJ (m2 ixW (NE 0) ⇑1) ⇑2))) (O9 (Pa 2 (Nn PZ (Np (m2 NJ (m2 ixW (NE 0) ⇑2) ⇑4) Nx))) (O9 (Pa 3 (mTl (M8 (Np (NE 2) (Np (NE 1) (Np (m2 Lr (m2 Lr (NE 1) ⇑"+") (NE 2)) (Np (m2 Lr (NE 1) ⇑"-1") (Np ⇑"nn-n" (Np (m2 Lr ⇑"n*" (NE 2)) (Np (m2 Lr (m2 Lr ⇑"2*(" (NE 1)) ⇑"+1)") (Np (m2 Lr ⇑"7-" (NE 1)) Nx))))))))))) (O7 (m2 ixW (NE 3) (m2 NJ (m2 ixW (NE 0) ⇑0) ⇑8))))))
noncomputable def cD:List W->M W:=OS 4 gh
noncomputable def cM:La->M Fl:=(O9 (Pa 1 (m2 NJ (m2 L9 (m2 ixW (NE 0) ⇑0) ⇑8) ⇑4)) (O9 (sIf (mB (m2 eqW (NE 1) ⇑0)) (O7 (m2 Lr ⇑"say " (Nn (arW 1 cD) (Np (NE 0) Nx)))) O6) (O9 (sIf (mB (m2 eqW (NE 1) ⇑1)) (O7 (m2 Lr ⇑"ask " (m2 ixW (mTl (M8 (Np ⇑"n" (Np ⇑"nn" Nx)))) (m2 NJ (m2 ixW (NE 0) ⇑2) ⇑2)))) O6) (O7 (m2 Lr (m2 Lr (m2 Lr ⇑"put " (m2 ixW (mTl (M8 (Np ⇑"n" (Np ⇑"nn" Nx)))) (m2 NJ (m2 L9 (m2 ixW (NE 0) ⇑2) ⇑4) ⇑2))) ⇑" ") (Nn (arW 1 cD) (Np (NE 0) Nx)))))))
noncomputable def bu:List W->M W:=OS 2 cM
noncomputable def iu:La->M Fl:=(O9 (Pa 2 (m2 ixW (NE 1) (m2 NJ (m2 ixW (NE 0) ⇑8) (Nn Na (Np (NE 1) Nx))))) (O9 (Pa 3 (m2 ixW (NE 1) (m2 NJ (m2 ixW (NE 0) ⇑9) (Nn Na (Np (NE 1) Nx))))) (O9 (Pa 4 (m2 NJ (m2 ixW (NE 0) ⇑7) ⇑8)) (O9 (sIf (mB (m2 ltW (NE 4) ⇑2)) (O7 (m2 Lr ⇑"go " (NE 2))) O6) (O9 (sIf (mB (m2 eqW (NE 4) ⇑5)) (O9 (Pa 5 (Nn (arW 1 cD) (Np (m3 slW (NE 0) (Nz ⇑9) (Nz ⇑12)) Nx))) (O7 (Nu isS MP ⇑" " (Np (mTl (LH (mTl (M8 (Np ⇑"table" (Np (NE 5) (Np (NE 2) (Np (NE 3) Nx)))))) (m3 slW (NE 1) ai (Nz (m2 NJ (m2 ixW (NE 0) ⇑10) ⇑3))))) Nx)))) O6) (O9 (sIf (mB (m2 eqW (NE 4) ⇑6)) (O7 ⇑"stop") O6) (O9 (Pa 6 (m2 ixW (mTl (M8 (Np ⇑" < " (Np ⇑" = " Nx)))) (m2 NJ (m2 L9 (m2 ixW (NE 0) ⇑10) ⇑8) ⇑2))) (O9 (Pa 7 (m2 Lr (Nn (arW 1 cD) (Np (m3 slW (NE 0) (Nz ⇑9) (Nz ⇑12)) Nx)) (NE 6))) (O9 (Pa 7 (m2 Lr (NE 7) (Nn (arW 1 cD) (Np (m2 Lr (m3 slW (NE 0) (Nz ⇑10) (Nz ⇑12)) (m3 slW (NE 0) ai (Nz ⇑1))) Nx)))) (O9 (sIf (mB (m2 eqW (NE 4) ⇑7)) (Pa 3 (NE 2)) O6) (O7 (m2 Lr (m2 Lr (m2 Lr (m2 Lr (m2 Lr ⇑"if " (NE 7)) ⇑" ") (NE 2)) ⇑" else ") (NE 3)))))))))))))
noncomputable def fJ:List W->M W:=OS 8 iu
noncomputable def gj:La->M Fl:=(O9 (Pa 2 (Nn (arW 2 bq) (Np (Nn (arW 2 bG) (Np (NE 0) (Np ⇑0 Nx))) (Np ⇑4 Nx)))) (O9 (Pa 3 (m3 slW (Nn (arW 1 dC) (Np (m2 ixW (NE 2) ⇑0) Nx)) ai (Nz (m2 Lr ⇑1 (m2 NJ (m2 ixW (NE 2) ⇑1) (NE 1)))))) (O9 (Pa 4 (Nv (M8 (Np (m2 Lr ⇑"box n " (Nn PZ (Np (m2 NJ (m2 ixW (NE 2) ⇑2) ⇑3) Nx))) (Np (m2 Lr ⇑"box nn " (Nn PZ (Np (m2 NJ (m2 ixW (NE 2) ⇑3) ⇑4) Nx))) Nx))))) (O9 (O4 (NC (Np (Nn Na (Np (NE 3) Nx)) Nx) OO) (tgN 5) (O9 (Pa 6 (Nn (arW 2 bq) (Np (Nn (arW 2 bG) (Np (NE 0) (Np (m2 Lr ⇑1 (NE 5)) Nx))) (Np ⇑12 Nx)))) (O9 (sEx (Nu isL aV (NE 4) (Np (m2 Lr ⇑"block " (m2 ixW (NE 3) (NE 5))) Nx))) (O9 (sIf (mB (m2 gtW (m2 NJ (m2 ixW (NE 6) ⇑0) ⇑3) ⇑0)) (sEx (Nu isL aV (NE 4) (Np (Nn (arW 1 bu) (Np (m3 slW (NE 6) (Nz ⇑1) (Nz ⇑4)) Nx)) Nx))) O6) (O9 (sIf (mB (m2 gtW (m2 NJ (m2 ixW (NE 6) ⇑0) ⇑3) ⇑1)) (sEx (Nu isL aV (NE 4) (Np (Nn (arW 1 bu) (Np (m3 slW (NE 6) (Nz ⇑4) (Nz ⇑7)) Nx)) Nx))) O6) (sEx (Nu isL aV (NE 4) (Np (Nn (arW 2 fJ) (Np (NE 6) (Np (NE 3) Nx))) Nx)))))))) (O7 (Nu isS MP ⇑"\n" (Np (NE 4) Nx)))))))
noncomputable def d2:List W->M W:=OS 7 gj
noncomputable def dP:La->M Fl:=(O9 (Pa 1 (mTl (M8 (Np (ND (Np ⇑0 Nx)) Nx)))) (O9 (O4 (NC (Np ⇑1 (Np (NE 0) Nx)) OP) (tgN 2) (O9 (Pa 3 (mTl (M8 Nx))) (O9 (O4 (NB (NE 1) PQ) (tgN 4) (Pa 3 (m2 Lr (NE 3) (mTl (No [] (NC (Np ⇑1 (Np (NE 0) Nx)) OP) (tgN 0) (mB (m2 cy (NE 0) (NE 6))) (m2 Lr (NE 6) (ND (Np (NE 0) Nx))) 2))))) (Pa 1 (NE 3))))) (O7 (NE 1))))
noncomputable def cF:List W->M W:=OS 5 dP
noncomputable def eG:La->M Fl:=(O9 (Pa 2 oq) (O9 (O4 (NC (Np (Nn (arW 1 iU) (Np (NE 0) Nx)) (Np (NE 1) Nx)) (PU false false)) (tgT [3,4]) (sIf (Nm (mB (m2 inW (m2 ixW (m2 ixW (m2 ixW (m2 ixW (NE 0) ⇑1) (m2 ixW (NE 3) ⇑0)) ⇑2) ⇑0) (mTl (M8 (Np ⇑"go" (Np ⇑"if" Nx)))))) (mB (m2 neW (m2 ixW (NE 3) ⇑0) (m2 ixW (NE 3) ⇑2)))) (aM (NE 2) (mKt (Np (m2 ixW (NE 3) ⇑0) (Np (m2 ixW (NE 3) ⇑2) Nx))) (m2 Lr (Nq (NE 2) (mKt (Np (m2 ixW (NE 3) ⇑0) (Np (m2 ixW (NE 3) ⇑2) Nx))) ⇑0) (NE 4))) O6)) (O7 (NE 2))))
noncomputable def dD:List W->M W:=OS 5 eG
noncomputable def gm:La->M Fl:=(O9 (Pa 3 ⇑0) (O9 (O4 (NC (Np ⇑1 (Np (Nn Na (Np (NE 2) Nx)) Nx)) OP) (tgN 4) (Pa 3 (m2 Lr (NE 3) (Nq (NE 1) (ND (Np (m2 ixW (NE 2) (m2 P0 (NE 4) ⇑1)) (Np (m2 ixW (NE 2) (NE 4)) Nx))) ⇑0)))) (O7 (m2 P0 (Nn P1 (Np (NE 0) Nx)) (NE 3)))))
noncomputable def d4:List W->M W:=OS 5 gm
noncomputable def du:La->M Fl:=(O9 (Pa 3 (Nn (arW 2 bq) (Np (Nn (arW 2 bG) (Np (NE 0) (Np (NE 1) Nx))) (Np ⇑12 Nx)))) (O9 (Pa 4 (Nv (M8 Nx))) (O9 (O4 (NC (Np (Nn Na (Np (NE 2) Nx)) Nx) OO) (tgN 5) (sEx (Nu isL aV (NE 4) (Np (m2 NJ (m2 L9 (m2 ixW (NE 3) (m2 NJ (NE 5) ⇑12)) (m2 Lr ⇑1 (m2 L9 (NE 5) ⇑12))) (m2 ixW (mTl (M8 (Np ⇑4 (Np ⇑40 (Np (m2 Oz ⇑10 ⇑6) Nx))))) (m2 NJ (m2 ixW (NE 3) (m2 NJ (m2 Lr (NE 5) ⇑5) ⇑12)) ⇑3))) Nx)))) (O7 (m1 Mr (NE 4))))))
noncomputable def cK:List W->M W:=OS 6 du
noncomputable def eD:La->M Fl:=(O9 (Pa 1 (Nv (M8 (Np (ND (Np (ND (Np ⇑0 Nx)) (Np ⇑0 Nx))) Nx)))) (O9 (O4 (NB (Nn (arW 1 cF) (Np (NE 0) Nx)) PQ) (tgN 2) (O4 (NC (Np ⇑1 (Np (NE 0) Nx)) OP) (tgN 3) (O9 (Pa 4 (ND (Np (Nn fU (Np (Nn kC (Np (m3 Px (NE 2) ai (Nz (m2 Lr (NE 3) ⇑1))) Nx)) Nx)) (Np (m2 ixW (NE 2) (NE 3)) Nx)))) (sIf (mB (m2 NS (NE 4) (NE 1))) (sEx (Nu isL aV (NE 1) (Np (NE 4) Nx))) O6)))) (O7 (m1 Mr (NE 1)))))
noncomputable def dA:List W->M W:=OS 5 eD
noncomputable def ir:La->M Fl:=(O9 (Pa 3 (iR true)) (O9 (O4 (NB (NE 0) PQ) (tgT [4,5,6]) (O9 (sIf (mOr (mB (m2 (Ms false) (ND (Np (NE 4) (Np (NE 5) Nx))) (NE 3))) (mB (m2 NS (ND (Np (NE 4) (Np (NE 5) Nx))) (NE 1)))) (O7 (mC (.bl false))) O6) (dM (NE 3) (ND (Np (NE 4) (Np (NE 5) Nx))) (NE 6)))) (O9 (sIf (mOr (mB (m2 neW (Nn M9 (Np (NE 3) Nx)) (Nn Na (Np (NE 1) Nx)))) (mB (m2 ltW (m2 MI (NE 3) (ND (Np (ND (Np ⇑0 Nx)) (Np ⇑0 Nx)))) ⇑0))) (O7 (mC (.bl false))) O6) (O9 (O4 (NB (NE 1) PQ) (tgT [4,5]) (O9 (Pa 7 (Nn fU (Np (mTl (No [] (NB (NE 4) PR) (tgN 0) (mB (m2 neW (NE 0) (NE 7))) (NE 0) 2)) Nx))) (O4 (NB (NE 7) PR) (tgN 8) (sIf (Nm (mB (m2 (Ms false) (ND (Np (NE 7) (Np (NE 8) Nx))) (NE 3))) (mB (m2 neW (NE 5) ⇑0))) (sIf (mB (m2 ltW (m2 MI (NE 3) (ND (Np (NE 4) (Np (NE 5) Nx)))) (m2 Lr (m2 MI (NE 3) (ND (Np (NE 7) (Np (NE 8) Nx)))) (Nq (NE 2) (ND (Np (NE 8) (Np (NE 5) Nx))) ⇑0)))) (O7 (mC (.bl false))) O6) O6)))) (O7 (mC (.bl true)))))))
noncomputable def fH:List W->M W:=OS 9 ir
noncomputable def eE:La->M Fl:=(O9 (Pa 2 (Nn (arW 2 bq) (Np (NE 1) (Np ⇑4 Nx)))) (O9 (Pa 3 (m2 NJ (m2 ixW (NE 2) ⇑0) (Nn Na (Np (NE 0) Nx)))) (O9 (Pc (tgT [4,5,6]) (m2 ixW (NE 0) (NE 3))) (O9 (Pa 7 (m2 NJ (m2 ixW (NE 2) ⇑1) ⇑7)) (O9 (sIf (mB (m2 eqW (NE 7) ⇑0)) (O7 (m2 Lr (m3 slW (NE 0) ai (Nz (NE 3))) (m3 slW (NE 0) (Nz (m2 Lr (NE 3) ⇑1)) ai))) O6) (O9 (sIf (mB (m2 eqW (NE 7) ⇑1)) (O7 (m2 Lr (NE 0) (mTl (M8 (Np (m2 ixW (NE 0) (NE 3)) Nx))))) O6) (O9 (sIf (mB (m2 eqW (NE 7) ⇑2)) (O7 (NA (NE 0) (Nz (m1 NQ ⇑1)))) O6) (O9 (sIf (mB (m2 eqW (NE 7) ⇑3)) (O7 (m2 Lr (m2 Lr (m3 slW (NE 0) ai (Nz (NE 3))) (mTl (M8 (Np (ND (Np (NE 4) (Np (NE 5) (Np (m2 P0 (NE 6) ⇑1) Nx)))) Nx)))) (m3 slW (NE 0) (Nz (m2 Lr (NE 3) ⇑1)) ai))) O6) (O9 (sIf (mB (m2 eqW (NE 7) ⇑4)) (O7 (m2 Lr (m2 Lr (m3 slW (NE 0) ai (Nz (NE 3))) (mTl (M8 (Np (ND (Np (NE 4) (Np (NE 5) (Np (m2 Lr (m2 Lr (NE 6) ⇑1) (m2 NJ (m2 ixW (NE 2) ⇑2) ⇑9)) Nx)))) Nx)))) (m3 slW (NE 0) (Nz (m2 Lr (NE 3) ⇑1)) ai))) O6) (O9 (sIf (mB (m2 eqW (NE 7) ⇑5)) (O9 (Pa 8 (m3 Px (NE 4) (Nz (Nn Na (Np (m3 Px (NE 4) (Nz ⇑1) (Nz ⇑2)) Nx))) ai)) (O7 (m2 Lr (m2 Lr (m3 slW (NE 0) ai (Nz (NE 3))) (mTl (M8 (Np (ND (Np (NE 4) (Np (m2 ixW (NE 8) (m2 NJ (m2 ixW (NE 2) ⇑2) (Nn Na (Np (NE 8) Nx)))) (Np (NE 6) Nx)))) Nx)))) (m3 slW (NE 0) (Nz (m2 Lr (NE 3) ⇑1)) ai)))) O6) (O7 (mTl (No [] (NB (NE 0) PQ) (tgT [0,1,2]) NF (ND (Np (NE 0) (Np (NE 1) (Np (m2 Lr (NE 2) (m2 NJ (m2 ixW (NE 6) ⇑2) ⇑5)) Nx)))) 4)))))))))))))
noncomputable def dB:List W->M W:=OS 9 eE
noncomputable def tV:La->M Fl:=(O9 (Pa 1 (Nn (arW 1 jN) (Np (Nn (arW 2 d2) (Np (NE 0) (Np ⇑5 Nx))) Nx))) (O9 (Pa 2 (Nn (arW 3 cK) (Np (NE 0) (Np ⇑8 (Np (Nn (arW 1 iU) (Np (NE 1) Nx)) Nx))))) (O9 (Pa 3 (Nn (arW 2 dD) (Np (NE 1) (Np (NE 2) Nx)))) (O9 (Pa 4 (Nn (arW 1 dA) (Np (Nn Na (Np (m2 ixW (NE 1) ⇑1) Nx)) Nx))) (O9 (Pa 5 (Nn (arW 2 jt) (Np (NE 1) (Np (NE 2) Nx)))) (O9 (Pa 6 (Nn (L7 NI) (Np (mTl (No [] (NB (Nn (arW 1 cF) (Np (Nn Na (Np (m2 ixW (NE 1) ⇑1) Nx)) Nx)) PQ) (tgN 0) NF (Nn (arW 3 d4) (Np (NE 4) (Np (NE 5) (Np (NE 0) Nx)))) 2)) Nx))) (O9 (Pa 7 (Nn Qf (Np (Nn Na (Np (m2 ixW (NE 1) ⇑1) Nx)) Nx))) (O9 (O4 (NB (mTl (LH (mTl (M8 (Np (NE 5) Nx))) (mTl (No [] (NB (m3 slW (NE 0) (Nz ⇑9) (Nz ⇑19)) PQ) (tgN 0) NF (Nn (arW 2 dB) (Np (NE 7) (Np (NE 0) Nx))) 2)))) PQ) (tgN 8) (O9 (Pa 9 (mTl (Nb (Np (NE 8) Nx)))) (O9 (Pa 10 (Nn (arW 3 fH) (Np (NE 8) (Np (NE 4) (Np (NE 3) Nx))))) (O9 (sIf (mOr (mB (m2 neW (Nn (arW 3 d5) (Np (NE 1) (Np (NE 2) (Np (NE 9) Nx)))) (NE 10))) (mB (m2 neW (NE 9) (NE 8)))) (O7 (mC (.bl false))) O6) (sIf (mB (NE 10)) (O9 (Pa 11 (m2 P0 (Nn P1 (Np (NE 2) Nx)) (Nn (L7 NH) (Np (mTl (No [] (NB (NE 8) PQ) (tgT [0,1,2]) (mB (m2 eqW (NE 0) (NE 11))) (NE 2) 4)) Nx)))) (sIf (mOr (mB (m2 neW (Nn (arW 3 d6) (Np (NE 1) (Np (NE 2) (Np (NE 9) Nx)))) (NE 11))) (mB (m2 gtW (NE 11) (NE 6)))) (O7 (mC (.bl false))) O6)) O6))))) (O7 (mC (.bl true)))))))))))
noncomputable def p5:List W->M W:=OS 12 tV
end Q
namespace Q
open PySem L2
local macro_rules | `(tactic| simp! only [$xs,*]) => do { let l ← ("Mb aC ba aZ aX bM bN O4 Nt al O3 Qh O7 Pa O6 sEx Pc aM mB L2.m2 L2.m1 L2.m3 NE mC Nn Np Nx ND mTl Nv M8 Nb Nz ai Nm mOr Ny mIf aK Nu isS NB NC PQ PR tgN tgT Po NF aA bd_no asB_bl addW_int subW_int ltW_int leW_int gtW_int geW_int eqW_int eqW_str neW_int neW_str neW_bl slW_tl slW_cl lenW_tl lenW_tup NQ List.set_cons_zero List.set_cons_succ List.getElem?_cons_zero HF FH G3 arW if_true if_false GE ite_true ite_false reduceIte decide_true decide_false Gv Hf gdn0 gdn1 gdn2 gdn3 gdn4 gdn6 gdn8 gdn10".splitOn " ").toArray.mapM λs => `(Lean.Parser.Tactic.simpLemma| $(Lean.mkIdent s.toName):term); let y : Lean.TSyntaxArray [`Lean.Parser.Tactic.simpStar, `Lean.Parser.Tactic.simpErase, `Lean.Parser.Tactic.simpLemma] := l.map (⟨·.raw⟩) ++ xs.getElems; `(tactic| try simp only [$[$y],*]) }
local macro_rules | `(tactic| simp! [$xs,*]) => `(tactic| simp! only [ae,$xs,*])
local macro_rules | `(tactic| simp!) => `(tactic| simp! only [aa])
section
theorem sz {n:Nat}(h:n<=100000):n<=sizeLine:=F6 h ↥_
theorem tj (l:List W):Nj (.tl l)=pr l:=rfl
theorem cL (l:List W):PQ (.tl l)=pr ⟨l,λ_=>True⟩:=rfl
theorem eY (l:List W):fU [.tl l]=pr (.tup l):=rfl
theorem dU (a b:List W)(h:a.length+b.length<=sizeLine):Lr (.tl a) (.tl b)=pr (.tl (a++b)):=by
 show gd (a.length+b.length<=sizeLine) (pr (W.tl (a++b)))=_;exact af h
theorem cp18:K3 10 18:=⟨↥_,↥_,↥_⟩
theorem tz (l:List W):Na [.cl l]=pr (.int l.length):=rfl
noncomputable def Pd:Nat->W->Prop
 |0,_=>False
 |n+1,w=>(∃i,w=.int i)\/(∃z,w=.str z/\KP.strOk z=true)\/ ∃l,(w=.tup l\/w=.tl l)/\l.length<=1000/\ ∀x∈l,Pd n x
theorem Pd.mono: ∀ {n:Nat}{w:W},Pd n w->Pd (n+1) w
 |n+1,w,p=>by
  rcases p with p|p|⟨l,e,z,p⟩
  ·exact .inl p
  ·exact .inr (.inl p)
  ·exact .inr (.inr ⟨l,e,z,λx hx=>(p x hx).mono⟩)
theorem Pd.up {n m:Nat}{w:W}(p:Pd n w)(h:n<=m):Pd m w:=by
 induction m with
 |zero=>
  have:n=0:=∅;subst this;exact p
 |succ m ih=>
  by_cases e:n=m+1
  ·subst e;exact p
  ·exact (ih ∅).mono
theorem Pd.int {n:Nat}{i:Int}:Pd (n+1) (.int i):=.inl ⟨i,rfl⟩
theorem Pd.str {n:Nat}{i:Str}(h:KP.strOk i=true):Pd (n+1) (.str i):=.inr (.inl ⟨i,rfl,h⟩)
theorem Pd.tup {n:Nat}(z:l.length<=1000)(p:∀x∈l,Pd n x):Pd (n+1) (.tup l):=.inr (.inr ⟨l,.inl rfl,z,p⟩)
theorem Pd.lst {n:Nat}(z:l.length<=1000)(p:∀x∈l,Pd n x):Pd (n+1) (.tl l):=.inr (.inr ⟨l,.inr rfl,z,p⟩)
theorem pd2i {a:Str}{i:Int}{n:Nat}(h:KP.strOk a=true):Pd (n+2) (.tup [.str a,.int i]):=.tup ⇑_ λx hx=>by
 rcases FC.mp hx with rfl|hx
 ·exact .str h
 ·rw[FZ.mp hx];exact .int
theorem pd2s {a b:Str}{n:Nat}(h:KP.strOk a=true)(h2:KP.strOk b=true):Pd (n+2) (.tup [.str a,.str b]):=.tup ⇑_ λx hx=>by
 rcases FC.mp hx with rfl|hx
 ·exact .str h
 ·rw[FZ.mp hx];exact .str h2
theorem pdT {n:Nat}(z:l.length<=1000)(h:∀x∈l,Pd n x):Pd (n+1) (.tup l):=.tup z h
theorem bf {n:Nat}{w:W}(h:Pd n w)(r:∀x∈l,Pd n x): ∀x∈w::l,Pd n x:=λx hx=>by
 rcases FC.mp hx with rfl|hx
 ·exact h
 ·exact r x hx
theorem gW {n:Nat}: ∀x∈([]:List W),Pd n x:=λx hx=>absurd hx Ga
theorem kU {n:Nat}: ∀ (l:List W),(∀x∈l,∃d,LR h n x=some d/\d.canLay0=true)-> ∃ds,Om (LR h n) l=some ds/\KP.canLayAll0 ds=true
 |[],_=>⟨[],rfl,by rw[KP.canLayAll0]⟩
 |x::l,q=>by
  obtain⟨d,e,c⟩:=q x FI;obtain⟨ds,es,cs⟩:=kU l λy hy=>q y (FV _ hy);refine⟨d::ds,?_,?_⟩
  ·simp only[Om,e,es]
  ·rw[KP.canLayAll0,c,cs];rfl
theorem Pd.data : ∀ {n:Nat}{w:W},Pd n w-> ∃d,LR h n w=some d/\d.canLay0=true
 |n+1,w,p=>by
  rcases p with⟨i,rfl⟩|⟨z,rfl,hz⟩|⟨l,e,_,p⟩
  ·exact⟨.int i,rfl,by rw[KP.canLay0]⟩
  ·exact⟨.str z,rfl,by rw[KP.canLay0];exact hz⟩
  ·obtain⟨ds,es,cs⟩:=kU (h:=h) l λx hx=>(p x hx).data;rcases e with rfl|rfl
   ·exact⟨.tuple ds,by show (Om (LR h n) l).map KP.tuple=_;rw[es];rfl,by rw[KP.canLay0];exact cs⟩
   ·exact⟨.list ds,by show (Om (LR h n) l).map KP.list=_;rw[es];rfl,by rw[KP.canLay0];exact cs⟩
theorem ym (p:∀x∈l,Pd 49 x):eqW (.tl l) (.tl l)=pr (.bl true):=rT λh=>by
 obtain⟨ds,es,cs⟩:=kU (h:=h) l λx hx=>(p x hx).data;rw[vg es es cs cs,eO ds cs]
inductive E17
 |go (t:Int)
 |iff (s:Str)(a b:W)(x y:Int)
 |table (e:W)(ts:List Int)
 |stop
noncomputable def E17.w:E17->W
 |.go t=>.tup [.str "go",.int t]
 |.iff s a b x y=>.tup [.str "if",.str s,a,b,.int x,.int y]
 |.table e ts=>.tup [.str "table",e,.tup (ts.map W.int)]
 |.stop=>.tup [.str "stop"]
noncomputable def E17.Good (m:Int):E17->Prop
 |.go t=>0<=t/\t<m
 |.iff s a b x y=>(0<=x/\x<m)/\(0<=y/\y<m)/\Pd 8 a/\Pd 8 b/\KP.strOk s=true
 |.table e ts=>ts.length<=6/\(∀t∈ts,0<=t/\t<m)/\Pd 8 e
 |.stop=>True
theorem Cc:KP.strOk "box"=true:=⋯
theorem uI:KP.strOk "number"=true:=⋯
end
section
open Wd
theorem sD:(" ":Str)=⟨#[32]⟩:=⋯
theorem xh:("\n":Str)=⟨#[10]⟩:=⋯
structure Cln (z:Str):Prop where
 sp:32 ∉ z.cps.toList
 nl:10 ∉ z.cps.toList
 len:z.length<=60
noncomputable def LJ (z:Str):Bool:=decide (32 ∉ z.cps.toList) && (decide (10 ∉ z.cps.toList) && decide (z.length<=60))
theorem Cln.of {z:Str}(h:LJ z=true):Cln z:=by
 unfold LJ at h;simp only[F7,decide_eq_true_eq] at h;exact⟨h.1,h.2.1,h.2.2⟩
theorem bS {z:Str}(h:aO z=true):Cln z:=by
 unfold aO at h;simp only[F7,decide_eq_true_eq,Gf] at h;have q: ∀c∈z.cps.toList,97<=c:=λc hc=>(ME.mp (h.2.1 c hc)).1;exact⟨λz=>absurd (q _ z) ↥_,λz=>absurd (q _ z) ↥_,∅⟩
theorem s9 {z:Str}(h:NT z=true):Cln z:=by
 unfold NT at h;simp only[F7,decide_eq_true_eq,Gf] at h;have q: ∀c∈z.cps.toList,48<=c:=λc hc=>(MA.mp (h.2.2 c hc)).1;exact⟨λz=>absurd (q _ z) ↥_,λz=>absurd (q _ z) ↥_,∅⟩
noncomputable def L3:Exp->List Str
 |.num _=>[]
 |.box x=>[x]
 |.bin _ l r=>L3 l++L3 r
noncomputable def L4:Exp->Bool
 |.num i=>decide (0<=i/\i<1000)
 |.box _=>true
 |.bin s l r=>decide (s∈(["+", "-", "*"]:List Str)) && (L4 l && L4 r)
noncomputable def L1:Exp->Nat
 |.num _=>0
 |.box _=>0
 |.bin _ l r=>1+max (L1 l) (L1 r)
structure Wrd (z:Str)(e:Exp):Prop where
 ex:L6 z=some e
 c:Cln z
 ok:L4 e=true
 dp:L1 e<=60
 nm:(L3 e).length<=60
theorem Pt:(decide (("+":Str)= "number")=false/\decide (("+":Str)= "box")=false)/\(decide (("-":Str)= "number")=false/\decide (("-":Str)= "box")=false)/\decide (("*":Str)= "number")=false/\decide (("*":Str)= "box")=false:=⋯
theorem Cd:decide (("box":Str)= "number")=false:=⋯
theorem Bq {s:Str}(h:s∈(["+", "-", "*"]:List Str)):decide (s= "number")=false/\decide (s= "box")=false:=by
 simp only[FC,Ga,or_false] at h;rcases h with rfl|rfl|rfl
 ·exact Pt.1
 ·exact Pt.2.1
 ·exact Pt.2.2
theorem kZ: ∀ (n:Nat) (e:Exp),L1 e<n->(L3 e).length<=1000->L4 e=true->aP n [L5 e]=pr (.tl ((L3 e).map W.str))
 |0,e,h,_,_=>absurd h (Nat.not_lt_zero _)
 |n+1,.num i,_,_,_=>by
  have e0:aP (n+1) [L5 (.num i)]=bd (cC (aP n) [some (.tup [.str "number",.int i])]) Mb:=rfl;rw[e0];unfold cC;simp! only[aa,ix0];rfl
 |n+1,.box x,_,_,_=>by
  have e0:aP (n+1) [L5 (.box x)]=bd (cC (aP n) [some (.tup [.str "box",.str x])]) Mb:=rfl;rw[e0];unfold cC;simp! only[aa,ix0,ix1,Cd];rfl
 |n+1,.bin s l r,h,z,k=>by
  have h:1+max (L1 l) (L1 r)<n+1:=h;have z:(L3 l++L3 r).length<=1000:=z;have k:(decide (s∈(["+", "-", "*"]:List Str)) && (L4 l && L4 r))=true:=k;rw[FE] at z;rw[F7,F7,decide_eq_true_eq] at k;have e0:aP (n+1) [L5 (.bin s l r)]=bd (cC (aP n) [some (.tup [.str s,L5 l,L5 r])]) Mb:=rfl;rw[e0];unfold cC;have h1:=kZ n l ∅ ∅ k.2.1;have h2:=kZ n r ∅ ∅ k.2.2;have sn:=Bq k.1;have ad:=dU ((L3 l).map W.str) ((L3 r).map W.str) (by rw[Fx,Fx];exact sz ∅);simp! only[aa,ix0,ix1,ix2,sn.1,sn.2,h1,h2,ad];show pr _=pr (W.tl ((L3 l++L3 r).map W.str));rw[Fz]
inductive Rr
 |box (nm v:Str)
 |block (nm:Str)
 |put (nm z:Str)(e:Exp)
 |say (z:Str)(e:Exp)
 |ask (nm:Str)
 |go (nm:Str)
 |iff (s z1:Str)(e1:Exp)(z2:Str)(e2:Exp)(x y:Str)
 |table (z:Str)(e:Exp)(xs:List Str)
 |stop
noncomputable def Rr.ws:Rr->List Str
 |.box nm v=>["box",nm,v]
 |.block nm=>["block",nm]
 |.put nm z _=>["put",nm,z]
 |.say z _=>["say",z]
 |.ask nm=>["ask",nm]
 |.go nm=>["go",nm]
 |.iff s z1 _ z2 _ x y=>["if",z1,s,z2,x, "else",y]
 |.table z _ xs=> "table"::z::xs
 |.stop=>["stop"]
noncomputable def Rr.tx (r:Rr):Str:=Str.join ⟨#[32]⟩ r.ws
noncomputable def Rr.form:Rr->W
 |.box nm v=>.tup [.str "box",.str nm,.int (df v)]
 |.block nm=>.tup [.str "block",.str nm]
 |.put nm _ e=>.tup [.str "put",.str nm,L5 e]
 |.say _ e=>.tup [.str "say",L5 e]
 |.ask nm=>.tup [.str "ask",.str nm]
 |.go nm=>.tup [.str "go",.str nm]
 |.iff s _ e1 _ e2 x y=>.tup [.str "if",.str s,L5 e1,L5 e2,.str x,.str y]
 |.table _ e xs=>.tup [.str "table",L5 e,.tup (xs.map W.str)]
 |.stop=>.tup [.str "stop"]
noncomputable def Rr.Ok:Rr->Prop
 |.box nm v=>aO nm=true/\NT v=true
 |.block nm=>aO nm=true
 |.put nm z e=>aO nm=true/\Wrd z e
 |.say z e=>Wrd z e
 |.ask nm=>aO nm=true
 |.go nm=>aO nm=true
 |.iff s z1 e1 z2 e2 x y=>(s= "<"\/s= "=")/\Wrd z1 e1/\Wrd z2 e2/\aO x=true/\aO y=true
 |.table z e xs=>Wrd z e/\xs≠ []/\xs.length<=6/\ ∀x∈xs,aO x=true
 |.stop=>True
theorem E3:Cln "box"/\Cln "block"/\Cln "put"/\Cln "say"/\Cln "ask"/\Cln "go"/\Cln "if"/\Cln "else"/\Cln "table"/\Cln "stop"/\Cln "<"/\Cln "=":=⟨.of ⋯,.of ⋯,.of ⋯,.of ⋯,.of ⋯,.of ⋯,.of ⋯,.of ⋯,.of ⋯,.of ⋯,.of ⋯,.of ⋯⟩
theorem eQ: ∀z∈([]:List Str),Cln z:=λz h=>absurd h Ga
theorem aE {z:Str}{l:List Str}(h:Cln z)(t:∀z∈l,Cln z): ∀y∈z::l,Cln y:=λy hy=>by
 rcases FC.mp hy with rfl|hy
 ·exact h
 ·exact t y hy
theorem Rr.Ok.cln {r:Rr}(g:r.Ok):(∀z∈r.ws,Cln z)/\r.ws≠ []/\r.ws.length<=8:=by
 obtain⟨k1,k2,k3,k4,k5,k6,k7,k8,k9,k10,k11,k12⟩:=E3;cases r with
 |box nm v=>exact⟨aE k1 (aE (bS g.1) (aE (s9 g.2) eQ)),by simp [ws],by simp [ws]⟩
 |block nm=>exact⟨aE k2 (aE (bS g) eQ),by simp [ws],by simp [ws]⟩
 |put nm z e=>exact⟨aE k3 (aE (bS g.1) (aE g.2.c eQ)),by simp [ws],by simp [ws]⟩
 |say z e=>exact⟨aE k4 (aE g.c eQ),by simp [ws],by simp [ws]⟩
 |ask nm=>exact⟨aE k5 (aE (bS g) eQ),by simp [ws],by simp [ws]⟩
 |go nm=>exact⟨aE k6 (aE (bS g) eQ),by simp [ws],by simp [ws]⟩
 |iff s z1 e1 z2 e2 x y=>
  have hs:Cln s:=by rcases g.1 with rfl|rfl;exact k11;exact k12
  exact⟨aE k7 (aE g.2.1.c (aE hs (aE g.2.2.1.c (aE (bS g.2.2.2.1) (aE k8 (aE (bS g.2.2.2.2) eQ)))))),by simp [ws],by simp [ws]⟩
 |table z e xs=>exact⟨aE k9 (aE g.1.c λx hx=>bS (g.2.2.2 x hx)),by simp [ws],by have:=g.2.2.1;simp [ws];omega⟩
 |stop=>exact⟨aE k10 eQ,by simp [ws],by simp [ws]⟩
theorem tJ {c:Nat}{n:Nat}: ∀ {l:List Str},(∀z∈l,z.length<=n)->(Str.join ⟨#[c]⟩ l).length<=(n+1) * l.length:=λ{l} h=>by
 refine F6 (StrLaws.join_length_le _ l) ?_;have:(l.map (·.length)).sum<=n * l.length:=by
  induction l with
  |nil=>simp
  |cons z l ih=>
   have a:=h z FI;have b:=ih λz hz=>h z (FV _ hz);rw[FK,Ho,FH,IK];omega
 rw[IL,show (⟨#[c]⟩:Str).length=1 from rfl,Nat.mul_one,Nat.one_mul];omega
theorem Rr.Ok.len {r:Rr}(g:r.Ok):r.tx.length<=600:=by
 have a:=tJ (c:=32) (n:=60) λz hz=>(g.cln.1 z hz).len;have b:=g.cln.2.2;unfold Rr.tx;omega
theorem y6 {r:Rr}(g:r.Ok):PM (.str r.tx) [.str " "]=pr (.tl (r.ws.map W.str)):=by
 rw[sD];exact o8 g.cln.2.1 (λz hz=>(g.cln.1 z hz).sp) (sz (by have:=g.len;unfold Rr.tx at this;omega)) (sz (by have:=g.cln.2.2;omega))
theorem Ar {l:List Str}(h:∀z∈l,10 ∉ z.cps.toList):10 ∉ (Str.join ⟨#[32]⟩ l).cps.toList:=by
 induction l with
 |nil=>exact λz=>by cases z
 |cons x l ih=>
  cases l with
  |nil=>exact h x FI
  |cons y l=>
   rw[ft,Gw,FC,not_or,not_or];exact⟨h x FI,↥_,ih λz hz=>h z (FV _ hz)⟩
theorem Rr.Ok.nl {r:Rr}(g:r.Ok):10 ∉ r.tx.cps.toList:=Ar λz hz=>(g.cln.1 z hz).nl
theorem u5 {z:Str}(h:aO z=true):kn [.str z]=pr (.bl true):=by
 show gd (z.length<=sizeLine) (pr (W.bl (aO z)))=_;rw[af (sz (by have:=(bS h).len;omega)),h]
theorem xX {z:Str}(h:NT z=true):oH [.str z]=pr (.bl true):=by
 show gd (z.length<=sizeLine) (pr (W.bl (NT z)))=_;rw[af (sz (by have:=(s9 h).len;omega)),h]
theorem ju {z:Str}(h:Wrd z e):hZ [.str z]=pr (L5 e):=by
 show gd (z.length<=sizeLine) (match L6 z with
  |some e=>pr (L5 e)
  |none=>no)=_
 rw[af (sz (by have:=h.c.len;omega)),h.ex]
theorem cz {z:Str}(h:aO z=true):bH [.str z]=pr (.str z):=by
 have e0:bH [.str z]=bd (iq [some (.str z)]) Mb:=rfl;rw[e0];unfold iq;simp! only[aa,u5 h]
theorem At {z:Str}(h:NT z=true):Mu [.str z]=pr (.int (df z)):=by
 have a:=pJ h
 show (match PySem.intText? z with
  |some n=>gd (z.length<=640) (pr (W.int n))
  |none=>no)=_
 rw[a.1];exact af a.2
theorem oj {z:Str}(h:NT z=true):eJ [.str z]=pr (.int (df z)):=by
 have e0:eJ [.str z]=bd (eC [some (.str z)]) Mb:=rfl;rw[e0];unfold eC;simp! only[aa,xX h,At h]
theorem tx0 (a:W)(l:List W):ixW (.tl (a::l)) (.int 0)=pr a:=bU (aQ ↥_ rfl)
theorem tx1 (a b:W)(l:List W):ixW (.tl (a::b::l)) (.int 1)=pr b:=bU (aQ ↥_ rfl)
theorem tx2 (a b c:W)(l:List W):ixW (.tl (a::b::c::l)) (.int 2)=pr c:=bU (aQ ↥_ rfl)
theorem tx3 (a b c d:W)(l:List W):ixW (.tl (a::b::c::d::l)) (.int 3)=pr d:=bU (aQ ↥_ rfl)
theorem tx4 (a b c d e:W)(l:List W):ixW (.tl (a::b::c::d::e::l)) (.int 4)=pr e:=bU (aQ ↥_ rfl)
theorem tx5 (a b c d e f:W)(l:List W):ixW (.tl (a::b::c::d::e::f::l)) (.int 5)=pr f:=bU (aQ ↥_ rfl)
theorem tx6 (a b c d e f g:W)(l:List W):ixW (.tl (a::b::c::d::e::f::g::l)) (.int 6)=pr g:=bU (aQ ↥_ rfl)
theorem tR {x:Str}{ss:List Str}:inB (.str x) (.tup (ss.map W.str)) h=some (decide (x∈ss)):=by
 show (match vOf (.str x),Qm (ss.map W.str) with
  |some v,some vs=>some (inV v vs)
  |_,_=>none)=_
 rw[dW (k:=V.str) (λa=>rfl)];show some (inV (.str x) (ss.map V.str))=_;rw[jq]
theorem jL {x:Str}{ss:List Str}:inW (.str x) (.tup (ss.map W.str))=pr (.bl (decide (x∈ss))):=by
 funext h;unfold inW;rw[tR];rfl
theorem uK {x:Str}{ss:List Str}:cy (.str x) (.tup (ss.map W.str))=pr (.bl (!decide (x∈ss))):=by
 funext h;unfold cy;rw[tR];rfl
theorem xg {s:Str}(h:s= "<"\/s= "="):cy (.str s) (.tup ((["<", "="]:List Str).map W.str))=pr (.bl false):=by
 rw[uK,decide_eq_true (by simpa using h)];rfl
theorem hds:(decide (("box":Str)= "block")=false/\decide (("box":Str)= "put")=false/\decide (("box":Str)= "say")=false/\decide (("box":Str)= "ask")=false/\decide (("box":Str)= "go")=false/\decide (("box":Str)= "if")=false/\decide (("box":Str)= "table")=false/\decide (("box":Str)= "stop")=false)/\(decide (("block":Str)= "box")=false/\decide (("block":Str)= "put")=false/\decide (("block":Str)= "say")=false/\decide (("block":Str)= "ask")=false/\decide (("block":Str)= "go")=false/\decide (("block":Str)= "if")=false/\decide (("block":Str)= "table")=false/\decide (("block":Str)= "stop")=false)/\(decide (("put":Str)= "box")=false/\decide (("put":Str)= "block")=false/\decide (("put":Str)= "say")=false/\decide (("put":Str)= "ask")=false/\decide (("put":Str)= "go")=false/\decide (("put":Str)= "if")=false/\decide (("put":Str)= "table")=false/\decide (("put":Str)= "stop")=false)/\(decide (("say":Str)= "box")=false/\decide (("say":Str)= "block")=false/\decide (("say":Str)= "put")=false/\decide (("say":Str)= "ask")=false/\decide (("say":Str)= "go")=false/\decide (("say":Str)= "if")=false/\decide (("say":Str)= "table")=false/\decide (("say":Str)= "stop")=false)/\(decide (("ask":Str)= "box")=false/\decide (("ask":Str)= "block")=false/\decide (("ask":Str)= "put")=false/\decide (("ask":Str)= "say")=false/\decide (("ask":Str)= "go")=false/\decide (("ask":Str)= "if")=false/\decide (("ask":Str)= "table")=false/\decide (("ask":Str)= "stop")=false)/\(decide (("go":Str)= "box")=false/\decide (("go":Str)= "block")=false/\decide (("go":Str)= "put")=false/\decide (("go":Str)= "say")=false/\decide (("go":Str)= "ask")=false/\decide (("go":Str)= "if")=false/\decide (("go":Str)= "table")=false/\decide (("go":Str)= "stop")=false)/\(decide (("if":Str)= "box")=false/\decide (("if":Str)= "block")=false/\decide (("if":Str)= "put")=false/\decide (("if":Str)= "say")=false/\decide (("if":Str)= "ask")=false/\decide (("if":Str)= "go")=false/\decide (("if":Str)= "table")=false/\decide (("if":Str)= "stop")=false)/\(decide (("table":Str)= "box")=false/\decide (("table":Str)= "block")=false/\decide (("table":Str)= "put")=false/\decide (("table":Str)= "say")=false/\decide (("table":Str)= "ask")=false/\decide (("table":Str)= "go")=false/\decide (("table":Str)= "if")=false/\decide (("table":Str)= "stop")=false)/\(decide (("stop":Str)= "box")=false/\decide (("stop":Str)= "block")=false/\decide (("stop":Str)= "put")=false/\decide (("stop":Str)= "say")=false/\decide (("stop":Str)= "ask")=false/\decide (("stop":Str)= "go")=false/\decide (("stop":Str)= "if")=false/\decide (("stop":Str)= "table")=false):=⟨⋯,⋯,⋯,⋯,⋯,⋯,⋯,⋯,⋯⟩
theorem jU:(decide (((0+1:Nat):Int)=1)=true/\decide (((0+1:Nat):Int)=2)=false/\decide (((0+1:Nat):Int)=3)=false)/\(decide (((0+1+1:Nat):Int)=2)=true/\decide (((0+1+1:Nat):Int)=3)=false)/\decide (((0+1+1+1:Nat):Int)=3)=true/\decide (((0+1+1+1+1+1+1+1:Nat):Int)=7)=true:=↥_
theorem AH {s z1 z2 x y:Str}(g:(Rr.iff s z1 e1 z2 e2 x y).Ok):c9 [.tl ((Rr.iff s z1 e1 z2 e2 x y).ws.map W.str)]=pr (Rr.iff s z1 e1 z2 e2 x y).form:=by
 obtain⟨g1,g2,g3,g4,g5⟩:=g;have e0:c9 [.tl ((Rr.iff s z1 e1 z2 e2 x y).ws.map W.str)]=bd (cZ [some (.tl [.str "if",.str z1,.str s,.str z2,.str x,.str "else",.str y]),none,none,none]) Mb:=rfl;rw[e0];unfold cZ;simp! only[aa,tx1,tx2,tx3,tx4,tx5,tx6,xg g1,ju g2,ju g3,cz g4,cz g5];rfl
theorem rn {xs:List Str}(h:∀x∈xs,aO x=true):LM (λ_=>True) (tgN 0) NF (Nn (arW 1 bH) (Np (NE 0) Nx)) 2 (xs.map W.str) ρ=pr (xs.map W.str):=by
 have:=qe (t:=tgN 0) (f:=NF) (e:=Nn (arW 1 bH) (Np (NE 0) Nx)) (n:=2) (ρ:=ρ) (b:=λ_=>true) (v:=id) (l:=xs.map W.str) λw hw=>by
  obtain⟨x,hx,rfl⟩:=FW.mp hw;refine⟨_,rfl,rfl,λ_=>?_⟩;simp! only[List.replicate,Gh,Gj,aa,cz (h x hx),id]
 rw[this,List.map_id,List.filter_eq_self.mpr λ_ _=>rfl]
theorem Ay {r:Rr}(g:r.Ok):iB [.str r.tx]=pr r.form:=by
 have e0:iB [.str r.tx]=bd (iw [some (.str r.tx),none,none,none]) Mb:=rfl;rw[e0];unfold iw;have sp:=y6 g;cases r with
 |box nm v=>
  generalize (Rr.box nm v).tx=T at *;simp! only[aa,sp,Rr.ws,FK,Ge,tx0,tx1,tx2,cz g.1,oj g.2,eq_self,decide_true,jU];rfl
 |block nm=>
  generalize (Rr.block nm).tx=T at *;simp! only[aa,sp,Rr.ws,FK,Ge,tx0,tx1,tx2,hds,cz g,eq_self,decide_true,jU];rfl
 |put nm z e=>
  generalize (Rr.put nm z e).tx=T at *;simp! only[aa,sp,Rr.ws,FK,Ge,tx0,tx1,tx2,hds,cz g.1,ju g.2,eq_self,decide_true,jU];rfl
 |say z e=>
  generalize (Rr.say z e).tx=T at *;simp! only[aa,sp,Rr.ws,FK,Ge,tx0,tx1,tx2,hds,ju g,eq_self,decide_true,jU];rfl
 |ask nm=>
  generalize (Rr.ask nm).tx=T at *;simp! only[aa,sp,Rr.ws,FK,Ge,tx0,tx1,tx2,hds,cz g,eq_self,decide_true,jU];rfl
 |go nm=>
  generalize (Rr.go nm).tx=T at *;simp! only[aa,sp,Rr.ws,FK,Ge,tx0,tx1,tx2,hds,cz g,eq_self,decide_true,jU];rfl
 |iff s z1 e1 z2 e2 x y=>
  have ce:=AH g;generalize (Rr.iff s z1 e1 z2 e2 x y).tx=T at *;generalize (Rr.iff s z1 e1 z2 e2 x y).form=F at *;simp only[Rr.ws,FK,Ge] at sp ce;simp! only[aa,sp,tx0,tx1,tx2,hds,eq_self,decide_true,jU,ce]
 |table z e xs=>
  obtain⟨g1,g2,g3,g4⟩:=g;generalize (Rr.table z e xs).tx=T at *;simp only[Rr.ws,FK] at sp;have cu:LP (W.str "table"::W.str z::xs.map W.str) (some 2) none=xs.map W.str:=by
   unfold LP;show List.take _ (xs.map W.str)=_;rw[Ir];show _<=(xs.map W.str).length+1+1 - 2;omega
  have l0:0<xs.length:=HS.mpr g2;have gl: ∀ {α:Type} (q:M α),gd ((xs.map W.str).length<=sizeLine) q=q:=λq=>af (by rw[Fx];exact sz ∅);have c1:decide ((3:Int)<=(((xs.map W.str).length+1+1:Nat):Int))=true:=decide_eq_true (by rw[Fx];omega);have c2:decide ((((xs.map W.str).length+1+1:Nat):Int)<=2+6)=true:=decide_eq_true (by rw[Fx];omega);have nc: ∀ρ,_:=λρ=>rn (ρ:=ρ) g4;simp! only[aa,sp,tx0,tx1,hds,eq_self,decide_true,c1,c2,ju g1,cu,al,cL,gl,nc,eY];rfl
 |stop=>
  generalize Rr.stop.tx=T at *;simp! only[aa,sp,Rr.ws,FK,Ge,tx0,hds,eq_self,decide_true,jU];rfl
end
section
open Wd
noncomputable def Me:List Str:=["boxes", "block_names", "ended_blocks", "statements"]
theorem fne:(((("block_names":Str)= "boxes")=False)/\((("ended_blocks":Str)= "boxes")=False)/\((("statements":Str)= "boxes")=False)/\((("ended_blocks":Str)= "block_names")=False)/\((("statements":Str)= "block_names")=False)/\((("statements":Str)= "ended_blocks")=False))/\(((("boxes":Str)= "statements")=False)/\((("block_names":Str)= "statements")=False)/\((("ended_blocks":Str)= "statements")=False))/\((("boxes":Str)= "block_names")=False)/\((("boxes":Str)= "ended_blocks")=False)/\((("block_names":Str)= "ended_blocks")=False):=
 ⟨⟨eq_false ⋯,eq_false ⋯,eq_false ⋯,eq_false ⋯,eq_false ⋯,eq_false ⋯⟩,⟨eq_false ⋯,eq_false ⋯,eq_false ⋯⟩,eq_false ⋯,eq_false ⋯,eq_false ⋯⟩
theorem Ai (a b c d:W):Nc Me [a,b,c,d] "boxes"=some a:=by simp only[Me,Nc,if_true]
theorem pT (a b c d:W):Nc Me [a,b,c,d] "block_names"=some b:=by simp only[Me,Nc,fne,if_true,if_false]
theorem C8 (a b c d:W):Nc Me [a,b,c,d] "ended_blocks"=some c:=by simp only[Me,Nc,fne,if_true,if_false]
theorem C7 (a b c d:W):Nc Me [a,b,c,d] "statements"=some d:=by simp only[Me,Nc,fne,if_true,if_false]
theorem Ff (a b c d y:W):putN Me [a,b,c,d] "statements" y=(Me,[a,b,c,y]):=by simp only[Me,putN,fne,if_true,if_false]
theorem NK:("in_block":Str) ∉ Me/\("box_names":Str) ∉ Me/\("check_place":Str) ∉ Me/\("check_twice":Str) ∉ Me/\("check_room":Str) ∉ Me/\("check_boxes":Str) ∉ Me/\("put_down":Str) ∉ Me/\("take":Str) ∉ Me/\("told_program":Str) ∉ Me:=⋯
structure RS where
 bx:List (Str×Int)
 nm:List Str
 dn:List (Str×List W×Rr)
 st:List W
noncomputable def bqW (b:Str×Int):W:=.tup [.str b.1,.int b.2]
noncomputable def dnW (b:Str×List W×Rr):W:=.tup [.str b.1,.tl b.2.1,b.2.2.form]
structure Li (h:List Ob)(o jb jn je js:Nat)(s:RS):Prop where
 ob:h[o]?=some (.ins "Reading" Me [.loc jb,.loc jn,.loc je,.loc js])
 b:h[jb]?=some (.lst (s.bx.map bqW))
 n:h[jn]?=some (.lst (s.nm.map W.str))
 e:h[je]?=some (.lst (s.dn.map dnW))
 st:s.dn.length<s.nm.length->h[js]?=some (.lst s.st)
 ne:o<jb/\jb<jn/\jn<je/\je<js
 z:s.bx.length<=4/\s.nm.length<=10/\s.dn.length<=s.nm.length/\s.st.length<=8/\s.nm.length<=s.dn.length+1
section
variable {h:List Ob}{o jb jn je js:Nat}{s:RS}
theorem lC (A:Li h o jb jn je js s):Ok (bp [.loc o]) h λw h'=>w=.bl (decide (s.dn.length<s.nm.length))/\h'=h:=by
 have e0:bp [.loc o]=bd (bZ [some (.loc o)]) Mb:=rfl;rw[e0];unfold bZ;simp!;refine cq A.ob (pT ..) ?_;simp!;refine (Lw.len (.inr ⟨jn,rfl,A.n⟩)) ?_;simp!;refine cq A.ob (C8 ..) ?_;simp!;refine (Lw.len (.inr ⟨je,rfl,A.e⟩)) ?_;simp!;refine ae ⟨?_,rfl⟩;rw[Fx,Fx];congr 1;rw[decide_eq_decide];omega
theorem nr (A:Li h o jb jn je js s):Ok (bz [.loc o]) h λw h'=>w=.tl ((s.bx.map (·.1)).map W.str)/\h'=h:=by
 have e0:bz [.loc o]=bd (bR [some (.loc o)]) Mb:=rfl;rw[e0];unfold bR;simp!;refine cq A.ob (Ai ..) ?_;refine rj A.b ?_;have gl: ∀ {α:Type} (q:M α),gd ((s.bx.map bqW).length<=sizeLine) q=q:=λq=>af (by rw[Fx];exact sz (by have:=A.z.1;omega));simp! only[aa,gl];refine dj (I:=λi a h'=>h'=h/\a=((s.bx.take i).map (·.1)).map W.str) ⟨rfl,rfl⟩ eS (λ_ _ _ I=>by rw[I.1];exact A.b) (λi w a h' hw I=>?_) λa h' I=>?_
 ·obtain⟨rfl,rfl⟩:=I;rw[FG] at hw;obtain⟨b,hb,rfl⟩:=FQ.mp hw;refine⟨_,rfl,?_⟩;simp! only[List.replicate,Gh,Gj,aa];refine ae ⟨rfl,?_⟩;rw[GP,hb,Fz,Fz];rfl
 ·obtain⟨rfl,rfl⟩:=I;rw[Fx,FS];simp!;exact ae ⟨rfl,rfl⟩
theorem BH (A:Li h o jb jn je js s)(p:s.nm=[]):Ok (au [.loc o,.str "box"]) h λ_ h'=>h'=h:=by
 have e0:au [.loc o,.str "box"]=bd (az [some (.loc o),some (.str "box")]) Mb:=rfl;rw[e0];unfold az;simp!;refine cq A.ob (pT ..) ?_;simp!;refine (Lw.len (.inr ⟨jn,rfl,A.n⟩)) ?_;have:decide ((0:Int)<(((s.nm.map W.str).length:Nat):Int))=false:=by rw[p];rfl
 simp! only[aa,this];exact ae rfl
theorem wA (A:Li h o jb jn je js s)(p:s.dn.length=s.nm.length):Ok (au [.loc o,.str "block"]) h λ_ h'=>h'=h:=by
 have e0:au [.loc o,.str "block"]=bd (az [some (.loc o),some (.str "block")]) Mb:=rfl;rw[e0];unfold az;simp! only[aa,hds];refine dH A.ob NK.1 ?_;simp!;refine aI (lC A) λw h' qq_=>?_;obtain⟨ew,eh⟩:=qq_;subst ew eh;simp! only[aa,decide_eq_false (show¬s.dn.length<s.nm.length by omega)];exact ae rfl
theorem D4 {z:Str}(A:Li h o jb jn je js s)(n1:decide (z= "box")=false)(n2:decide (z= "block")=false)(p:s.dn.length<s.nm.length):Ok (au [.loc o,.str z]) h λ_ h'=>h'=h:=by
 have e0:au [.loc o,.str z]=bd (az [some (.loc o),some (.str z)]) Mb:=rfl;rw[e0];unfold az;simp! only[aa,n1,n2];refine dH A.ob NK.1 ?_;simp!;refine aI (lC A) λw h' qq_=>?_;obtain⟨ew,eh⟩:=qq_;subst ew eh;simp! only[aa,decide_eq_true p];exact ae rfl
theorem Bc {nm:Str}{w:W}(A:Li h o jb jn je js s)(p:nm ∉ s.bx.map (·.1)):Ok (ar [.loc o,.tup [.str "box",.str nm,w]]) h λ_ h'=>h'=h:=by
 have e0:ar [.loc o,.tup [.str "box",.str nm,w]]=bd (ay [some (.loc o),some (.tup [.str "box",.str nm,w])]) Mb:=rfl;rw[e0];unfold ay;simp! only[aa,ix0,ix1];refine dH A.ob NK.2.1 ?_;simp!;refine aI (nr A) λw h' qq_=>?_;obtain⟨ew,eh⟩:=qq_;subst ew eh;simp! only[aa,tQ,decide_eq_false p,hds];exact ae rfl
theorem vL {nm:Str}(A:Li h o jb jn je js s)(p:nm ∉ s.nm):Ok (ar [.loc o,.tup [.str "block",.str nm]]) h λ_ h'=>h'=h:=by
 have e0:ar [.loc o,.tup [.str "block",.str nm]]=bd (ay [some (.loc o),some (.tup [.str "block",.str nm])]) Mb:=rfl;rw[e0];unfold ay;simp! only[aa,ix0,ix1,hds];refine cq A.ob (pT ..) ?_;simp!;refine Ej A.n ?_;simp! only[aa,decide_eq_false p];exact ae rfl
theorem DL {z:Str}(n1:decide (z= "box")=false)(n2:decide (z= "block")=false):Ok (ar [.loc o,.tup (.str z::l)]) h λ_ h'=>h'=h:=by
 have e0:ar [.loc o,.tup (.str z::l)]=bd (ay [some (.loc o),some (.tup (.str z::l))]) Mb:=rfl;rw[e0];unfold ay;simp! only[aa,ix0,n1,n2];exact ae rfl
theorem PX:decide (("box":Str)∈(["put", "say", "ask"]:List Str))=false/\decide (("block":Str)∈(["put", "say", "ask"]:List Str))=false:=⋯
theorem BB (A:Li h o jb jn je js s)(p:s.bx.length<4):Ok (aw [.loc o,.str "box"]) h λ_ h'=>h'=h:=by
 have e0:aw [.loc o,.str "box"]=bd (aB [some (.loc o),some (.str "box")]) Mb:=rfl;rw[e0];unfold aB;simp!;refine cq A.ob (Ai ..) ?_;simp!;refine (Lw.len (.inr ⟨jb,rfl,A.b⟩)) ?_;have:decide ((((s.bx.map bqW).length:Nat):Int)=4)=false:=decide_eq_false (by rw[Fx];omega);simp! only[aa,this,hds,jL,PX.1];exact ae rfl
theorem wj (A:Li h o jb jn je js s)(p:s.nm.length<10):Ok (aw [.loc o,.str "block"]) h λ_ h'=>h'=h:=by
 have e0:aw [.loc o,.str "block"]=bd (aB [some (.loc o),some (.str "block")]) Mb:=rfl;rw[e0];unfold aB;simp! only[aa,hds];refine cq A.ob (pT ..) ?_;simp!;refine (Lw.len (.inr ⟨jn,rfl,A.n⟩)) ?_;have:decide ((((s.nm.map W.str).length:Nat):Int)=10)=false:=decide_eq_false (by rw[Fx];omega);simp! only[aa,this,hds,jL,PX.2];exact ae rfl
theorem D0 {z:Str}(A:Li h o jb jn je js s)(n1:decide (z= "box")=false)(n2:decide (z= "block")=false)(p:s.dn.length<s.nm.length)(q:z∈(["put", "say", "ask"]:List Str)->s.st.length<8):Ok (aw [.loc o,.str z]) h λ_ h'=>h'=h:=by
 have e0:aw [.loc o,.str z]=bd (aB [some (.loc o),some (.str z)]) Mb:=rfl;rw[e0];unfold aB;by_cases c:z∈(["put", "say", "ask"]:List Str)
 ·simp! only[aa,n1,n2,jL,decide_eq_true c];refine cq A.ob (C7 ..) ?_;simp!;refine (Lw.len (.inr ⟨js,rfl,A.st p⟩)) ?_;have q:=q c;have:decide (((s.st.length:Nat):Int)=8)=false:=decide_eq_false ∅;simp! only[aa,this];exact ae rfl
 ·simp! only[aa,n1,n2,jL,decide_eq_false c];exact ae rfl
noncomputable def Rr.bxs:Rr->List Str
 |.put nm _ e=>nm::L3 e
 |.say _ e=>L3 e
 |.ask nm=>[nm]
 |.iff _ _ e1 _ e2 _ _=>L3 e1++L3 e2
 |.table _ e _=>L3 e
 |_=>[]
theorem jf {z:Str}(h:Wrd z e):aP 62 [L5 e]=pr (.tl ((L3 e).map W.str)):=kZ 62 e (by have:=h.dp;omega) (by have:=h.nm;omega) h.ok
theorem xn {r:Rr}(g:r.Ok):aH [r.form]=pr (.tl (r.bxs.map W.str)):=by
 cases r with
 |box nm v=>
  have e0:aH [(Rr.box nm v).form]=bd (ak [some (.tup [.str "box",.str nm,.int (df v)])]) Mb:=rfl;rw[e0];unfold ak;simp! only[aa,ix0,hds];rfl
 |block nm=>
  have e0:aH [(Rr.block nm).form]=bd (ak [some (.tup [.str "block",.str nm])]) Mb:=rfl;rw[e0];unfold ak;simp! only[aa,ix0,hds];rfl
 |put nm z e=>
  have e0:aH [(Rr.put nm z e).form]=bd (ak [some (.tup [.str "put",.str nm,L5 e])]) Mb:=rfl;rw[e0];unfold ak;have gl: ∀ {α:Type} (q:M α),gd (0+1+((L3 e).map W.str).length<=sizeLine) q=q:=λq=>af (by rw[Fx];exact sz (by have:=g.2.nm;omega));simp! only[aa,ix0,ix1,ix2,hds,jf g.2,LH,tj,gl];rfl
 |say z e=>
  have e0:aH [(Rr.say z e).form]=bd (ak [some (.tup [.str "say",L5 e])]) Mb:=rfl;rw[e0];unfold ak;simp! only[aa,ix0,ix1,hds,jf g];rfl
 |ask nm=>
  have e0:aH [(Rr.ask nm).form]=bd (ak [some (.tup [.str "ask",.str nm])]) Mb:=rfl;rw[e0];unfold ak;simp! only[aa,ix0,ix1,hds];rfl
 |go nm=>
  have e0:aH [(Rr.go nm).form]=bd (ak [some (.tup [.str "go",.str nm])]) Mb:=rfl;rw[e0];unfold ak;simp! only[aa,ix0,ix1,hds];rfl
 |iff s z1 e1 z2 e2 x y=>
  have e0:aH [(Rr.iff s z1 e1 z2 e2 x y).form]=bd (ak [some (.tup [.str "if",.str s,L5 e1,L5 e2,.str x,.str y])]) Mb:=rfl;rw[e0];unfold ak;have ad:=dU ((L3 e1).map W.str) ((L3 e2).map W.str) (by rw[Fx,Fx];exact sz (by have:=g.2.1.nm;have:=g.2.2.1.nm;omega));simp! only[aa,ix0,ix2,ix3,hds,jf g.2.1,jf g.2.2.1,ad];show pr _=pr (W.tl ((L3 e1++L3 e2).map W.str));rw[Fz]
 |table z e xs=>
  have e0:aH [(Rr.table z e xs).form]=bd (ak [some (.tup [.str "table",L5 e,.tup (xs.map W.str)])]) Mb:=rfl;rw[e0];unfold ak;simp! only[aa,ix0,ix1,hds,jf g.1];rfl
 |stop=>
  have e0:aH [(Rr.stop).form]=bd (ak [some (.tup [.str "stop"])]) Mb:=rfl;rw[e0];unfold ak;simp! only[aa,ix0,hds];rfl
theorem yB {r:Rr}(g:r.Ok)(A:Li h o jb jn je js s)(p:∀x∈r.bxs,x∈s.bx.map (·.1)):Ok (bh [.loc o,r.form]) h λ_ h'=>h'=h:=by
 have e0:bh [.loc o,r.form]=bd (bJ [some (.loc o),some r.form,none,none]) Mb:=rfl;rw[e0];unfold bJ;have ne:=xn g;generalize r.form=F at *;simp!;refine dH A.ob NK.2.1 ?_;simp!;refine aI (nr A) λw h' qq_=>?_;obtain⟨ew,eh⟩:=qq_;subst ew eh;simp! only[aa,ne,cL];refine cp (I:=λi ρ h1=>h1=h'/\ ∃a,ρ=[some (.loc o),some F,some (.tl ((s.bx.map (·.1)).map W.str)),a]) ⟨rfl,_,rfl⟩ (λ_ _ _ _=>trivial) (λi w ρ h1 hw I=>?_) λρ h1 I=>?_
 ·obtain⟨rfl,a,rfl⟩:=I;rw[FG] at hw;obtain⟨x,hx,rfl⟩:=FQ.mp hw;refine⟨_,rfl,?_⟩;simp! only[aa,rk,decide_eq_true (p x (F9 hx))];exact ae ⟨_,rfl,rfl,_,rfl⟩
 ·obtain⟨rfl,a,rfl⟩:=I;simp!;exact ae rfl
end
end
section
open Wd
noncomputable def Rr.stm:Rr->Bool
 |.put _ _ _=>true
 |.say _ _=>true
 |.ask _=>true
 |_=>false
noncomputable def Rr.end':Rr->Bool
 |.go _=>true
 |.iff _ _ _ _ _ _ _=>true
 |.table _ _ _=>true
 |.stop=>true
 |_=>false
noncomputable def RS.step (s:RS)(r:Rr):RS:=match r with
 |.box nm v=>{s with bx:=s.bx++[(nm,df v)]}
 |.block nm=>{s with nm:=s.nm++[nm],st:=[]}
 |.put nm z e=>{s with st:=s.st++[(Rr.put nm z e).form]}
 |.say z e=>{s with st:=s.st++[(Rr.say z e).form]}
 |.ask nm=>{s with st:=s.st++[(Rr.ask nm).form]}
 |r=>{s with dn:=s.dn++[(s.nm.getLastD "",s.st,r)]}
theorem o5 {s:RS}{r:Rr}(h:r.stm=true):s.step r={s with st:=s.st++[r.form]}:=by
 cases r<;>first|rfl|cases h
theorem o7 {s:RS}{r:Rr}(h:r.end'=true):s.step r={s with dn:=s.dn++[(s.nm.getLastD "",s.st,r)]}:=by
 cases r<;>first|rfl|cases h
structure Lg (s:RS)(r:Rr):Prop where
 i:s.dn.length<s.nm.length
 c:r.stm=true->s.st.length<8
 b: ∀x∈r.bxs,x∈s.bx.map (·.1)
noncomputable def Pre (s:RS)(r:Rr):Prop:=match r with
 |.box nm _=>s.nm=[]/\nm ∉ s.bx.map (·.1)/\s.bx.length<4
 |.block nm=>s.dn.length=s.nm.length/\nm ∉ s.nm/\s.nm.length<10
 |r=>Lg s r
theorem BF (p:Pre s r)(h:r.stm=true\/r.end'=true):Lg s r:=by
 cases r<;>first|exact p|(rcases h with h|h<;>cases h)
structure Fo (o:Nat)(h h':List Ob):Prop where
 eq: ∀i,i<o->h'[i]?=h[i]?
 le:h.length<=h'.length
theorem Fo.trans {o:Nat}(x:Fo o a b)(y:Fo o b c):Fo o a c:=⟨λi hi=>(y.eq i hi).trans (x.eq i hi),F6 x.le y.le⟩
theorem Fo.set {o j:Nat}(hj:o<=j):Fo o h (h.set j b):=⟨λi hi=>by rw[FR ∅],by rw[Go];exact Fy _⟩
noncomputable def Rr.hd:Rr->Str
 |.box _ _=> "box"
 |.block _=> "block"
 |.put _ _ _=> "put"
 |.say _ _=> "say"
 |.ask _=> "ask"
 |.go _=> "go"
 |.iff _ _ _ _ _ _ _=> "if"
 |.table _ _ _=> "table"
 |.stop=> "stop"
theorem kh (r:Rr): ∃l,r.form=.tup (.str r.hd::l):=by cases r<;>exact⟨_,rfl⟩
theorem yd {r:Rr}(h:r.stm=true\/r.end'=true):decide (r.hd= "box")=false/\decide (r.hd= "block")=false:=by
 cases r<;>first|(rcases h with h|h<;>cases h;done)|(unfold Rr.hd;simp only[hds];exact⟨trivial,trivial⟩)|(unfold Rr.hd;simp only[hds,and_self])
theorem PY:("put":Str)∈(["put", "say", "ask"]:List Str)/\("say":Str)∈(["put", "say", "ask"]:List Str)/\("ask":Str)∈(["put", "say", "ask"]:List Str):=⋯
theorem LX:("go":Str) ∉ (["put", "say", "ask"]:List Str)/\("if":Str) ∉ (["put", "say", "ask"]:List Str)/\("table":Str) ∉ (["put", "say", "ask"]:List Str)/\("stop":Str) ∉ (["put", "say", "ask"]:List Str):=⋯
theorem Dj {r:Rr}(h:r.stm=true):r.hd∈(["put", "say", "ask"]:List Str):=by
 cases r<;>first|exact absurd h FU|exact PY.1|exact PY.2.1|exact PY.2.2
theorem ye {r:Rr}(h:r.end'=true):r.hd ∉ (["put", "say", "ask"]:List Str):=by
 cases r<;>first|exact absurd h FU|exact LX.1|exact LX.2.1|exact LX.2.2.1|exact LX.2.2.2
section
variable {h:List Ob}{o jb jn je js:Nat}{s:RS}
theorem BQ {nm v:Str}(A:Li h o jb jn je js s)(p:Pre s (.box nm v)):Ok (aq [.loc o,(Rr.box nm v).form]) h λ_ h'=>Li h' o jb jn je js (s.step (.box nm v))/\Fo o h h':=by
 have e0:aq [.loc o,(Rr.box nm v).form]=bd (ax [some (.loc o),some (.tup [.str "box",.str nm,.int (df v)])]) Mb:=rfl;rw[e0];unfold ax;obtain⟨n1,n2,n3,n4⟩:=A.ne;have p:s.nm=[]/\nm ∉ s.bx.map (·.1)/\s.bx.length<4:=p;simp! only[aa,ix0];refine cq A.ob (Ai ..) ?_;refine cn A.b ?_;simp! only[aa,ix1,ix2];refine dI A.b (by rw[Fx];exact Gm (show _<=10 by omega) ↥_) ?_;simp!;refine ae ⟨⟨?_,?_,?_,?_,?_,A.ne,?_⟩,Fo.set ∅⟩
 ·rw[FR ∅];exact A.ob
 ·rw[cU A.b];show _=some (Ob.lst ((s.bx++[(nm,df v)]).map bqW));rw[Fz];rfl
 ·rw[FR ∅];exact A.n
 ·rw[FR ∅];exact A.e
 ·intro q;rw[FR ∅];exact A.st q
 ·obtain⟨z1,z2,z3,z4,z5⟩:=A.z;refine⟨?_,z2,z3,z4,z5⟩;show (s.bx++[_]).length<=4;rw[FE,Gc];omega
theorem wO {nm:Str}(A:Li h o jb jn je js s)(p:Pre s (.block nm)):Ok (aq [.loc o,(Rr.block nm).form]) h λ_ h'=>(∃js',Li h' o jb jn je js' (s.step (.block nm)))/\Fo o h h':=by
 have e0:aq [.loc o,(Rr.block nm).form]=bd (ax [some (.loc o),some (.tup [.str "block",.str nm])]) Mb:=rfl;rw[e0];unfold ax;obtain⟨n1,n2,n3,n4⟩:=A.ne;have p:s.dn.length=s.nm.length/\nm ∉ s.nm/\s.nm.length<10:=p;simp! only[aa,ix0,hds];refine cq A.ob (pT ..) ?_;refine cn A.n ?_;simp! only[aa,ix1];refine dI A.n (by rw[Fx];exact Gm (show _<=10 by omega) ↥_) ?_;simp!;refine f7 ?_;simp!;have le:=dg A.e;have lo:=dg A.ob;have ln:=dg A.n;have eo:(h.set jn (.lst (s.nm.map W.str++[.str nm]))++[.lst []])[o]?=some (.ins "Reading" Me [.loc jb,.loc jn,.loc je,.loc js]):=by
  rw[Gr (by rw[Go];exact lo),FR ∅];exact A.ob
 refine w9 eo (by show 4<1000;decide) (Ff ..) ?_;simp!;have hl:(h.set jn (.lst (s.nm.map W.str++[.str nm]))).length=h.length:=Go ..;refine ae ⟨⟨h.length,⟨?_,?_,?_,?_,?_,?_,?_⟩⟩,⟨λi hi=>?_,?_⟩⟩
 ·rw[cU eo,hl]
 ·rw[FR ∅,Gr (by rw[hl];exact dg A.b),FR ∅];exact A.b
 ·rw[FR ∅,Gr (by rw[hl];exact ln),cU A.n];show _=some (Ob.lst ((s.nm++[nm]).map W.str));rw[Fz];rfl
 ·rw[FR ∅,Gr (by rw[hl];exact le),FR ∅];exact A.e
 ·intro _;rw[FR ∅];have:=ga (h:=h.set jn (.lst (s.nm.map W.str++[.str nm]))) (a:=.lst []);rw[hl] at this;exact this
 ·exact⟨n1,n2,n3,le⟩
 ·obtain⟨z1,z2,z3,z4,z5⟩:=A.z;refine⟨z1,?_,?_,FY _,?_⟩
  ·show (s.nm++[nm]).length<=10;rw[FE,Gc];omega
  ·show s.dn.length<=(s.nm++[nm]).length;rw[FE,Gc];omega
  ·show (s.nm++[nm]).length<=s.dn.length+1;rw[FE,Gc];omega
 ·rw[FR ∅,Gr (by rw[hl];omega),FR ∅]
 ·rw[Go,FE,hl];omega
theorem BO (q:r.stm=true)(A:Li h o jb jn je js s)(p:Lg s r):Ok (aq [.loc o,r.form]) h λ_ h'=>Li h' o jb jn je js (s.step r)/\Fo o h h':=by
 rw[o5 q];have nh:=yd (r:=r) (.inl q);have st:=Dj q;obtain⟨l,e⟩:=kh r;rw[e];have e0:aq [.loc o,.tup (.str r.hd::l)]=bd (ax [some (.loc o),some (.tup (.str r.hd::l))]) Mb:=rfl;rw[e0];unfold ax;obtain⟨n1,n2,n3,n4⟩:=A.ne;have pr':=p.c q;simp! only[aa,ix0,nh.1,nh.2,jL,decide_eq_true st];refine cq A.ob (C7 ..) ?_;refine cn (A.st p.i) ?_;simp!;refine dI (A.st p.i) (Gm (show _<=10 by omega) ↥_) ?_;simp!;refine ae ⟨⟨?_,?_,?_,?_,?_,A.ne,?_⟩,Fo.set ∅⟩
 ·rw[FR ∅];exact A.ob
 ·rw[FR ∅];exact A.b
 ·rw[FR ∅];exact A.n
 ·rw[FR ∅];exact A.e
 ·intro _;rw[cU (A.st p.i)]
 ·obtain⟨z1,z2,z3,z4,z5⟩:=A.z;refine⟨z1,z2,z3,?_,z5⟩;show (s.st++[_]).length<=8;rw[FE,Gc];omega
theorem rQ {l:List Str}(h:l≠ []):atI (l.map W.str) (-1)=some (.str (l.getLastD "")):=by
 have e:l=l.dropLast++[l.getLast h]:=(List.dropLast_concat_getLast h).symm;have g:l.getLastD ""=l.getLast h:=by
  cases l with
  |nil=>exact absurd rfl h
  |cons a l=>rw[List.getLastD_cons,List.getLast_eq_getLastD]
 rw[g]
 conv=>lhs;rw[e,Fz]
 exact yO _ _
theorem BP (q:r.end'=true)(A:Li h o jb jn je js s)(p:Lg s r):Ok (aq [.loc o,r.form]) h λ_ h'=>Li h' o jb jn je js (s.step r)/\Fo o h h':=by
 rw[o7 q];have nh:=yd (r:=r) (.inr q);have st:=ye q;obtain⟨l,e⟩:=kh r;have ie: ∀x,W.tup [.str x,.tl s.st,.tup (.str r.hd::l)]=dnW (x,s.st,r):=λx=>by unfold dnW;rw[<-e]
 rw[e];have e0:aq [.loc o,.tup (.str r.hd::l)]=bd (ax [some (.loc o),some (.tup (.str r.hd::l))]) Mb:=rfl;rw[e0];unfold ax;obtain⟨n1,n2,n3,n4⟩:=A.ne;obtain⟨z1,z2,z3,z4,z5⟩:=A.z;have pi:=p.i;have nn:s.nm≠ []:=λz=>by rw[z] at pi;simp at pi
 simp! only[aa,ix0,nh.1,nh.2,jL,decide_eq_false st];refine cq A.ob (C8 ..) ?_;refine cn A.e ?_;simp!;refine cq A.ob (pT ..) ?_;simp!;refine AX A.n (rQ nn) ?_;simp!;refine cq A.ob (C7 ..) ?_;refine gY (A.st pi) ?_;have e2:(h.set js .gone)[je]?=some (.lst (s.dn.map dnW)):=by rw[FR ∅];exact A.e
 simp!;refine dI e2 (by rw[Fx];exact Gm (show _<=10 by omega) ↥_) ?_;simp!;refine ae ⟨⟨?_,?_,?_,?_,?_,A.ne,?_⟩,(Fo.set ∅).trans (Fo.set ∅)⟩
 ·rw[FR ∅,FR ∅];exact A.ob
 ·rw[FR ∅,FR ∅];exact A.b
 ·rw[FR ∅,FR ∅];exact A.n
 ·rw[cU e2,ie];show _=some (Ob.lst ((s.dn++[_]).map dnW));rw[Fz];rfl
 ·intro q;have q:(s.dn++[_]).length<s.nm.length:=q;rw[FE,Gc] at q;omega
 ·refine⟨z1,z2,?_,z4,?_⟩
  ·show (s.dn++[_]).length<=s.nm.length;rw[FE,Gc];omega
  ·show s.nm.length<=(s.dn++[_]).length+1;rw[FE,Gc];omega
theorem EL (r:Rr):(∃nm v,r=.box nm v)\/(∃nm,r=.block nm)\/r.stm=true\/r.end'=true:=by
 cases r<;>first|exact .inl ⟨_,_,rfl⟩|exact .inr (.inl ⟨_,rfl⟩)|exact .inr (.inr (.inl rfl))|exact .inr (.inr (.inr rfl))
theorem yW (g:r.Ok)(A:Li h o jb jn je js s)(p:Pre s r):Ok (da [.loc o,r.form]) h λw h'=>w=.non/\(∃js',Li h' o jb jn je js' (s.step r))/\Fo o h h':=by
 have e0:da [.loc o,r.form]=bd (c8 [some (.loc o),some r.form]) Mb:=rfl;rw[e0];unfold c8;obtain⟨m1,m2,m3,m4,m5,m6,m7,m8,m9⟩:=NK;have st:Ok (au [.loc o,.str r.hd]) h (λ_ h'=>h'=h)/\Ok (ar [.loc o,r.form]) h (λ_ h'=>h'=h)/\Ok (aw [.loc o,.str r.hd]) h (λ_ h'=>h'=h)/\Ok (bh [.loc o,r.form]) h (λ_ h'=>h'=h)/\Ok (aq [.loc o,r.form]) h λ_ h'=>(∃js',Li h' o jb jn je js' (s.step r))/\Fo o h h':=by
  rcases EL r with⟨nm,v,rfl⟩|⟨nm,rfl⟩|q
  ·have p':s.nm=[]/\nm ∉ s.bx.map (·.1)/\s.bx.length<4:=p;exact⟨BH A p'.1,Bc A p'.2.1,BB A p'.2.2,yB g A (λx hx=>absurd hx Ga),(BQ A p).imp λ_ _ ⟨a,b⟩=>⟨⟨_,a⟩,b⟩⟩
  ·have p':s.dn.length=s.nm.length/\nm ∉ s.nm/\s.nm.length<10:=p;exact⟨wA A p'.1,vL A p'.2.1,wj A p'.2.2,yB g A (λx hx=>absurd hx Ga),wO A p⟩
  ·have pi:=BF p q;have nh:=yd q;obtain⟨l,e⟩:=kh r;refine⟨D4 A nh.1 nh.2 pi.i,by rw[e];exact DL nh.1 nh.2,D0 A nh.1 nh.2 pi.i λhm=>?_,yB g A pi.b,?_⟩
   ·rcases q with q|q
    ·exact pi.c q
    ·exact absurd hm (ye q)
   ·rcases q with q|q
    ·exact (BO q A pi).imp λ_ _ ⟨a,b⟩=>⟨⟨_,a⟩,b⟩
    ·exact (BP q A pi).imp λ_ _ ⟨a,b⟩=>⟨⟨_,a⟩,b⟩
 obtain⟨s1,s2,s3,s4,s5⟩:=st;have ih:ixW r.form (.int 0)=pr (.str r.hd):=by obtain⟨l,e⟩:=kh r;rw[e];exact ix0 ..
 generalize r.form=F at *;simp!;refine dH A.ob m3 ?_;simp! only[aa,ih];refine aI s1 λ_ h1 eh=>?_;subst eh;simp!;refine dH A.ob m4 ?_;simp!;refine aI s2 λ_ h1 eh=>?_;subst eh;simp!;refine dH A.ob m5 ?_;simp! only[aa,ih];refine aI s3 λ_ h1 eh=>?_;subst eh;simp!;refine dH A.ob m6 ?_;simp!;refine aI s4 λ_ h1 eh=>?_;subst eh;simp!;refine dH A.ob m7 ?_;simp!;refine aI s5 λ_ h1 q=>?_;simp!;exact ae ⟨rfl,q⟩
end
end
section
open Wd
noncomputable def MJ (l:List Str)(x:Str):Nat:=(l.findIdx? (λm=>decide (m=x))).getD 0
theorem mX {l:List Str}{x:Str}(h:x∈l):l.findIdx? (λm=>decide (m=x))=some (MJ l x)/\MJ l x<l.length:=by
 unfold MJ;cases e:l.findIdx? (λm=>decide (m=x)) with
 |none=>
  rw[List.findIdx?_eq_none_iff] at e;have:=e x h;simp at this
 |some i=>
  refine⟨rfl,?_⟩;rw[Je] at e;exact e.1
noncomputable def Rr.en (l:List Str):Rr->E17
 |.go nm=>.go (MJ l nm:Nat)
 |.iff s _ e1 _ e2 x y=>.iff s (L5 e1) (L5 e2) (MJ l x:Nat) (MJ l y:Nat)
 |.table _ e xs=>.table (L5 e) (xs.map λx=>((MJ l x:Nat):Int))
 |_=>.stop
noncomputable def Rr.tos:Rr->List Str
 |.go nm=>[nm]
 |.iff _ _ _ _ _ x y=>[x,y]
 |.table _ _ xs=>xs
 |_=>[]
section
variable {h:List Ob}{jn:Nat}{ss:List Str}
theorem xa {β:Type}{Q:β->List Ob->Prop}{j:Nat}{x:Str}{ss:List Str}{k:W->M β}(e:h[j]?=some (.lst (ss.map W.str)))(q:Ok (k (.bl (!decide (x∈ss)))) h Q):Ok (bd (cy (.str x) (.loc j)) k) h Q:=by
 refine aR (a:=.bl (!decide (x∈ss))) (h':=h) ?_ q;unfold cy;have d:LS (.loc j) h=none:=by unfold LS;simp only[e]
 have lo:Nk (.loc j) h=.ok (ss.map W.str) h:=by unfold Nk;simp only[e]
 have e:inB (.str x) (.loc j) h=some (decide (x∈ss)):=by
  unfold inB;simp only[d,lo,dW (g:=W.str) (k:=V.str) (λa=>rfl) ss];show some (inV (.str x) (ss.map V.str))=_;rw[jq]
 rw[e]
theorem lh {j:Nat}(e:h[j]?=some (.lst l)):Nj (.loc j) h=.ok l h:=by
 unfold Nj;simp only[e]
theorem ja {x:Str}(e:h[jn]?=some (.lst (ss.map W.str)))(m:x∈ss):Ok (cQ [.str x,.loc jn]) h λw h'=>w=.int (MJ ss x:Nat)/\h'=h:=by
 have e0:cQ [.str x,.loc jn]=bd (gg [some (.str x),some (.loc jn)]) Mb:=rfl;rw[e0];unfold gg;simp!;refine xa e ?_;simp! only[aa,decide_eq_true m,MB];refine aR (lh e) ?_;simp! only[aa,Pu];refine aR (lh e) ?_;have o:Om sOf (ss.map W.str)=some ss:=jc (f:=sOf) (g:=W.str) (λa=>rfl) ss;rw[o];dsimp only;rw[(mX m).1];simp!;exact ae ⟨rfl,rfl⟩
theorem sl64 (a b c d e f:W):slW (.tup [a,b,c,d,e,f]) none (some 4)=pr (.tup [a,b,c,d]):=by
 show gd (¬(HT.sIx 6 0 none=0/\HT.sIx 6 6 (some 4)=6)) (pr (W.tup (LP [a,b,c,d,e,f] none (some 4))))=_;rw[af ↥_];rfl
theorem DH (a b c d e f:W):Lr (.tup [a,b,c,d]) (.tup [e,f])=pr (.tup [a,b,c,d,e,f]):=by
 show gd _ (pr (W.tup ([a,b,c,d]++[e,f])))=_;rw[af ⟨rfl,sz (by show 4+2<=_;omega)⟩];rfl
theorem AA {r:Rr}(q:r.end'=true)(e:h[jn]?=some (.lst (ss.map W.str)))(g:r.Ok)(m:∀x∈r.tos,x∈ss):Ok (bv [r.form,.loc jn]) h λw h'=>w=(r.en ss).w/\h'=h:=by
 cases r with
 |go nm=>
  have e0:bv [(Rr.go nm).form,.loc jn]=bd (aG [some (.tup [.str "go",.str nm]),some (.loc jn)]) Mb:=rfl;rw[e0];unfold aG;simp! only[aa,ix0,ix1,hds];refine aI (ja e (m nm FI)) λw h' qq_=>?_;obtain⟨ew,eh⟩:=qq_;subst ew eh;simp!;exact ae ⟨rfl,rfl⟩
 |iff s z1 e1 z2 e2 x y=>
  have e0:bv [(Rr.iff s z1 e1 z2 e2 x y).form,.loc jn]=bd (aG [some (.tup [.str "if",.str s,L5 e1,L5 e2,.str x,.str y]),some (.loc jn)]) Mb:=rfl;rw[e0];unfold aG;simp! only[aa,ix0,ix4,ix5,hds,sl64];refine aI (ja e (m x FI)) λw h' qq_=>?_;obtain⟨ew,eh⟩:=qq_;subst ew eh;simp! only[aa,ix5];refine aI (ja e (m y (FV _ FI))) λw h' qq_=>?_;obtain⟨ew,eh⟩:=qq_;subst ew eh;simp! only[aa,DH];exact ae ⟨rfl,rfl⟩
 |table z e1 xs=>
  have e0:bv [(Rr.table z e1 xs).form,.loc jn]=bd (aG [some (.tup [.str "table",L5 e1,.tup (xs.map W.str)]),some (.loc jn)]) Mb:=rfl;rw[e0];unfold aG;have gl: ∀ {α:Type} (q:M α),gd ((xs.map W.str).length<=sizeLine) q=q:=λq=>af (by rw[Fx];exact sz (by have:=g.2.2.1;omega));simp! only[aa,ix0,ix1,ix2,hds,gl];refine dj (I:=λi a h'=>h'=h/\a=((xs.take i).map λx=>((MJ ss x:Nat):Int)).map W.int) ⟨rfl,rfl⟩ eS (λ_ _ _ _=>trivial) (λi w a h' hw I=>?_) λa h' I=>?_
  ·obtain⟨rfl,rfl⟩:=I;rw[FG] at hw;obtain⟨x,hx,rfl⟩:=FQ.mp hw;refine⟨_,rfl,?_⟩;simp! only[List.replicate,Gh,Gj,aa];refine (ja e (m x (F9 hx))).imp λw h2 qz=>?_;obtain⟨ew,eh⟩:=qz;subst ew eh;refine⟨rfl,?_⟩;rw[GP,hx,Fz,Fz];rfl
  ·obtain⟨rfl,rfl⟩:=I;rw[Fx,FS];simp! only[aa,eY];exact ae ⟨rfl,rfl⟩
 |stop=>
  have e0:bv [Rr.stop.form,.loc jn]=bd (aG [some (.tup [.str "stop"]),some (.loc jn)]) Mb:=rfl;rw[e0];unfold aG;simp! only[aa,ix0,hds];exact ae ⟨rfl,rfl⟩
 |_=>cases q
end
noncomputable def bkW (l:List Str)(b:Str×List W×Rr):W:=.tup [.str b.1,.tl b.2.1,(b.2.2.en l).w]
structure K9 (s:RS):Prop where
 l:s.dn.length=s.nm.length
 l1:1<=s.nm.length
 e: ∀b∈s.dn,b.2.2.end'=true/\b.2.2.Ok/\ ∀x∈b.2.2.tos,x∈s.nm
theorem yU {o jb jn je js:Nat}(A:Li h o jb jn je js s)(E:K9 s):Ok (bD [.loc o]) h λw h'=>w=.tup [.tl (s.bx.map bqW),.tl (s.dn.map (bkW s.nm))]/\Fo o h h':=by
 have e0:bD [.loc o]=bd (bC [some (.loc o),none,none,none,none]) Mb:=rfl;rw[e0];unfold bC;obtain⟨n1,n2,n3,n4⟩:=A.ne;obtain⟨z1,z2,z3,z4,z5⟩:=A.z;have el:=E.l;have el1:=E.l1;have lo:=dg A.ob;have lb:=dg A.b;have ln:=dg A.n;have le:=dg A.e;simp!;refine dH A.ob NK.1 ?_;simp!;refine aI (lC A) λw h' qq_=>?_;obtain⟨ew,eh⟩:=qq_;subst ew eh;simp! only[aa,decide_eq_false (show¬s.dn.length<s.nm.length by omega)];refine cq A.ob (pT ..) ?_;simp!;refine (Lw.len (.inr ⟨jn,rfl,A.n⟩)) ?_;have d0:decide ((((s.nm.map W.str).length:Nat):Int)=0)=false:=decide_eq_false (by rw[Fx];omega);simp! only[aa,d0];refine f7 ?_;have ap: ∀ {j:Nat}{b:Ob},h'[j]?=some b->(h'++[.lst []])[j]?=some b:=λe=>Ax e;simp!;refine cq (ap A.ob) (C8 ..) ?_;refine rj (ap A.e) ?_;simp!;refine cp (I:=λi ρ h1=> ∃a b c,ρ=[some (.loc o),some (.loc h'.length),a,b,c]/\h1.length=h'.length+1/\(∀j,j<h'.length->h1[j]?=h'[j]?)/\h1[h'.length]?=some (.lst ((s.dn.take i).map (bkW s.nm)))) ⟨_,_,_,rfl,⇑_,λj hj=>by rw[Gr hj],ga⟩ (λ_ _ _ I=>by obtain⟨a,b,c,_,_,q,_⟩:=I;rw[q _ le];exact A.e) (λi w ρ h1 hw I=>?_) λρ h1 I=>?_
 ·obtain⟨a,b,c,rfl,l1,q1,q2⟩:=I;rw[FG] at hw;obtain⟨⟨nm,sts,r⟩,hb,rfl⟩:=FQ.mp hw;obtain⟨r1,r2,r3⟩:=E.e _ (F9 hb);have hi:=(FO.mp hb).1;refine⟨[some (.loc o),some (.loc h'.length),some (.str nm),some (.tl sts),some r.form],rfl,?_⟩;have en:h1[jn]?=some (.lst (s.nm.map W.str)):=by rw[q1 _ ln];exact A.n
  have eo:h1[o]?=some (.ins "Reading" Me [.loc jb,.loc jn,.loc je,.loc js]):=by rw[q1 _ lo];exact A.ob
  have eb:=AA r1 en r2 r3;generalize r.form=F at *;simp!;refine cn q2 ?_;simp!;refine cq eo (pT ..) ?_;simp!;refine aI eb λw h2 qq_=>?_;obtain⟨ew,eh⟩:=qq_;subst ew eh;simp!;refine dI q2 (by rw[Fx,Gk];exact Gm (show _<=10 by omega) ↥_) ?_;simp!;refine ae ⟨_,rfl,_,_,_,rfl,by rw[Go];exact l1,λj hj=>by rw[FR ∅];exact q1 j hj,?_⟩;rw[cU q2,GP,hb,Fz];rfl
 ·obtain⟨a,b,c,rfl,l1,q1,q2⟩:=I;rw[Fx,FS] at q2;have eo:h1[o]?=some (.ins "Reading" Me [.loc jb,.loc jn,.loc je,.loc js]):=by rw[q1 _ lo];exact A.ob
  have eb:h1[jb]?=some (.lst (s.bx.map bqW)):=by rw[q1 _ lb];exact A.b
  simp!;refine cq eo (Ai ..) ?_;refine gY eb ?_;have q3:(h1.set jb .gone)[h'.length]?=some (.lst (s.dn.map (bkW s.nm))):=by rw[FR ∅];exact q2
  simp!;refine gY q3 ?_;simp!;refine ae ⟨rfl,λi hi=>?_,?_⟩
  ·rw[FR ∅,FR ∅];exact q1 i ∅
  ·rw[Go,Go,l1];omega
noncomputable def OkR:List Rr->RS->Prop
 |[],_=>True
 |r::rs,s=>(r.Ok/\Pre s r)/\OkR rs (s.step r)
noncomputable def OT (rs:List Rr)(s:RS):RS:=rs.foldl RS.step s
theorem j3: ∀ {a b:List Rr}{s:RS},OkR a s->OkR b (OT a s)->OkR (a++b) s
 |[],_,_,_,h=>h
 |r::a,b,s,g,h=>⟨g.1,j3 (a:=a) g.2 h⟩
theorem kJ (a b:List Rr)(s:RS):OT (a++b) s=OT b (OT a s):=HV ..
theorem sZ: ∀ {a:List Rr}{s:RS},OkR a s-> ∀r∈a,r.Ok
 |[],_,_,r,h=>absurd h Ga
 |x::a,s,g,r,h=>by
  rcases FC.mp h with rfl|h
  ·exact g.1.1
  ·exact sZ g.2 r h
noncomputable def RS.nil:RS:=⟨[],[],[],[]⟩
section
variable {β:Type}{h:List Ob}{Q:β->List Ob->Prop}
theorem on {k:W->M β}{n:Nat}(hn:L.length=n)(q:Ok (k (.loc (h.length+n))) (h++(L++[.lst l])) Q):Ok (bd (NR l) k) (h++L) Q:=by
 refine f7 ?_;rw[FE,Gb,hn];exact q
theorem nS {c f:Str}{ns ns':List Str}{ws ws':List W}{k:Unit->M β}(z:ns.length<1000)(e2:putN ns ws f y=(ns',ws'))(q:Ok (k ()) (h++.ins c ns' ws'::L) Q):Ok (bd (OF c f (.loc h.length) y) k) (h++.ins c ns ws::L) Q:=by
 refine w9 (by rw[G0 (Fy _),Iw];rfl) z e2 ?_;rw[List.set_append_right _ _ (Fy _),Iw];exact q
end
theorem Au (h:List Ob):Ok (cj [.loc h.length]) (h++[.ins "Reading" [] []]) λw h'=>w=.non/\Li h' h.length (h.length+1) (h.length+2) (h.length+3) (h.length+4) RS.nil/\Fo h.length h h':=by
 have e0:cj [.loc h.length]=bd (ci [some (.loc h.length)]) Mb:=rfl;rw[e0];unfold ci;simp!;refine on (n:=1) rfl ?_;simp! only[Gh,Gj,aa];refine nS (by show 0<1000;decide) (ns':=["boxes"]) (ws':=[.loc (h.length+1)]) rfl ?_;simp!;refine on (n:=2) rfl ?_;simp! only[Gh,Gj,aa];refine nS (by show 1<1000;decide) (ns':=["boxes", "block_names"]) (ws':=[.loc (h.length+1),.loc (h.length+2)]) (by simp only[putN,fne,if_false]) ?_;simp!;refine on (n:=3) rfl ?_;simp! only[Gh,Gj,aa];refine nS (by show 2<1000;decide) (ns':=["boxes", "block_names", "ended_blocks"]) (ws':=[.loc (h.length+1),.loc (h.length+2),.loc (h.length+3)]) (by simp only[putN,fne,if_false]) ?_;simp!;refine on (n:=4) rfl ?_;simp! only[Gh,Gj,aa];refine nS (by show 3<1000;decide) (ns':=Me) (ws':=[.loc (h.length+1),.loc (h.length+2),.loc (h.length+3),.loc (h.length+4)]) (by simp only[Me,putN,fne,if_false]) ?_;simp!;have at': ∀ (L:List Ob) (k:Nat),(h++L)[h.length+k]?=L[k]?:=λL k=>by rw[G0 ∅];congr 1;omega
 refine ae ⟨rfl,⟨at' _ 0,at' _ 1,at' _ 2,at' _ 3,λ_=>at' _ 4,⟨∅,∅,∅,∅⟩,⟨FY _,FY _,Fy _,FY _,FY _⟩⟩,⟨λi hi=>Gr hi,by rw[FE];omega⟩⟩
noncomputable def Qe (rs:List Rr):Str:=Str.join ⟨#[10]⟩ (rs.map Rr.tx)
theorem zm (K:OkR rs RS.nil)(E:K9 (OT rs RS.nil))(l1:rs≠ [])(l2:rs.length<=120):Ok (jN [.str (Qe rs)]) h λw h'=>w=.tup [.tl ((OT rs RS.nil).bx.map bqW),.tl ((OT rs RS.nil).dn.map (bkW (OT rs RS.nil).nm))]/\Fo h.length h h':=by
 have e0:jN [.str (Qe rs)]=bd (oE [some (.str (Qe rs)),none,none,none]) Mb:=rfl;rw[e0];unfold oE;have all:=sZ K;have hz: ∀z∈rs.map Rr.tx,z.length<=600:=λz hz=>by
  obtain⟨r,hr,rfl⟩:=FW.mp hz;exact (all r hr).len
 have sp:PM (.str (Qe rs)) [.str "\n"]=pr (.tl ((rs.map Rr.tx).map W.str)):=by
  rw[xh];refine o8 (λz=>l1 (GY.mp z)) (λz hz=>?_) (F6 (tJ hz) ?_) (sz (by rw[Fx];omega))
  ·obtain⟨r,hr,rfl⟩:=FW.mp hz;exact (all r hr).nl
  ·rw[Fx];exact sz ∅
 generalize Qe rs=T at *;have d0:decide ((120:Int)<((((rs.map Rr.tx).map W.str).length:Nat):Int))=false:=decide_eq_false (by rw[Fx,Fx];omega);simp! only[aa,sp,d0,Nr];refine zE (by rfl) (Au h) λh1 qz=>?_;obtain⟨A,F1⟩:=qz;simp! only[aa,cL];generalize h.length+1=jb at *;generalize h.length+2=jn at *;generalize h.length+3=je at *;generalize h.length+4=js at *;generalize ho:h.length=o at *;have m8:=NK.2.2.2.2.2.2.2.1;have m9:=NK.2.2.2.2.2.2.2.2;refine cp (I:=λi ρ h2=> ∃a js s,ρ=[some (.str T),some (.tl ((rs.map Rr.tx).map W.str)),some (.loc o),a]/\Li h2 o jb jn je js s/\OkR (rs.drop i) s/\OT (rs.drop i) s=OT rs RS.nil/\Fo o h h2) ⟨_,js,RS.nil,rfl,A,K,rfl,F1⟩ (λ_ _ _ _=>trivial) (λi w ρ h2 hw I=>?_) λρ h2 I=>?_
 ·obtain⟨a,js,s,rfl,A,K,er,F2⟩:=I;rw[FG,FG] at hw;obtain⟨x,hx,rfl⟩:=FQ.mp hw;obtain⟨r,hr,rfl⟩:=FQ.mp hx;have hi:=(FO.mp hr).1;have ed:rs.drop i=r::rs.drop (i+1):=by
   rw[Ha hi];congr 1;exact Option.some.inj ((F4 hi).symm.trans hr)
  rw[ed] at K er;obtain⟨⟨g,p⟩,K⟩:=K;have fe:=Ay g;have tk:=yW g A p;refine⟨_,rfl,?_⟩;generalize r.form=F at *;generalize r.tx=X at *;simp!;refine dH A.ob m8 ?_;simp! only[aa,fe];refine aI tk λw h3 qq_=>?_;obtain⟨ew,⟨js',A'⟩,F3⟩:=qq_;subst ew;simp!;exact ae ⟨_,rfl,_,js',_,rfl,A',K,er,F2.trans F3⟩
 ·obtain⟨a,js,s,rfl,A,K,er,F2⟩:=I;rw[Fx,Fx,Ix] at er;have er:s=OT rs RS.nil:=er;subst er;simp!;refine dH A.ob m9 ?_;simp!;refine aI (yU A E) λw h3 qq_=>?_;obtain⟨ew,F3⟩:=qq_;subst ew;simp!;exact ae ⟨rfl,F2.trans F3⟩
end
section
open Wd
structure Bt where
 nm:Str
 ss:List Rr
 e:Rr
noncomputable def Bt.rows (b:Bt):List Rr:=.block b.nm::(b.ss++[b.e])
noncomputable def pgR (bx:List (Str×Str))(bl:List Bt):List Rr:=(bx.map λb=>Rr.box b.1 b.2)++bl.flatMap Bt.rows
structure BtG (bn ns:List Str)(b:Bt):Prop where
 nm:aO b.nm=true
 l:b.ss.length<=8
 s: ∀r∈b.ss,r.stm=true/\r.Ok/\ ∀x∈r.bxs,x∈bn
 e:b.e.end'=true/\b.e.Ok/\(∀x∈b.e.bxs,x∈bn)/\ ∀x∈b.e.tos,x∈ns
structure PtxG (bx:List (Str×Str))(bl:List Bt):Prop where
 b: ∀x∈bx,aO x.1=true/\NT x.2=true
 bn:(bx.map (·.1)).Nodup
 b4:bx.length<=4
 n:(bl.map Bt.nm).Nodup
 l:bl.length<=10
 l1:1<=bl.length
 g: ∀b∈bl,BtG (bx.map (·.1)) (bl.map Bt.nm) b
noncomputable def bxV (bx:List (Str×Str)):List (Str×Int):=bx.map λb=>(b.1,df b.2)
theorem sK: ∀ (bx:List (Str×Str)) (d:List (Str×Int)),(∀x∈bx,aO x.1=true/\NT x.2=true)->(d.map (·.1)++bx.map (·.1)).Nodup->d.length+bx.length<=4->OkR (bx.map λb=>Rr.box b.1 b.2) ⟨d,[],[],[]⟩/\OT (bx.map λb=>Rr.box b.1 b.2) ⟨d,[],[],[]⟩=⟨d++bxV bx,[],[],[]⟩
 |[],d,_,_,_=>⟨trivial,by show _=RS.mk (d++[]) _ _ _;rw[Gd];rfl⟩
 |b::bx,d,g,nd,l=>by
  have ih:=sK bx (d++[(b.1,df b.2)]) (λx hx=>g x (FV _ hx)) (by rw[Fz,Gb];exact nd) (by rw[FE,Gc];rw[FH] at l;omega);rw[FH] at l;refine⟨⟨⟨g b FI,rfl,λhm=>?_,by show d.length<4;omega⟩,ih.1⟩,?_⟩
  ·rw[FK,Hg] at nd;exact nd.2.2 _ hm _ FI rfl
  ·show OT (bx.map λb=>Rr.box b.1 b.2) ⟨d++[(b.1,df b.2)],[],[],[]⟩=_;rw[ih.2,Gb];rfl
theorem sJ: ∀ (ss:List Rr) (s:RS),s.dn.length<s.nm.length->s.st.length+ss.length<=8->(∀r∈ss,r.stm=true/\r.Ok/\ ∀x∈r.bxs,x∈s.bx.map (·.1))->OkR ss s/\OT ss s={s with st:=s.st++ss.map Rr.form}
 |[],s,_,_,_=>⟨trivial,by rw[Ge,Gd];rfl⟩
 |r::ss,s,i,l,g=>by
  rw[FH] at l;obtain⟨g1,g2,g3⟩:=g r FI;have es:=o5 (s:=s) g1;have ih:=sJ ss {s with st:=s.st++[r.form]} i (by show (s.st++[_]).length+_<=8;rw[FE,Gc];omega) λr hr=>g r (FV _ hr);have p:Lg s r:=⟨i,λ_=>∅,g3⟩
  have p:Pre s r:=by cases r<;>first|exact p|cases g1
  refine⟨⟨⟨g2,p⟩,by rw[es];exact ih.1⟩,?_⟩;show OT ss (s.step r)=_;rw[es,ih.2];show RS.mk s.bx s.nm s.dn ((s.st++[r.form])++ss.map Rr.form)=RS.mk s.bx s.nm s.dn (s.st++(r::ss).map Rr.form);rw[Gb];rfl
theorem uY (l:List Str)(x:Str):(l++[x]).getLastD ""=x:=⇑_
theorem AC {r:Rr}(a:r.end'=true)(b:r.stm=true):False:=by
 cases r<;>first|exact absurd a FU|exact absurd b FU
theorem zj {bn ns:List Str}(g:BtG bn ns b)(hb:s.bx.map (·.1)=bn)(i:s.dn.length=s.nm.length)(l:s.nm.length<10)(n:b.nm ∉ s.nm):OkR b.rows s/\OT b.rows s=⟨s.bx,s.nm++[b.nm],s.dn++[(b.nm,b.ss.map Rr.form,b.e)],b.ss.map Rr.form⟩:=by
 subst hb;have h1:=sJ b.ss ⟨s.bx,s.nm++[b.nm],s.dn,[]⟩ (by show s.dn.length<(s.nm++[_]).length;rw[FE,Gc];omega) (by show 0+_<=8;have:=g.l;omega) g.s;have e2:OT b.ss ⟨s.bx,s.nm++[b.nm],s.dn,[]⟩=⟨s.bx,s.nm++[b.nm],s.dn,b.ss.map Rr.form⟩:=by rw[h1.2];rfl
 have p:Lg ⟨s.bx,s.nm++[b.nm],s.dn,b.ss.map Rr.form⟩ b.e:=⟨by show s.dn.length<(s.nm++[_]).length;rw[FE,Gc];omega,λq=>(AC g.e.1 q).elim,g.e.2.2.1⟩
 have p:Pre ⟨s.bx,s.nm++[b.nm],s.dn,b.ss.map Rr.form⟩ b.e:=by
  have ge:=g.e.1;cases h:b.e<;>rw[h] at p ge<;>first|exact p|cases ge
 refine⟨⟨⟨g.nm,i,n,l⟩,j3 h1.1 ?_⟩,?_⟩
 ·show OkR [b.e] (OT b.ss ⟨s.bx,s.nm++[b.nm],s.dn,[]⟩);rw[e2];exact⟨⟨g.e.2.1,p⟩,trivial⟩
 ·show OT (b.ss++[b.e]) ⟨s.bx,s.nm++[b.nm],s.dn,[]⟩=_;rw[kJ,e2];show RS.step _ b.e=_;rw[o7 g.e.1];show RS.mk s.bx (s.nm++[b.nm]) (s.dn++[((s.nm++[b.nm]).getLastD "",b.ss.map Rr.form,b.e)]) _=_;rw[uY]
theorem pB {bn ns:List Str}: ∀ (bl:List Bt) (s:RS),(∀b∈bl,BtG bn ns b)->s.bx.map (·.1)=bn->s.dn.length=s.nm.length->(s.nm++bl.map Bt.nm).Nodup->s.nm.length+bl.length<=10->OkR (bl.flatMap Bt.rows) s/\ ∃st,OT (bl.flatMap Bt.rows) s=⟨s.bx,s.nm++bl.map Bt.nm,s.dn++bl.map (λb=>(b.nm,b.ss.map Rr.form,b.e)),st⟩
 |[],s,_,_,_,_,_=>⟨trivial,s.st,by rw[Ge,Ge,Gd,Gd];rfl⟩
 |b::bl,s,g,hb,i,nd,l=>by
  rw[FH] at l;rw[FK] at nd;have nn:b.nm ∉ s.nm:=λhm=>by
   rw[Hg] at nd;exact nd.2.2 _ hm _ FI rfl
  have h1:=zj (g b FI) hb i ∅ nn;obtain⟨h2,st,h3⟩:=pB bl ⟨s.bx,s.nm++[b.nm],s.dn++[(b.nm,b.ss.map Rr.form,b.e)],b.ss.map Rr.form⟩ (λb hb=>g b (FV _ hb)) hb (by show (s.dn++[_]).length=(s.nm++[_]).length;rw[FE,FE,i];rfl) (by show ((s.nm++[b.nm])++_).Nodup;rw[Gb];exact nd) (by show (s.nm++[_]).length+_<=10;rw[FE,Gc];omega);rw[Hr];refine⟨j3 h1.1 (by rw[h1.2];exact h2),st,?_⟩;rw[kJ,h1.2,h3];show RS.mk _ ((s.nm++[b.nm])++bl.map Bt.nm) ((s.dn++[_])++_) _=_;rw[Gb,Gb];rfl
noncomputable def Bt.w (ns:List Str)(b:Bt):W:=.tup [.str b.nm,.tl (b.ss.map Rr.form),(b.e.en ns).w]
theorem OR {bl:List Bt}(h:∀b∈bl,b.ss.length<=8):(bl.flatMap Bt.rows).length<=10 * bl.length:=by
 induction bl with
 |nil=>simp
 |cons b bl ih=>
  have a:=h b FI;have c:=ih λb hb=>h b (FV _ hb);rw[Hr,FE,FH];have:b.rows.length=b.ss.length+2:=by unfold Bt.rows;rw[FH,FE];rfl
  omega
theorem wl (G:PtxG bx bl):Ok (jN [.str (Qe (pgR bx bl))]) h λw h'=>w=.tup [.tl ((bxV bx).map bqW),.tl (bl.map (Bt.w (bl.map Bt.nm)))]/\Fo h.length h h':=by
 have h1:=sK bx [] G.b G.bn (by have:=G.b4;show 0+_<=4;omega);have ebx:(bxV bx).map (·.1)=bx.map (·.1):=by unfold bxV;rw[Gg];rfl
 obtain⟨h2,st,h3⟩:=pB bl ⟨bxV bx,[],[],[]⟩ (λb hb=>G.g b hb) ebx rfl G.n (by have:=G.l;show 0+_<=10;omega);have e1:OT (bx.map λb=>Rr.box b.1 b.2) RS.nil=⟨bxV bx,[],[],[]⟩:=h1.2;have er:OT (pgR bx bl) RS.nil=⟨bxV bx,bl.map Bt.nm,bl.map (λb=>(b.nm,b.ss.map Rr.form,b.e)),st⟩:=by
  unfold pgR;rw[kJ,e1,h3];rfl
 have K:OkR (pgR bx bl) RS.nil:=j3 h1.1 (by rw[e1];exact h2);have ll:=OR λb hb=>(G.g b hb).l;have g1:=G.l;have g2:=G.l1;have g3:=G.b4;have lp:(pgR bx bl).length=bx.length+(bl.flatMap Bt.rows).length:=by unfold pgR;rw[FE,Fx]
 have ne:pgR bx bl≠ []:=by
  cases bl with
  |nil=>exact absurd g2 ⇑_
  |cons b bl=>unfold pgR;rw[Hr];unfold Bt.rows;simp
 have E:K9 (OT (pgR bx bl) RS.nil):=by
  rw[er];refine⟨by show (bl.map _).length=(bl.map _).length;rw[Fx,Fx],by show 1<=(bl.map _).length;rw[Fx];exact g2,λb hb=>?_⟩;have hb:b∈bl.map (λb=>(b.nm,b.ss.map Rr.form,b.e)):=hb;obtain⟨c,hc,rfl⟩:=FW.mp hb;have g:=(G.g c hc).e;exact⟨g.1,g.2.1,g.2.2.2⟩
 refine (zm K E ne ∅).imp λw h' ⟨ew,F⟩=>⟨?_,F⟩
 rw[ew,er];show W.tup [.tl _,.tl ((bl.map λb=>(b.nm,b.ss.map Rr.form,b.e)).map (bkW (bl.map Bt.nm)))]=_;rw[Gg];rfl
end
section
open Wd
theorem De {i:Int}{w:W}(h:atI l i=some w):ixW (.cl l) (.int i)=pr w:=by
 funext hh;unfold ixW;have:ixO (.cl l) (.int i) hh=some w:=h;rw[this];rfl
theorem oK (ns:List Int)(i:Int)(h0:0<=i): ∃c:Int,bG [.cl (ns.map W.int),.int i]=pr (.int c):=by
 have e0:bG [.cl (ns.map W.int),.int i]=bd (dy [some (.cl (ns.map W.int)),some (.int i)]) Mb:=rfl;rw[e0];unfold dy;by_cases hc:i<((ns.map W.int).length:Int)
 ·have q:=hJ W.int ns 0 h0 (by rw[Fx] at hc;exact hc);refine⟨ns.getD i.toNat 0,?_⟩;simp! only[aa,tz,decide_eq_true hc,De q]
 ·refine⟨0,?_⟩;simp! only[aa,tz,decide_eq_false hc]
theorem oS (i:Int):Lp [.int i]=pr (.int (if i<0 then -i else i)):=rfl
noncomputable def NP (a:Int):Nat->Int
 |0=>a
 |k+1=>if 10 ^ (18:Int).toNat<=a then NP a k / 1009 else NP a k
noncomputable def NN (r:Int)(k:Int):Int:=(r % 2147483629+7919 * (k+1) * (k+3)) % 2147483629
noncomputable def NO (a:Int)(k:Nat):Int:=if 10 ^ (18:Int).toNat<=a then NP a k % 1009 else (NN (NP a k) (0+(k:Int)) * NN (NP a k) (0+(k:Int)) % 2147483587+NN (NP a k) (0+(k:Int)) / 7) * 48271 % 2147483647 / 16
noncomputable def NV (c:Int)(n:Nat):List Int:=(List.range n).map (NO (if c<0 then -c else c))
theorem g7 (c:Int)(n:Nat):(NV c n).length=n:=by unfold NV;simp
theorem j4 {c N:Int}{n:Nat}(hN:N=(n:Int))(hn:n<=60):Ok (bq [.int c,.int N]) h λw h'=>w=.tl ((NV c n).map W.int)/\Fo h.length h h':=by
 have e0:bq [.int c,.int N]=bd (dm [some (.int c),some (.int N),none,none,none,none]) Mb:=rfl;rw[e0];unfold dm;have eN:N.toNat=n:=∅;simp!;refine f7 ?_;simp! only[aa,oS,kK (show (-(2 ^ 62):Int)<=N by omega) (show N<2 ^ 62 by omega)];unfold NV;generalize hA:(if c<0 then -c else c)=A;refine cp (I:=λi ρ h'=> ∃a b,ρ=[some (.int c),some (.int N),some (.loc h.length),some (.int (NP A i)),a,b]/\h'.length=h.length+1/\(∀j,j<h.length->h'[j]?=h[j]?)/\h'[h.length]?=some (.lst (((List.range i).map (NO A)).map W.int))) ⟨_,_,rfl,⇑_,λj hj=>by rw[Gr hj],ga⟩ (λ_ _ _ _=>trivial) (λi w ρ h1 hw I=>?_) λρ h1 I=>?_
 ·obtain⟨a,b,rfl,l1,q1,q2⟩:=I;obtain⟨rfl,hi⟩:=cJ _ _ _ _ hw;rw[eN] at hi;refine⟨_,rfl,?_⟩;have er:(List.range (i+1)).map (NO A)=(List.range i).map (NO A)++[NO A i]:=by rw[Hc,Fz];rfl
  have z:(((List.range i).map (NO A)).map W.int).length<sizeLine:=by rw[Fx,Fx,HW];exact Gm (show _<=60 by omega) ↥_
  have fin: ∀x:Int,x=NO A i->(h1.set h.length (.lst (((List.range i).map (NO A)).map W.int++[.int x])))[h.length]?=some (.lst (((List.range (i+1)).map (NO A)).map W.int)):=λx e=>by rw[cU q2,er,e,Fz];rfl
  have fr: ∀b:Ob,(h1.set h.length b).length=h.length+1/\ ∀j,j<h.length->(h1.set h.length b)[j]?=h[j]?:=λb=>⟨by rw[Go];exact l1,λj hj=>by rw[FR ∅];exact q1 j hj⟩
  by_cases c18:10 ^ (18:Int).toNat<=A
  ·have n1:NO A i=NP A i % 1009:=by unfold NO;rw[if_pos c18]
   have n2:NP A (i+1)=NP A i / 1009:=by show (if 10 ^ (18:Int).toNat<=A then _ else _)=_;rw[if_pos c18]
   simp! only[aa,oS,kM cp18,hA,decide_eq_true c18];refine cn q2 ?_;simp! only[aa,ah (show (0:Int)<1009 by decide)];refine dI q2 z ?_;simp! only[aa,bW (show (0:Int)<1009 by decide) ↥_];rw[<-n2];exact ae ⟨_,rfl,_,_,rfl,(fr _).1,(fr _).2,fin _ n1.symm⟩
  ·have n1:NO A i=(NN (NP A i) (0+(i:Int)) * NN (NP A i) (0+(i:Int)) % 2147483587+NN (NP A i) (0+(i:Int)) / 7) * 48271 % 2147483647 / 16:=by unfold NO;rw[if_neg c18]
   have n2:NP A (i+1)=NP A i:=by show (if 10 ^ (18:Int).toNat<=A then _ else _)=_;rw[if_neg c18]
   simp! only[aa,oS,kM cp18,hA,decide_eq_false c18,ah (show (0:Int)<2147483629 by decide),jh (xq (i:=7919) (j:=0+(i:Int)+1) ↥_ ↥_),jh (xp (i:=7919 * (0+(i:Int)+1)) (j:=0+(i:Int)+3) ∅ ∅)];have em:(NP A i % 2147483629+7919 * (0+(i:Int)+1) * (0+(i:Int)+3)) % 2147483629=NN (NP A i) (0+(i:Int)):=rfl;have m0:0<=NN (NP A i) (0+(i:Int)):=Gq _ ↥_;have m1:NN (NP A i) (0+(i:Int))<2147483629:=Gn _ ↥_;rw[em];generalize NN (NP A i) (0+(i:Int))=x at *;simp! only[aa,jh (xq (i:=x) (j:=x) ∅ ∅),ah (show (0:Int)<2147483587 by decide),bW (show (0:Int)<7 by decide) ↥_];refine cn q2 ?_;simp! only[aa,jh (xp (i:=x * x % 2147483587+x / 7) (j:=48271) ↥_ ↥_),ah (show (0:Int)<2147483647 by decide),bW (show (0:Int)<16 by decide) ↥_];refine dI q2 z ?_;simp!;rw[<-n2];exact ae ⟨_,rfl,_,_,rfl,(fr _).1,(fr _).2,fin _ n1.symm⟩
 ·obtain⟨a,b,rfl,l1,q1,q2⟩:=I;rw[cB,eN] at q2;simp!;refine gY q2 ?_;simp!;exact ae ⟨rfl,λi hi=>by rw[FR ∅];exact q1 i hi,by rw[Go,l1];omega⟩
theorem Pe (a b c:Str):(a++b)++c=a++(b++c):=nE (by rw[iE,iE,iE,iE,Gb])
theorem PB (a b:Str):(a++b).length=a.length+b.length:=Iv
theorem adS {a b:Str}(h:a.length+b.length<=100000):Lr (.str a) (.str b)=pr (.str (a++b)):=yS (sz h)
noncomputable def bn2:List Str:=["n", "nn"]
structure WG (z:Str)(e:Exp):Prop where
 w:Wrd z e
 b: ∀x∈L3 e,x∈bn2
 d:L1 e<=5
noncomputable def wOk (z:Str):Bool:=match L6 z with
 |none=>false
 |some e=>LJ z && (L4 e && (decide (L1 e<=5) && (decide ((L3 e).length<=60) && (L3 e).all λx=>decide (x∈bn2))))
theorem A9 {z:Str}(h:wOk z=true): ∃e,WG z e:=by
 unfold wOk at h;cases e:L6 z with
 |none=>rw[e] at h;cases h
 |some x=>
  rw[e] at h;simp only[F7,decide_eq_true_eq,Gf] at h;obtain⟨h1,h2,h3,h4,h5⟩:=h;exact⟨x,⟨e,.of h1,h2,∅,h4⟩,h5,h3⟩
noncomputable def wS (one more:Str):List Str:=[more,one,one++ "+"++more,one++ "-1", "nn-n", "n*"++more, "2*("++one++ "+1)", "7-"++one]
noncomputable def Ma:List Str:=["0", "1", "2", "3"]
theorem DK: ∀o,o<2-> ∀m,m<4-> ∀i,i<8->wOk ((wS (bn2.getD o "") (Ma.getD m "")).getD i "")=true:=⋯
theorem n9: ∀o,o<2->(bn2.getD o "").length<=2:=⋯
theorem la: ∀m,m<4->(Ma.getD m "").length<=1:=⋯
theorem st4 {v:Int}(h0:0<=v)(h1:v<4):PZ [.int v]=pr (.str (Ma.getD v.toNat "")):=by
 have:v=0\/v=1\/v=2\/v=3:=∅;rcases this with rfl|rfl|rfl|rfl<;>exact vW ↥_
theorem Ox {v:Int}(h0:0<=v)(h1:v<2):ixW (.tl [.str "n",.str "nn"]) (.int v)=pr (.str (bn2.getD v.toNat "")):=bU (hJ W.str bn2 "" h0 h1)
theorem mP {v:Int}(h0:0<=v)(h1:v<2):bn2.getD v.toNat ""∈bn2/\aO (bn2.getD v.toNat "")=true:=by
 have:v=0\/v=1:=∅;rcases this with rfl|rfl<;>decide+kernel
theorem M3:(("+":Str).length=1/\("-1":Str).length=2/\("n*":Str).length=2/\("2*(":Str).length=3/\("+1)":Str).length=3/\("7-":Str).length=2)/\("say ":Str).length=4/\("ask ":Str).length=4/\("put ":Str).length=4/\(" ":Str).length=1/\("go ":Str).length=3/\("if ":Str).length=3/\(" else ":Str).length=6/\("block ":Str).length=6:=⋯
theorem nC (a b c:Int)(l:List W): ∃z e,cD [.tl (.int a::.int b::.int c::l)]=pr (.str z)/\WG z e:=by
 have a0:=Gq a (show (8:Int)≠0 by decide);have a1:=Gn a (show (0:Int)<8 by decide);have b0:=Gq b (show (2:Int)≠0 by decide);have b1:=Gn b (show (0:Int)<2 by decide);have c0:=Gq c (show (4:Int)≠0 by decide);have c1:=Gn c (show (0:Int)<4 by decide);obtain⟨e,w⟩:=A9 (DK (b % 2).toNat ∅ (c % 4).toNat ∅ (a % 8).toNat ∅);refine⟨_,e,?_,w⟩;have e0:cD [.tl (.int a::.int b::.int c::l)]=bd (gh [some (.tl (.int a::.int b::.int c::l)),none,none,none]) Mb:=rfl;rw[e0];unfold gh;have l1:=n9 (b % 2).toNat ∅;have l2:=la (c % 4).toNat ∅;have p2:=Ox b0 b1;have s4:=st4 c0 c1;obtain⟨⟨k1,k2,k3,k4,k5,k6⟩,_⟩:=M3;generalize bn2.getD (b % 2).toNat ""=one at *;generalize Ma.getD (c % 4).toNat ""=more at *;have ix:ixW (.tl [.str more,.str one,.str (one++ "+"++more),.str (one++ "-1"),.str "nn-n",.str ("n*"++more),.str ("2*("++one++ "+1)"),.str ("7-"++one)]) (.int (a % 8))=pr (.str ((wS one more).getD (a % 8).toNat "")):=bU (hJ W.str (wS one more) "" a0 a1);simp! only[aa,tx0,tx1,tx2,ah (show (0:Int)<2 by decide),ah (show (0:Int)<4 by decide),ah (show (0:Int)<8 by decide),p2,s4,adS (a:=one) (b:= "+") ∅,adS (a:=one++ "+") (b:=more) (by rw[PB];omega),adS (a:=one) (b:= "-1") ∅,adS (a:= "n*") (b:=more) ∅,adS (a:= "2*(") (b:=one) ∅,adS (a:= "2*("++one) (b:= "+1)") (by rw[PB];omega),adS (a:= "7-") (b:=one) ∅,ix]
theorem WG.len {z:Str}(g:WG z e):z.length<=60:=g.w.c.len
theorem M4:(("say ":Str)= "say"++⟨#[32]⟩/\("ask ":Str)= "ask"++⟨#[32]⟩/\("put ":Str)= "put"++⟨#[32]⟩/\("go ":Str)= "go"++⟨#[32]⟩)/\("if ":Str)= "if"++⟨#[32]⟩/\(" else ":Str)=⟨#[32]⟩++("else"++⟨#[32]⟩)/\("block ":Str)= "block"++⟨#[32]⟩/\(" < ":Str)=⟨#[32]⟩++("<"++⟨#[32]⟩)/\(" = ":Str)=⟨#[32]⟩++("="++⟨#[32]⟩):=⋯
noncomputable def Rr.dep:Rr->Nat
 |.put _ _ e=>L1 e
 |.say _ e=>L1 e
 |.iff _ _ e1 _ e2 _ _=>max (L1 e1) (L1 e2)
 |.table _ e _=>L1 e
 |_=>0
structure RG (r:Rr):Prop where
 ok:r.Ok
 b: ∀x∈r.bxs,x∈bn2
 d:r.dep<=5
theorem Bu (z:Str)(e:Exp):(Rr.say z e).tx= "say "++z:=by rw[M4.1.1];rfl
theorem DC (z:Str):(Rr.ask z).tx= "ask "++z:=by rw[M4.1.2.1];rfl
theorem BD (x z:Str)(e:Exp):(Rr.put x z e).tx= "put "++x++ " "++z:=by
 rw[M4.1.2.2.1,sD];show "put"++⟨#[32]⟩++(x++⟨#[32]⟩++z)=_;simp only[Pe]
theorem EO (z:Str):(Rr.go z).tx= "go "++z:=by rw[M4.1.2.2.2];rfl
theorem yL (z:Str):(Rr.block z).tx= "block "++z:=by rw[M4.2.2.2.1];rfl
theorem vX (p q r:Int): ∃R:Rr,bu [.tl [.int p,.int q,.int r]]=pr (.str R.tx)/\R.stm=true/\RG R:=by
 have e0:bu [.tl [.int p,.int q,.int r]]=bd (cM [some (.tl [.int p,.int q,.int r]),none]) Mb:=rfl;rw[e0];unfold cM;obtain⟨z,e,ew,g⟩:=nC p q r [];have zl:=g.len;have k0:=Gq (p / 8) (show (4:Int)≠0 by decide);have k1:=Gn (p / 8) (show (0:Int)<4 by decide);obtain⟨_,l1,l2,l3,l4,_⟩:=M3;by_cases c0:p / 8 % 4=0
 ·refine⟨.say z e,?_,rfl,g.w,g.b,g.d⟩;rw[Bu];simp! only[aa,tx0,bW (show (0:Int)<8 by decide) ↥_,ah (show (0:Int)<4 by decide),decide_eq_true c0,ew,adS (a:= "say ") (b:=z) ∅]
 by_cases c1:p / 8 % 4=1
 ·have r0:=Gq r (show (2:Int)≠0 by decide);have r1:=Gn r (show (0:Int)<2 by decide);have m:=mP r0 r1;have l:=n9 (r % 2).toNat ∅;have p2:=Ox r0 r1;generalize bn2.getD (r % 2).toNat ""=one at *;refine⟨.ask one,?_,rfl,m.2,λx hx=>by rw[FZ.mp hx];exact m.1,FY _⟩;rw[DC];simp! only[aa,tx0,tx2,bW (show (0:Int)<8 by decide) ↥_,ah (show (0:Int)<4 by decide),ah (show (0:Int)<2 by decide),decide_eq_false c0,decide_eq_true c1,p2,adS (a:= "ask ") (b:=one) ∅]
 ·have r0:=Gq (r / 4) (show (2:Int)≠0 by decide);have r1:=Gn (r / 4) (show (0:Int)<2 by decide);have m:=mP r0 r1;have l:=n9 (r / 4 % 2).toNat ∅;have p2:=Ox r0 r1;generalize bn2.getD (r / 4 % 2).toNat ""=one at *;refine⟨.put one z e,?_,rfl,⟨m.2,g.w⟩,λx hx=>?_,g.d⟩
  ·rw[BD];simp! only[aa,tx0,tx2,bW (show (0:Int)<8 by decide) ↥_,bW (show (0:Int)<4 by decide) ↥_,ah (show (0:Int)<4 by decide),ah (show (0:Int)<2 by decide),decide_eq_false c0,decide_eq_false c1,p2,ew,adS (a:= "put ") (b:=one) ∅,adS (a:= "put "++one) (b:= " ") (by rw[PB];omega),adS (a:= "put "++one++ " ") (b:=z) (by rw[PB,PB];omega)]
  ·rcases FC.mp hx with rfl|hx
   ·exact m.1
   ·exact g.b x hx
end
section
open Wd
theorem EN (s z1 z2 x y:Str)(e1 e2:Exp):(Rr.iff s z1 e1 z2 e2 x y).tx= "if "++(z1++(⟨#[32]⟩++(s++⟨#[32]⟩))++z2)++ " "++x++ " else "++y:=by
 rw[M4.2.1,M4.2.2.1,sD];show "if"++⟨#[32]⟩++(z1++⟨#[32]⟩++(s++⟨#[32]⟩++(z2++⟨#[32]⟩++(x++⟨#[32]⟩++("else"++⟨#[32]⟩++y)))))=_;simp only[Pe]
theorem AG {α:Type}(l:List α){v:Int}(h0:0<=v):(LP l none (some v)).length<=v.toNat/\ ∀x∈LP l none (some v),x∈l:=by
 unfold LP;refine⟨?_,λx hx=>Jk (HX hx)⟩;rw[Gk];have:HT.sIx l.length l.length (some v)<=v.toNat:=by
  show (if v<0 then (v+(l.length:Int)).toNat else min v.toNat l.length)<=_;rw[if_neg ∅];omega
 show min (HT.sIx l.length l.length (some v) - HT.sIx l.length 0 none) _<=_;omega
theorem sgn2 {v:Int}(h0:0<=v)(h1:v<2): ∃s:Str,ixW (.tl [.str " < ",.str " = "]) (.int v)=pr (.str (⟨#[32]⟩++(s++⟨#[32]⟩)))/\(s= "<"\/s= "=")/\s.length=1:=by
 have:v=0\/v=1:=∅;rcases this with rfl|rfl
 ·exact⟨"<",by rw[tx0,M4.2.2.2.2.1],.inl rfl,⋯⟩
 ·exact⟨"=",by rw[tx1,M4.2.2.2.2.2],.inr rfl,⋯⟩
theorem tf {ns:List Str}{x N:Int}(hN:N=(ns.length:Int))(l1:1<=ns.length): ∃s∈ns,ixW (.tl (ns.map W.str)) (.int (x % N))=pr (.str s):=by
 have a0:=Gq x (show N≠0 by omega);have a1:=Gn x (show 0<N by omega);have hi:(x % N).toNat<ns.length:=∅;exact⟨ns[(x % N).toNat],List.getElem_mem _,bU (aQ a0 (by rw[FG,F4 hi];rfl))⟩
theorem tx7 (a b c d e f g h:W)(l:List W):ixW (.tl (a::b::c::d::e::f::g::h::l)) (.int 7)=pr h:=bU (aQ ↥_ rfl)
theorem tx8 (a b c d e f g h i:W)(l:List W):ixW (.tl (a::b::c::d::e::f::g::h::i::l)) (.int 8)=pr i:=bU (aQ ↥_ rfl)
theorem tx9 (a b c d e f g h i j:W)(l:List W):ixW (.tl (a::b::c::d::e::f::g::h::i::j::l)) (.int 9)=pr j:=bU (aQ ↥_ rfl)
theorem Qi (a b c d e f g h i j k:W)(l:List W):ixW (.tl (a::b::c::d::e::f::g::h::i::j::k::l)) (.int 10)=pr k:=bU (aQ ↥_ rfl)
section
variable (x0 x1 x2 x3 x4 x5 x6 x7 x8 x9 x10 x11:W)
theorem LN:LP [x0,x1,x2,x3,x4,x5,x6,x7,x8,x9,x10,x11] (some 9) (some 12)=[x9,x10,x11]:=rfl
theorem yx:LP [x0,x1,x2,x3,x4,x5,x6,x7,x8,x9,x10,x11] (some 10) (some 12)=[x10,x11]:=rfl
theorem ct01:LP [x0,x1,x2,x3,x4,x5,x6,x7,x8,x9,x10,x11] none (some 1)=[x0]:=rfl
theorem ct14:LP [x0,x1,x2,x3,x4,x5,x6,x7,x8,x9,x10,x11] (some 1) (some 4)=[x1,x2,x3]:=rfl
theorem ct47:LP [x0,x1,x2,x3,x4,x5,x6,x7,x8,x9,x10,x11] (some 4) (some 7)=[x4,x5,x6]:=rfl
end
theorem ad21 (a b c:W):Lr (.tl [a,b]) (.tl [c])=pr (.tl [a,b,c]):=dU [a,b] [c] (sz (by show 2+1<=_;omega))
theorem yG {a b:List Str}(h:∀x∈a,x∈bn2)(g:∀x∈b,x∈bn2): ∀x∈a++b,x∈bn2:=λx hx=>by
 rcases Gw.mp hx with hx|hx
 ·exact h x hx
 ·exact g x hx
theorem oY: ∀ {l:List Str},(∀z∈l,z.length<=60)->(l.map (·.length)).sum<=60 * l.length
 |[],_=>⇑_
 |z::l,h=>by
  have a:=h z FI;have b:=oY (l:=l) λz hz=>h z (FV _ hz);rw[FK,Ho,FH,IK];omega
theorem Aj {ns:List Str}(x0 x1 x2 x3 x4 x5 x6 x7 x8 x9 x10 x11:Int)(l1:1<=ns.length)(l2:ns.length<=10)(nm: ∀x∈ns,aO x=true): ∃R:Rr,fJ [.tl [.int x0,.int x1,.int x2,.int x3,.int x4,.int x5,.int x6,.int x7,.int x8,.int x9,.int x10,.int x11],.tl (ns.map W.str)]=pr (.str R.tx)/\R.end'=true/\RG R/\ ∀x∈R.tos,x∈ns:=by
 have e0:fJ [.tl [.int x0,.int x1,.int x2,.int x3,.int x4,.int x5,.int x6,.int x7,.int x8,.int x9,.int x10,.int x11],.tl (ns.map W.str)]=bd (iu [some (.tl [.int x0,.int x1,.int x2,.int x3,.int x4,.int x5,.int x6,.int x7,.int x8,.int x9,.int x10,.int x11]),some (.tl (ns.map W.str)),none,none,none,none,none,none]) Mb:=rfl;rw[e0];unfold iu;obtain⟨N,hN⟩: ∃N:Int,N=(ns.length:Int):=⟨_,rfl⟩
 have N0:0<N:=∅;have eL:Na [.tl (ns.map W.str)]=pr (.int N):=by rw[lenW_tl,Fx,hN]
 obtain⟨one,m1,i1⟩:=tf (x:=x8) hN l1;obtain⟨other,m2,i2⟩:=tf (x:=x9) hN l1;have o1:=(bS (nm one m1)).len;have o2:=(bS (nm other m2)).len;have v0:=Gq x10 (show (3:Int)≠0 by decide);have v1:=Gn x10 (show (0:Int)<3 by decide);obtain⟨f1,f2⟩:=AG ns v0;have cm:=gy W.str ns none (some (x10 % 3));have sl:slW (.tl (ns.map W.str)) none (some (x10 % 3))=pr (.tl ((LP ns none (some (x10 % 3))).map W.str)):=by rw[slW_tl,cm]
 generalize LP ns none (some (x10 % 3))=few at *;generalize W.tl (ns.map W.str)=NW at *;obtain⟨w1,e1,ew1,g1⟩:=nC x9 x10 x11 [];obtain⟨w2,e2,ew2,g2⟩:=nC x10 x11 x0 [];have z1:=g1.len;have z2:=g2.len;obtain⟨_,_,_,_,k4,k5,k6,k7,_⟩:=M3;have k8:=Gn x7 (show (0:Int)<8 by decide);by_cases c2:x7 % 8<2
 ·refine⟨.go one,?_,rfl,⟨nm one m1,λx hx=>absurd hx Ga,FY _⟩,λx hx=>by rw[FZ.mp hx];exact m1⟩;rw[EO];simp! only[aa,tx7,tx8,tx9,Qi,eL,ah N0,ah (show (0:Int)<8 by decide),i1,i2,decide_eq_true c2,adS (a:= "go ") (b:=one) ∅]
 by_cases c5:x7 % 8=5
 ·refine⟨.table w1 e1 (one::other::few),?_,rfl,⟨⟨g1.w,⇑_,by rw[FH,FH];omega,λx hx=>?_⟩,g1.b,g1.d⟩,λx hx=>?_⟩
  ·have gl: ∀ {α:Type} (q:M α),gd (0+1+1+1+1+(few.map W.str).length<=sizeLine) q=q:=λq=>af (by rw[Fx];exact sz ∅);have jw:MP (.str " ") [.tl ([W.str "table",W.str w1,W.str one,W.str other]++few.map W.str)]=pr (.str (Str.join " " ("table"::w1::one::other::few))):=by
    refine xV (ts:= "table"::w1::one::other::few) (sz ?_);have fl: ∀z∈few,z.length<=60:=λz hz=>(bS (nm z (f2 z hz))).len;have fs:=oY fl;have t5:("table":Str).length=5:=⋯;simp only[FK,Ho,FH];rw[k4];omega
   simp! only[aa,tx7,tx8,tx9,Qi,eL,ah N0,ah (show (0:Int)<8 by decide),ah (show (0:Int)<3 by decide),i1,i2,decide_eq_false c2,decide_eq_true c5,LN,ew1,sl,LH,tj,gl,jw];rw[sD];rfl
  ·rcases FC.mp hx with rfl|hx
   ·exact nm _ m1
   ·rcases FC.mp hx with rfl|hx
    ·exact nm _ m2
    ·exact nm _ (f2 x hx)
  ·rcases FC.mp hx with rfl|hx
   ·exact m1
   ·rcases FC.mp hx with rfl|hx
    ·exact m2
    ·exact f2 x hx
 by_cases c6:x7 % 8=6
 ·refine⟨.stop,?_,rfl,⟨trivial,λx hx=>absurd hx Ga,FY _⟩,λx hx=>absurd hx Ga⟩;simp! only[aa,tx7,tx8,tx9,Qi,eL,ah N0,ah (show (0:Int)<8 by decide),i1,i2,decide_eq_false c2,decide_eq_false c5,decide_eq_true c6];rfl
 ·have s0:=Gq (x10 / 8) (show (2:Int)≠0 by decide);have s1:=Gn (x10 / 8) (show (0:Int)<2 by decide);obtain⟨s,es,hs,ls⟩:=sgn2 s0 s1;have sgl:((⟨#[32]⟩:Str)++(s++⟨#[32]⟩)).length=3:=by rw[PB,PB,ls];rfl
  have tx:=λy=>EN s w1 w2 one y e1 e2;generalize ((⟨#[32]⟩:Str)++(s++⟨#[32]⟩))=sg at *;by_cases c7:x7 % 8=7
  ·refine⟨.iff s w1 e1 w2 e2 one one,?_,rfl,⟨⟨hs,g1.w,g2.w,nm one m1,nm one m1⟩,yG g1.b g2.b,Nat.max_le.mpr ⟨g1.d,g2.d⟩⟩,λx hx=>by rcases FC.mp hx with rfl|hx;exact m1;rw[FZ.mp hx];exact m1⟩;rw[tx];simp! only[aa,tx7,tx8,tx9,Qi,eL,ah N0,ah (show (0:Int)<8 by decide),ah (show (0:Int)<2 by decide),bW (show (0:Int)<8 by decide) ↥_,i1,i2,decide_eq_false c2,decide_eq_false c5,decide_eq_false c6,decide_eq_true c7,es,LN,yx,ct01,ad21,ew1,ew2,adS (a:=w1) (b:=sg) ∅,adS (a:=w1++sg) (b:=w2) (by rw[PB];omega),adS (a:= "if ") (b:=w1++sg++w2) (by rw[PB,PB];omega),adS (a:= "if "++(w1++sg++w2)) (b:= " ") (by rw[PB,PB,PB];omega),adS (a:= "if "++(w1++sg++w2)++ " ") (b:=one) (by rw[PB,PB,PB,PB];omega),adS (a:= "if "++(w1++sg++w2)++ " "++one) (b:= " else ") (by rw[PB,PB,PB,PB,PB];omega),adS (a:= "if "++(w1++sg++w2)++ " "++one++ " else ") (b:=one) (by rw[PB,PB,PB,PB,PB,PB];omega)]
  ·refine⟨.iff s w1 e1 w2 e2 one other,?_,rfl,⟨⟨hs,g1.w,g2.w,nm one m1,nm other m2⟩,yG g1.b g2.b,Nat.max_le.mpr ⟨g1.d,g2.d⟩⟩,λx hx=>by rcases FC.mp hx with rfl|hx;exact m1;rw[FZ.mp hx];exact m2⟩;rw[tx];simp! only[aa,tx7,tx8,tx9,Qi,eL,ah N0,ah (show (0:Int)<8 by decide),ah (show (0:Int)<2 by decide),bW (show (0:Int)<8 by decide) ↥_,i1,i2,decide_eq_false c2,decide_eq_false c5,decide_eq_false c6,decide_eq_false c7,es,LN,yx,ct01,ad21,ew1,ew2,adS (a:=w1) (b:=sg) ∅,adS (a:=w1++sg) (b:=w2) (by rw[PB];omega),adS (a:= "if ") (b:=w1++sg++w2) (by rw[PB,PB];omega),adS (a:= "if "++(w1++sg++w2)) (b:= " ") (by rw[PB,PB,PB];omega),adS (a:= "if "++(w1++sg++w2)++ " ") (b:=one) (by rw[PB,PB,PB,PB];omega),adS (a:= "if "++(w1++sg++w2)++ " "++one) (b:= " else ") (by rw[PB,PB,PB,PB,PB];omega),adS (a:= "if "++(w1++sg++w2)++ " "++one++ " else ") (b:=other) (by rw[PB,PB,PB,PB,PB,PB];omega)]
noncomputable def nmA:List Str:=["a", "b", "c", "d", "e", "f", "g", "h", "i", "j"]
noncomputable def nmB:List Str:=["top", "t", "ab", "a", "zed", "n", "nn", "out", "mid", "x"]
noncomputable def nmL (i:Nat):List Str:=[nmA,nmB,nmA.reverse,nmB.reverse].getD i []
theorem Cf: ∀i,i<4->(nmL i).length=10/\(nmL i).all aO=true/\(nmL i).Nodup:=⋯
theorem xm (x:Int):dC [.int x]=pr (.tl ((nmL (x % 4).toNat).map W.str)):=by
 have e0:dC [.int x]=bd (eF [some (.int x),none,none]) Mb:=rfl;rw[e0];unfold eF;have a0:=Gq x (show (4:Int)≠0 by decide);have a1:=Gn x (show (0:Int)<4 by decide);have rv: ∀l:List W,ON (.tl l) (some (-1))=pr (.tl l.reverse):=λl=>rfl;have ix:ixW (.tl [.tl (nmA.map W.str),.tl (nmB.map W.str),.tl (nmA.map W.str).reverse,.tl (nmB.map W.str).reverse]) (.int (x % 4))=pr (.tl ((nmL (x % 4).toNat).map W.str)):=by
  rw[<-IM,<-IM];exact bU (hJ (λl:List Str=>W.tl (l.map W.str)) [nmA,nmB,nmA.reverse,nmB.reverse] [] a0 a1)
 have ea:[W.str "a",W.str "b",W.str "c",W.str "d",W.str "e",W.str "f",W.str "g",W.str "h",W.str "i",W.str "j"]=nmA.map W.str:=rfl;have eb:[W.str "top",W.str "t",W.str "ab",W.str "a",W.str "zed",W.str "n",W.str "nn",W.str "out",W.str "mid",W.str "x"]=nmB.map W.str:=rfl;simp!;rw[ea,eb];generalize nmA.map W.str=LA at *;generalize nmB.map W.str=LB at *;simp! only[aa,NA,rv,ah (show (0:Int)<4 by decide),ix]
theorem ln12: ∀ {l:List Int},l.length=12-> ∃a b c d e f g h i j k m,l=[a,b,c,d,e,f,g,h,i,j,k,m]
 |[a,b,c,d,e,f,g,h,i,j,k,m],_=>⟨a,b,c,d,e,f,g,h,i,j,k,m,rfl⟩
theorem ln4': ∀ {l:List Int},l.length=4-> ∃a b c d,l=[a,b,c,d]
 |[a,b,c,d],_=>⟨a,b,c,d,rfl⟩
structure BtL (ns:List Str)(b:Bt):Prop where
 g:BtG bn2 ns b
 l:b.ss.length<=2
 d:(∀r∈b.ss,r.dep<=5)/\b.e.dep<=5
noncomputable def bT:La->M Fl:=(O9 (Pa 6 (Nn (arW 2 bq) (Np (Nn (arW 2 bG) (Np (NE 0) (Np (m2 Lr ⇑1 (NE 5)) Nx))) (Np ⇑12 Nx)))) (O9 (sEx (Nu isL aV (NE 4) (Np (m2 Lr ⇑"block " (m2 ixW (NE 3) (NE 5))) Nx))) (O9 (sIf (mB (m2 gtW (m2 NJ (m2 ixW (NE 6) ⇑0) ⇑3) ⇑0)) (sEx (Nu isL aV (NE 4) (Np (Nn (arW 1 bu) (Np (m3 slW (NE 6) (Nz ⇑1) (Nz ⇑4)) Nx)) Nx))) O6) (O9 (sIf (mB (m2 gtW (m2 NJ (m2 ixW (NE 6) ⇑0) ⇑3) ⇑1)) (sEx (Nu isL aV (NE 4) (Np (Nn (arW 1 bu) (Np (m3 slW (NE 6) (Nz ⇑4) (Nz ⇑7)) Nx)) Nx))) O6) (sEx (Nu isL aV (NE 4) (Np (Nn (arW 2 fJ) (Np (NE 6) (Np (NE 3) Nx))) Nx)))))))
theorem kR:gj=(O9 (Pa 2 (Nn (arW 2 bq) (Np (Nn (arW 2 bG) (Np (NE 0) (Np ⇑0 Nx))) (Np ⇑4 Nx)))) (O9 (Pa 3 (m3 slW (Nn (arW 1 dC) (Np (m2 ixW (NE 2) ⇑0) Nx)) ai (Nz (m2 Lr ⇑1 (m2 NJ (m2 ixW (NE 2) ⇑1) (NE 1)))))) (O9 (Pa 4 (Nv (M8 (Np (m2 Lr ⇑"box n " (Nn PZ (Np (m2 NJ (m2 ixW (NE 2) ⇑2) ⇑3) Nx))) (Np (m2 Lr ⇑"box nn " (Nn PZ (Np (m2 NJ (m2 ixW (NE 2) ⇑3) ⇑4) Nx))) Nx))))) (O9 (O4 (NC (Np (Nn Na (Np (NE 3) Nx)) Nx) OO) (tgN 5) bT) (O7 (Nu isS MP ⇑"\n" (Np (NE 4) Nx))))))):=rfl
theorem AL (sc:List Int){ns:List Str}{k:Nat}{nm:Str}(hk:ns[k]?=some nm)(l2:ns.length<=10)(na: ∀x∈ns,aO x=true): ∃b:Bt,b.nm=nm/\BtL ns b/\ ∀ (h:List Ob) (j:Nat) (L:List Str) (a mo hd:Option W),h[j]?=some (.lst (L.map W.str))->L.length<=200->
  Ok (bT [some (.cl (sc.map W.int)),mo,hd,some (.tl (ns.map W.str)),some (.loc j),some (.int (0+(k:Int))),a]) h λx h'=>(∃a',x=.nx [some (.cl (sc.map W.int)),mo,hd,some (.tl (ns.map W.str)),some (.loc j),some (.int (0+(k:Int))),a'])/\h'[j]?=some (.lst ((L++b.rows.map Rr.tx).map W.str))/\(∀i,i<h.length->i≠j->h'[i]?=h[i]?)/\h.length<=h'.length:=by
 obtain⟨c,ec⟩:=oK sc (1+(0+(k:Int))) ∅;obtain⟨x0,x1,x2,x3,x4,x5,x6,x7,x8,x9,x10,x11,ex⟩:=ln12 (g7 c 12);have hl:=(FO.mp hk).1;obtain⟨R1,es1,st1,g1⟩:=vX x1 x2 x3;obtain⟨R2,es2,st2,g2⟩:=vX x4 x5 x6;obtain⟨R,ee,en,g,to⟩:=Aj x0 x1 x2 x3 x4 x5 x6 x7 x8 x9 x10 x11 (ns:=ns) ∅ l2 na;have nm1:=na nm (F9 hk);have nl:=(bS nm1).len;have v0:=Gq x0 (show (3:Int)≠0 by decide);have v1:=Gn x0 (show (0:Int)<3 by decide);have ik:ixW (.tl (ns.map W.str)) (.int (0+(k:Int)))=pr (.str nm):=bU (aQ ∅ (by rw[FG,show (0+(k:Int)).toNat=k by omega,hk];rfl));have kb:("block ":Str).length=6:=M3.2.2.2.2.2.2.2.2;have ss: ∀ {h:List Ob}{j:Nat}{L:List Str}{z:Str}{β:Type}{k:W->M β}{Q:β->List Ob->Prop},h[j]?=some (.lst (L.map W.str))->L.length<=300->(∀h',h'[j]?=some (.lst ((L++[z]).map W.str))->(∀i,i≠j->h'[i]?=h[i]?)->h'.length=h.length->Ok (k .non) h' Q)->Ok (bd (aV (.loc j) [.str z]) k) h Q:=λ{h j L z β k Q} e l q=>by
  refine dI e (by rw[Fx];exact Gm l ↥_) (q _ ?_ (λi hi=>FR (Ne.symm hi)) (Go ..));rw[cU e,Fz];rfl
 refine⟨⟨nm,if x0 % 3=0 then [] else if x0 % 3=1 then [R1] else [R1,R2],R⟩,rfl,⟨⟨nm1,?_,?_,⟨en,g.ok,g.b,to⟩⟩,?_,?_,g.d⟩,λh j L a mo hd ej lL=>?_⟩
 ·show (if x0 % 3=0 then [] else if x0 % 3=1 then [R1] else [R1,R2]).length<=8;split
  ·simp
  ·split<;>simp
 ·intro r hr;have hr:r∈(if x0 % 3=0 then [] else if x0 % 3=1 then [R1] else [R1,R2]):=hr;have two:r∈[R1,R2]->r.stm=true/\r.Ok/\ ∀x∈r.bxs,x∈bn2:=λhm=>by
   rcases FC.mp hm with rfl|hm
   ·exact⟨st1,g1.ok,g1.b⟩
   ·rw[FZ.mp hm];exact⟨st2,g2.ok,g2.b⟩
  split at hr
  ·exact absurd hr Ga
  ·split at hr
   ·exact two (by rw[FZ.mp hr];exact FI)
   ·exact two hr
 ·show (if x0 % 3=0 then [] else if x0 % 3=1 then [R1] else [R1,R2]).length<=2;split
  ·simp
  ·split<;>simp
 ·intro r hr;have hr:r∈(if x0 % 3=0 then [] else if x0 % 3=1 then [R1] else [R1,R2]):=hr;have two:r∈[R1,R2]->r.dep<=5:=λhm=>by
   rcases FC.mp hm with rfl|hm
   ·exact g1.d
   ·rw[FZ.mp hm];exact g2.d
  split at hr
  ·exact absurd hr Ga
  ·split at hr
   ·exact two (by rw[FZ.mp hr];exact FI)
   ·exact two hr
 unfold bT;have em:(NV c 12).map W.int=[.int x0,.int x1,.int x2,.int x3,.int x4,.int x5,.int x6,.int x7,.int x8,.int x9,.int x10,.int x11]:=by rw[ex];rfl
 simp! only[aa,ec];refine aI (j4 (n:=12) rfl ↥_) λw h1 qq_=>?_;obtain⟨ew,F⟩:=qq_;subst ew;rw[em];have e1:h1[j]?=some (.lst (L.map W.str)):=(F.eq j (dg ej)).trans ej;have bt:=yL nm;simp!;refine cn e1 ?_;simp! only[aa,ik,adS (a:= "block ") (b:=nm) ∅];rw[<-bt];refine ss e1 ∅ λh2 e2 f2 l2'=>?_;have lL2:(L++[(Rr.block nm).tx]).length<=201:=by rw[FE,Gc];omega
 by_cases c0:x0 % 3=0
 ·simp! only[aa,tx0,ah (show (0:Int)<3 by decide),decide_eq_false (show¬(0:Int)<x0 % 3 by omega),decide_eq_false (show¬(1:Int)<x0 % 3 by omega)];refine cn e2 ?_;simp! only[aa,ee];refine ss e2 ∅ λh3 e3 f3 l3=>?_;simp!;refine ae ⟨⟨_,rfl⟩,?_,λi hi hj=>?_,?_⟩
  ·rw[e3,if_pos c0,Gb];rfl
  ·rw[f3 i hj,f2 i hj];exact F.eq i hi
  ·rw[l3,l2'];exact F.le
 by_cases c1:x0 % 3=1
 ·simp! only[aa,tx0,ah (show (0:Int)<3 by decide),decide_eq_true (show (0:Int)<x0 % 3 by omega),decide_eq_false (show¬(1:Int)<x0 % 3 by omega)];refine cn e2 ?_;simp! only[aa,ct14,es1];refine ss e2 ∅ λh3 e3 f3 l3=>?_;simp! only[aa,tx0,ah (show (0:Int)<3 by decide),decide_eq_false (show¬(1:Int)<x0 % 3 by omega)];refine cn e3 ?_;simp! only[aa,ee];refine ss e3 (by rw[FE,Gc];omega) λh4 e4 f4 l4=>?_;simp!;refine ae ⟨⟨_,rfl⟩,?_,λi hi hj=>?_,?_⟩
  ·rw[e4,if_neg c0,if_pos c1,Gb,Gb];rfl
  ·rw[f4 i hj,f3 i hj,f2 i hj];exact F.eq i hi
  ·rw[l4,l3,l2'];exact F.le
 ·simp! only[aa,tx0,ah (show (0:Int)<3 by decide),decide_eq_true (show (0:Int)<x0 % 3 by omega),decide_eq_true (show (1:Int)<x0 % 3 by omega)];refine cn e2 ?_;simp! only[aa,ct14,es1];refine ss e2 ∅ λh3 e3 f3 l3=>?_;simp! only[aa,tx0,ah (show (0:Int)<3 by decide),decide_eq_true (show (1:Int)<x0 % 3 by omega)];refine cn e3 ?_;simp! only[aa,ct47,es2];refine ss e3 (by rw[FE,Gc];omega) λh4 e4 f4 l4=>?_;simp!;refine cn e4 ?_;simp! only[aa,ee];refine ss e4 (by rw[FE,FE,Gc,Gc];omega) λh5 e5 f5 l5=>?_;simp!;refine ae ⟨⟨_,rfl⟩,?_,λi hi hj=>?_,?_⟩
  ·rw[e5,if_neg c0,if_neg c1,Gb,Gb,Gb];rfl
  ·rw[f5 i hj,f4 i hj,f3 i hj,f2 i hj];exact F.eq i hi
  ·rw[l5,l4,l3,l2'];exact F.le
theorem qb {α:Type}(l:List α){v:Int}(h0:0<=v):LP l none (some v)=l.take v.toNat:=by
 unfold LP;show List.take ((if v<0 then (v+(l.length:Int)).toNat else min v.toNat l.length) - 0) (l.drop 0)=_;rw[if_neg ∅,HG,Nat.sub_zero];by_cases h:v.toNat<=l.length
 ·rw[Nat.min_eq_left h]
 ·rw[Nat.min_eq_right ∅,FS,Ir ∅]
theorem yJ (x v:Str):(Rr.box x v).tx= "box"++⟨#[32]⟩++(x++⟨#[32]⟩++v):=rfl
theorem EK:("box n ":Str)= "box"++⟨#[32]⟩++("n"++⟨#[32]⟩)/\("box nn ":Str)= "box"++⟨#[32]⟩++("nn"++⟨#[32]⟩)/\("box n ":Str).length=6/\("box nn ":Str).length=7:=⋯
theorem tW: ∀m,m<4->NT (Ma.getD m "")=true:=⋯
theorem Lz:aO "n"=true/\aO "nn"=true/\(["n", "nn"]:List Str).Nodup:=⋯
structure TxG (most:Nat)(bx:List (Str×Str))(bl:List Bt):Prop where
 g:PtxG bx bl
 b: ∀b∈bl,BtL (bl.map Bt.nm) b
 n:bx.map (·.1)=bn2
 l:bl.length<=most
theorem yV (sc:List Int){most:Nat}{MM:Int}(hM:MM=(most:Int))(m1:1<=most)(m2:most<=10): ∃bx bl,TxG most bx bl/\ ∀h:List Ob,Ok (d2 [.cl (sc.map W.int),.int MM]) h λw h'=>w=.str (Qe (pgR bx bl))/\Fo h.length h h':=by
 obtain⟨c,ec⟩:=oK sc 0 ∅;obtain⟨y0,y1,y2,y3,ey⟩:=ln4' (g7 c 4);have i0:=Gq y0 (show (4:Int)≠0 by decide);have i1:=Gn y0 (show (0:Int)<4 by decide);obtain⟨nl,na,nd⟩:=Cf (y0 % 4).toNat ∅;have na:=Gf.mp na;have v0:=Gq y1 (show MM≠0 by omega);have v1:=Gn y1 (show 0<MM by omega);have hn:=xm y0;obtain⟨ns,hns⟩: ∃ns,ns=(nmL (y0 % 4).toNat).take (1+y1 % MM).toNat:=⟨_,rfl⟩
 have ln:ns.length=(1+y1 % MM).toNat:=by rw[hns,Gk,nl];omega
 have nn: ∀x∈ns,aO x=true:=λx hx=>by rw[hns] at hx;exact na x (HX hx)
 have ndn:ns.Nodup:=by rw[hns];exact nd.sublist (IU _ _)
 have sl:slW (.tl ((nmL (y0 % 4).toNat).map W.str)) none (some (1+y1 % MM))=pr (.tl (ns.map W.str)):=by
  rw[slW_tl,qb _ ∅,<-List.map_take,<-hns]
 generalize nmL (y0 % 4).toNat=NL at *;have s0:=Gq y2 (show (3:Int)≠0 by decide);have s1:=Gn y2 (show (0:Int)<3 by decide);have t0:=Gq y3 (show (4:Int)≠0 by decide);have t1:=Gn y3 (show (0:Int)<4 by decide);have sv:=st4 s0 (show y2 % 3<4 by omega);have tv:=st4 t0 t1;have n2:=tW (y2 % 3).toNat ∅;have n3:=tW (y3 % 4).toNat ∅;have l2:=la (y2 % 3).toNat ∅;have l3:=la (y3 % 4).toNat ∅;generalize Ma.getD (y2 % 3).toNat ""=f2 at *;generalize Ma.getD (y3 % 4).toNat ""=f3 at *;have bo: ∀k:Nat,∃b:Bt,∀nm,ns[k]?=some nm->b.nm=nm/\BtL ns b/\ ∀ (h:List Ob) (j:Nat) (L:List Str) (a mo hd:Option W),h[j]?=some (.lst (L.map W.str))->L.length<=200->
  Ok (bT [some (.cl (sc.map W.int)),mo,hd,some (.tl (ns.map W.str)),some (.loc j),some (.int (0+(k:Int))),a]) h λx h'=>(∃a',x=.nx [some (.cl (sc.map W.int)),mo,hd,some (.tl (ns.map W.str)),some (.loc j),some (.int (0+(k:Int))),a'])/\h'[j]?=some (.lst ((L++b.rows.map Rr.tx).map W.str))/\(∀i,i<h.length->i≠j->h'[i]?=h[i]?)/\h.length<=h'.length:=λk=>by
  cases e:ns[k]? with
  |none=>exact⟨⟨"",[],.stop⟩,λnm h=>by cases h⟩
  |some nm=>
   obtain⟨b,q⟩:=AL sc e ∅ nn;exact⟨b,λnm' h=>by cases h;exact q⟩
 obtain⟨F,hF⟩:=Classical.axiomOfChoice bo;have gF: ∀k,k<ns.length-> ∃nm,ns[k]?=some nm:=λk hk=>⟨_,F4 hk⟩
 have enm:((List.range ns.length).map F).map Bt.nm=ns:=by
  apply IA;intro k;rw[Gg,FG];by_cases hk:k<ns.length
  ·obtain⟨nm,e⟩:=gF k hk;rw[Jl hk,e];exact congrArg some (hF k nm e).1
  ·rw[HY (by rw[HW];omega),HY ∅];rfl
 have all: ∀b∈(List.range ns.length).map F,BtL ns b:=λb hb=>by
  obtain⟨k,hk,rfl⟩:=FW.mp hb;obtain⟨nm,e⟩:=gF k (GQ.mp hk);exact (hF k nm e).2.1
 have lbl:((List.range ns.length).map F).length=ns.length:=by rw[Fx,HW]
 refine⟨[("n",f2),("nn",f3)],(List.range ns.length).map F,⟨⟨λx hx=>?_,Lz.2.2,⇑_,by rw[enm];exact ndn,by rw[lbl];omega,by rw[lbl];omega,λb hb=>by rw[enm];exact (all b hb).g⟩,λb hb=>by rw[enm];exact all b hb,rfl,by rw[lbl];omega⟩,λh=>?_⟩
 ·rcases FC.mp hx with rfl|hx
  ·exact⟨Lz.1,n2⟩
  ·rw[FZ.mp hx];exact⟨Lz.2.1,n3⟩
 have e0:d2 [.cl (sc.map W.int),.int MM]=bd (gj [some (.cl (sc.map W.int)),some (.int MM),none,none,none,none,none]) Mb:=rfl;rw[e0,kR];have em:(NV c 4).map W.int=[.int y0,.int y1,.int y2,.int y3]:=by rw[ey];rfl
 simp! only[aa,ec];refine aI (j4 (n:=4) rfl ↥_) λw h1 qq_=>?_;obtain⟨ew,F1⟩:=qq_;subst ew;rw[em];obtain⟨kb1,kb2,kb3,kb4⟩:=EK;obtain⟨N,hN⟩: ∃N:Int,N=(ns.length:Int):=⟨_,rfl⟩
 have eL:Na [.tl (ns.map W.str)]=pr (.int N):=by rw[lenW_tl,Fx,hN]
 have eN:N.toNat=ns.length:=∅;obtain⟨NW,hNW⟩: ∃NW,NW=W.tl (ns.map W.str):=⟨_,rfl⟩
 rw[<-hNW] at sl eL;simp! only[aa,tx0,tx1,tx2,tx3,hn,ah (show 0<MM by omega),ah (show (0:Int)<3 by decide),ah (show (0:Int)<4 by decide),sl,sv,tv,adS (a:= "box n ") (b:=f2) ∅,adS (a:= "box nn ") (b:=f3) ∅];refine f7 ?_;simp! only[aa,eL,kK (show (-(2 ^ 62):Int)<=N by omega) (show N<2 ^ 62 by omega)];have b1: "box n "++f2=(Rr.box "n" f2).tx:=by rw[yJ,kb1];simp only[Pe]
 have b2: "box nn "++f3=(Rr.box "nn" f3).tx:=by rw[yJ,kb2];simp only[Pe]
 rw[b1,b2];obtain⟨T1,hT1⟩: ∃T,T=(Rr.box "n" f2).tx:=⟨_,rfl⟩
 obtain⟨T2,hT2⟩: ∃T,T=(Rr.box "nn" f3).tx:=⟨_,rfl⟩
 rw[<-hT1,<-hT2];have rl: ∀i,i<=ns.length->([T1,T2]++(((List.range i).map F).flatMap Bt.rows).map Rr.tx).length<=2+4 * i:=λi hi=>by
  rw[FE,Fx];show 2+_<=_;have: ∀i,i<=ns.length->(((List.range i).map F).flatMap Bt.rows).length<=4 * i:=λi=>by
   induction i with
   |zero=>intro _;simp
   |succ i ih=>
    intro hi;have ih:=ih ∅;rw[Hc,Fz,Hs,FE];obtain⟨nm,e⟩:=gF i ∅;have:=(hF i nm e).2.1.l;have:((List.map F [i]).flatMap Bt.rows).length=(F i).ss.length+2:=by
     show ((F i).rows++[]).length=_;rw[Gd];unfold Bt.rows;rw[FH,FE];rfl
    omega
  have:=this i hi;omega
 have hg0:(h1++[Ob.lst [.str T1,.str T2]])[h1.length]?=some (.lst (([T1,T2]++(((List.range 0).map F).flatMap Bt.rows).map Rr.tx).map W.str)):=ga;have hg1:h1.length<=(h1++[Ob.lst [.str T1,.str T2]]).length:=by rw[FE];omega
 refine cp (I:=λi ρ h'=> ∃a b,ρ=[some (.cl (sc.map W.int)),some (.int MM),some (.tl [.int y0,.int y1,.int y2,.int y3]),some NW,some (.loc h1.length),a,b]/\h'[h1.length]?=some (.lst (([T1,T2]++(((List.range i).map F).flatMap Bt.rows).map Rr.tx).map W.str))/\(∀i,i<h1.length->h'[i]?=h1[i]?)/\h1.length<=h'.length) ⟨none,none,rfl,hg0,λi hi=>Gr hi,hg1⟩ (λ_ _ _ _=>trivial) (λi w ρ h2 hw I=>?_) λρ h2 I=>?_
 ·obtain⟨a,b,rfl,q1,q2,q3⟩:=I;obtain⟨rfl,hi⟩:=cJ _ _ _ _ hw;rw[eN] at hi;obtain⟨nm,e⟩:=gF i hi;obtain⟨_,_,bk⟩:=hF i nm e;have r:=rl i ∅;rw[<-hNW] at bk;refine⟨_,rfl,(bk h2 h1.length _ b _ _ q1 ∅).imp λx h3 qz=>?_⟩;obtain⟨⟨a',ex⟩,p1,p2,p3⟩:=qz;refine⟨_,ex,_,_,rfl,?_,λi hi=>(p2 i ∅ ∅).trans (q2 i hi),∅⟩;have e1:((List.range (i+1)).map F).flatMap Bt.rows=((List.range i).map F).flatMap Bt.rows++(F i).rows:=by
   rw[Hc,Fz,Hs];show _++((F i).rows++[])=_;rw[Gd]
  rw[p1,e1,Gb,<-Fz (f:=Rr.tx)]
 ·obtain⟨a,b,rfl,q1,q2,q3⟩:=I;rw[cB,eN] at q1;have r:=rl ns.length (Fy _);have et:[T1,T2]++(((List.range ns.length).map F).flatMap Bt.rows).map Rr.tx=(pgR [("n",f2),("nn",f3)] ((List.range ns.length).map F)).map Rr.tx:=by
   unfold pgR;rw[Fz,hT1,hT2];rfl
  rw[et] at q1 r;have lens: ∀z∈(pgR [("n",f2),("nn",f3)] ((List.range ns.length).map F)).map Rr.tx,z.length<=600:=λz hz=>by
   obtain⟨R,hR,rfl⟩:=FW.mp hz;unfold pgR at hR;rcases Gw.mp hR with hR|hR
   ·obtain⟨x,hx,rfl⟩:=FW.mp hR;rcases FC.mp hx with rfl|hx
    ·exact Rr.Ok.len (r:=.box "n" f2) ⟨Lz.1,n2⟩
    ·rw[FZ.mp hx];exact Rr.Ok.len (r:=.box "nn" f3) ⟨Lz.2.1,n3⟩
   ·obtain⟨b,hb,hR⟩:=HZ.mp hR;have gb:=(all b hb).g;rcases FC.mp hR with rfl|hR
    ·exact Rr.Ok.len (r:=.block b.nm) gb.nm
    ·rcases Gw.mp hR with hR|hR
     ·exact (gb.s _ hR).2.1.len
     ·rw[FZ.mp hR];exact gb.e.2.1.len
  have sm: ∀ {l:List Str},(∀z∈l,z.length<=600)->(l.map (·.length)).sum<=600 * l.length:=λ{l} h=>by
   induction l with
   |nil=>simp
   |cons z l ih=>
    have a:=h z FI;have b:=ih λz hz=>h z (FV _ hz);rw[FK,Ho,FH,IK];omega
  have sm:=sm lens;have hr:Qe (pgR [("n",f2),("nn",f3)] ((List.range ns.length).map F))=Str.join "\n" ((pgR [("n",f2),("nn",f3)] ((List.range ns.length).map F)).map Rr.tx):=by rw[xh];rfl
  rw[hr];generalize (pgR [("n",f2),("nn",f3)] ((List.range ns.length).map F)).map Rr.tx=TS at *;have jl:("\n":Str).length=1:=by rw[xh];rfl
  have jw:MP (.str "\n") [.loc h1.length] h2=.ok (.str (Str.join "\n" TS)) h2:=by
   show bd (Nj (.loc h1.length)) _ h2=_;rw[dE (lh q1),jc (f:=sOf) (g:=W.str) (λa=>rfl)];exact congrFun (af (sz (by rw[jl];omega))) h2
  simp!;refine aR jw ?_;simp!;exact ae ⟨rfl,λi hi=>(q2 i (F8 hi F1.le)).trans (F1.eq i hi),F6 F1.le q3⟩
end
section
open Wd
theorem Pw:(KP.strOk "n"=true/\KP.strOk "nn"=true)/\(KP.strOk "+"=true/\KP.strOk "-"=true/\KP.strOk "*"=true)/\(KP.strOk "say"=true/\KP.strOk "ask"=true/\KP.strOk "put"=true)/\KP.strOk "<"=true/\KP.strOk "="=true:=⋯
theorem v8 {x:Str}(h:x∈bn2):KP.strOk x=true:=by
 rcases FC.mp h with rfl|h
 ·exact Pw.1.1
 ·rw[FZ.mp h];exact Pw.1.2
theorem iO: ∀ (n:Nat) (e:Exp),L1 e+2<=n->L4 e=true->(∀x∈L3 e,x∈bn2)->Pd n (L5 e)
 |0,_,h,_,_=>∅
 |1,_,h,_,_=>∅
 |n+2,.num i,_,_,_=>pd2i uI
 |n+2,.box x,_,_,b=>pd2s Cc (v8 (b x FI))
 |n+2,.bin s l r,h,k,b=>by
  have h:1+max (L1 l) (L1 r)+2<=n+2:=h;have k:(decide (s∈(["+", "-", "*"]:List Str)) && (L4 l && L4 r))=true:=k;rw[F7,F7,decide_eq_true_eq] at k;have sk:KP.strOk s=true:=by
   have:=k.1;simp only[FC,Ga,or_false] at this;rcases this with rfl|rfl|rfl
   ·exact Pw.2.1.1
   ·exact Pw.2.1.2.1
   ·exact Pw.2.1.2.2
  exact pdT ⇑_ (bf (.str sk) (bf (iO (n+1) l ∅ k.2.1 λx hx=>b x (Hj _ hx)) (bf (iO (n+1) r ∅ k.2.2 λx hx=>b x (GA _ hx)) gW)))
theorem AD {ns:List Str}{r:Rr}{N:Int}(hN:N=(ns.length:Int))(q:r.end'=true)(g:r.Ok)(b:∀x∈r.bxs,x∈bn2)(d:r.dep<=5)(to: ∀x∈r.tos,x∈ns):(r.en ns).Good N:=by
 have ix: ∀x,x∈ns->(0:Int)<=((MJ ns x:Nat):Int)/\((MJ ns x:Nat):Int)<N:=λx hx=>by
  have:=(mX hx).2;omega
 cases r with
 |go nm=>exact ix nm (to nm FI)
 |iff s z1 e1 z2 e2 x y=>
  obtain⟨g1,g2,g3,g4,g5⟩:=g;have d:max (L1 e1) (L1 e2)<=5:=d;refine⟨ix x (to x FI),ix y (to y (FV _ FI)),iO 8 e1 ∅ g2.ok λx hx=>b x (Hj _ hx),iO 8 e2 ∅ g3.ok λx hx=>b x (GA _ hx),?_⟩;rcases g1 with rfl|rfl
  ·exact Pw.2.2.2.1
  ·exact Pw.2.2.2.2
 |table z e xs=>
  obtain⟨g1,g2,g3,g4⟩:=g;have d:L1 e<=5:=d;refine⟨by show (xs.map _).length<=6;rw[Fx];exact g3,λt ht=>?_,iO 8 e ∅ g1.ok b⟩;have ht:t∈xs.map λx=>((MJ ns x:Nat):Int):=ht;obtain⟨x,hx,rfl⟩:=FW.mp ht;exact ix x (to x hx)
 |stop=>trivial
 |_=>cases q
theorem Bo {r:Rr}(q:r.stm=true)(g:r.Ok)(b:∀x∈r.bxs,x∈bn2)(d:r.dep<=5): ∃ (z:Str) (l:List W),r.form=.tup (.str z::l)/\(z= "say"\/z= "ask"\/z= "put")/\Pd 9 r.form:=by
 obtain⟨k1,k2,k3⟩:=Pw.2.2.1;cases r with
 |put nm z e=>
  have d:L1 e<=5:=d;exact⟨"put",_,rfl,.inr (.inr rfl),pdT (n:=8) ⇑_ (bf (.str k3) (bf (.str (v8 (b nm FI))) (bf (iO 8 e ∅ g.2.ok λx hx=>b x (FV _ hx)) gW)))⟩
 |say z e=>
  have d:L1 e<=5:=d;exact⟨"say",_,rfl,.inl rfl,pdT (n:=8) ⇑_ (bf (.str k1) (bf (iO 8 e ∅ g.ok b) gW))⟩
 |ask nm=>exact⟨"ask",_,rfl,.inr (.inl rfl),pd2s k2 (v8 (b nm FI))⟩
 |_=>cases q
end
section
noncomputable def Qj (n:Nat):List Int:=(List.range n).map λ(r:Nat)=>1+(r:Int)
theorem oX (n:Nat):(Qj n).length=n:=by unfold Qj;simp
theorem addT (a:W)(l m:List W)(h:l.length+m.length<=100):Lr (.tup (a::l)) (.tup m)=pr (.tup (a::(l++m))):=by
 show gd ((a::l).isEmpty=false/\(a::l).length+m.length<=sizeLine) (pr (W.tup ((a::l)++m)))=_;rw[af ⟨rfl,sz (by rw[FH];omega)⟩];rfl
theorem rN (n:Nat):Mw 1 n=(Qj n).map W.int:=by
 apply IA;intro i;by_cases hi:i<n
 ·obtain⟨w,hw⟩: ∃w,(Mw 1 n)[i]?=some w:=⟨_,F4 (by rw[cB];exact hi)⟩
  obtain⟨rfl,_⟩:=cJ _ _ _ _ hw;rw[hw];unfold Qj;rw[Gg,FG,Jl hi];rfl
 ·rw[HY (by rw[cB];omega),HY (by rw[Fx,oX];omega)]
theorem slos {os:List Int}(h:1<=os.length):slW (.tup (os.map W.int)) (some 1) none=pr (.tup (os.tail.map W.int)):=by
 show gd (¬(HT.sIx (os.map W.int).length 0 (some 1)=0/\HT.sIx (os.map W.int).length (os.map W.int).length none=(os.map W.int).length)) (pr (W.tup (LP (os.map W.int) (some 1) none)))=_;have s1:HT.sIx (os.map W.int).length 0 (some 1)=1:=by
  show (if (1:Int)<0 then ((1:Int)+((os.map W.int).length:Int)).toNat else min (1:Int).toNat (os.map W.int).length)=1;rw[if_neg ↥_,Fx];show min 1 os.length=1;omega
 rw[af (by rw[s1];omega)];congr 2;unfold LP;rw[s1,show HT.sIx (os.map W.int).length (os.map W.int).length none=(os.map W.int).length from rfl];cases os with
 |nil=>rfl
 |cons a os=>
  rw[FK,List.drop_one,List.tail_cons,List.tail_cons,FH,Jm,FS]
end
section
theorem Fd:decide (("if":Str)= "go")=false:=⋯
theorem Fe:decide (("go":Str)= "table")=false:=⋯
theorem Fc:decide (("if":Str)= "table")=false:=⋯
theorem E8:decide (("table":Str)= "go")=false:=⋯
theorem E7:decide (("table":Str)= "if")=false:=⋯
theorem Fb:decide (("stop":Str)= "go")=false:=⋯
theorem E9:decide (("stop":Str)= "if")=false:=⋯
theorem DX:decide (("stop":Str)= "table")=false:=⋯
noncomputable def E17.tos:E17->List Int
 |.go t=>[t]
 |.iff _ _ _ x y=>[x,y]
 |.table _ ts=>ts
 |.stop=>[]
noncomputable def E17.tab:E17->Bool
 |.table _ _=>true
 |_=>false
theorem E17.Good.six {m:Int}{e:E17}(g:e.Good m):e.tos.length<=6:=by
 cases e with
 |go t=>show ([t]:List Int).length<=6;simp
 |iff s a b x y=>show ([x,y]:List Int).length<=6;simp
 |table e ts=>exact g.1
 |stop=>exact FY _
structure B23 where
 nm:Str
 s:List W
 e:E17
noncomputable def B23.w (b:B23):W:=.tup [.str b.nm,.tl b.s,b.e.w]
noncomputable abbrev Way:=Int×Int×Int
noncomputable def Qn (w:Way):W:=.tup [.int w.1,.int w.2.1,.int w.2.2]
noncomputable def eU (k:Int)(ts:List Int):List Way:=ts.zipIdx.map λp=>(k,(p.2:Int),p.1)
noncomputable def Qo (es:List E17):List Way:=es.zipIdx.flatMap λp=>eU p.2 p.1.tos
theorem qK (k:Int)(ts:List Int)(t:Int):eU k (ts++[t])=eU k ts++[(k,(ts.length:Int),t)]:=by
 unfold eU;rw[Jn,Fz];simp
theorem mH (k:Int)(ts:List Int):(eU k ts).length=ts.length:=by unfold eU;simp
theorem mr (es:List E17)(e:E17):Qo (es++[e])=Qo es++eU es.length e.tos:=by
 unfold Qo;rw[Jn,Hs];simp
theorem gN (es:List E17)(h:∀e∈es,e.tos.length<=6): ∀n,n<=es.length->(Qo (es.take n)).length<=6 * n
 |0,_=>by rw[HE];exact Fy _
 |n+1,hn=>by
  have ih:=gN es h n ∅;have e1:es[n]?=some es[n]:=F4 ∅;have h6:=h _ (F9 e1);rw[show es.take (n+1)=es.take n++[es[n]] by rw[GP,e1];rfl,mr,FE,mH];omega
theorem oV {w:Way}(h:w∈Qo es): ∃e,es[w.1.toNat]?=some e/\0<=w.1/\w.2.2∈e.tos:=by
 unfold Qo at h;obtain⟨⟨e,i⟩,hp,hw⟩:=HZ.mp h;rw[Jo] at hp;unfold eU at hw;obtain⟨⟨t,n⟩,hq,rfl⟩:=FW.mp hw;rw[Jo] at hq;exact⟨e,hp,Int.natCast_nonneg _,F9 hq⟩
structure Nw (h h':List Ob):Prop where
 le:h.length<=h'.length
 eq: ∀i,i<h.length->h'[i]?=h[i]?
theorem Nw.refl (h:List Ob):Nw h h:=⟨Fy _,λ_ _=>rfl⟩
theorem Nw.trans (x:Nw a b)(y:Nw b c):Nw a c:=⟨F6 x.le y.le,λi hi=>(y.eq i (F8 hi x.le)).trans (x.eq i hi)⟩
theorem Nw.get {j:Nat}(x:Nw h h')(e:h[j]?=some b):h'[j]?=some b:=(x.eq j (dg e)).trans e
structure Nf (h h':List Ob)(b:Ob):Prop where
 len:h'.length=h.length+1
 eq: ∀i,i<h.length->h'[i]?=h[i]?
 new:h'[h.length]?=some b
theorem Nf.put (N:Nf h h' b)(c:Ob):Nf h (h'.set h.length c) c:=
 ⟨by rw[Go];exact N.len,λi hi=>by rw[FR ∅];exact N.eq i hi,cU N.new⟩
theorem Nf.mk0 :Nf h (h++[b]) b:=⟨⇑_,λi hi=>by rw[Gr hi],ga⟩
theorem Nf.nw (N:Nf h h' b):Nw h h':=⟨by rw[N.len];omega,N.eq⟩
theorem Nf.get {j:Nat}(N:Nf h h' b)(e:h[j]?=some c):h'[j]?=some c:=(N.eq j (dg e)).trans e
theorem v9 (e:E17):gv [e.w]=pr (.tup (e.tos.map W.int)):=by
 have e0:gv [e.w]=bd (gf [some e.w]) Mb:=rfl;rw[e0];unfold gf;cases e<;>(unfold E17.w E17.tos;simp! only[aa,ix0,ix1,ix2,ix4,ix5,Fd,E8,E7,Fb,E9,DX,eq_self,decide_true,Qh,FK,Ge])
theorem sx {α:Type}{l:List α}{i:Nat}{x:α}(h:l[i]?=some x):(l.take i).length=i:=by
 have:=(FO.mp h).1;rw[Gk];omega
noncomputable def L0 (bs:List B23):List E17:=bs.map B23.e
noncomputable def pgW (bx:W)(bs:List B23):W:=.tup [bx,.tl (bs.map B23.w)]
theorem Lw.enum {β:Type}{Q:β->List Ob->Prop}{k:Sr->M β}(p:Lw h x l)(q:∀G,(∀h',Lw h' x l->G h')->Ok (k ⟨NU 0 l,G⟩) h Q):Ok (bd (LY [x]) k) h Q:=by
 show Ok (bd (bd (PQ x) λs=>pr ⟨NU 0 s.l,s.G⟩) k) h Q;rw[aa];refine Lw.src p λG g=>?_;rw[aA];exact q G g
theorem rK {β:Type}{k:W->M β}{Q:β->List Ob->Prop}{bs:List B23}(hp:ixW P (.int 1)=pr x)(hx:Lw h x (bs.map B23.w))(hl:bs.length<=10)(hb: ∀b∈bs,b.e.tos.length<=6)(q:∀h',Nw h h'->Ok (k (.tl ((Qo (L0 bs)).map Qn))) h' Q):Ok (bd (iU [P]) k) h Q:=by
 have e0:iU [P]=bd (oC [some P,none,none,none,none,none]) Mb:=rfl;rw[e0];unfold oC;have h6: ∀e∈L0 bs,e.tos.length<=6:=λe he=>by
  obtain⟨b,hb',rfl⟩:=FW.mp he;exact hb b hb'
 simp!;refine f7 ?_;simp! only[aa,hp];refine Lw.enum (hx.keep (Nf.mk0 (h:=h) (b:=.lst [])).nw.eq) λG hG=>?_;simp!;refine cp (I:=λi ρ h'=> ∃a b c d,ρ=[some P,some (.loc h.length),a,b,c,d]/\Nf h h' (.lst ((Qo ((L0 bs).take i)).map Qn))) ⟨_,_,_,_,rfl,Nf.mk0⟩ (λ_ _ _ I=>by obtain⟨_,_,_,_,_,N⟩:=I;exact hG _ (hx.keep N.nw.eq)) (λi w ρ h1 hw I=>?_) λρ h1 I=>?_
 ·obtain⟨a,b,c,d,rfl,N⟩:=I;obtain⟨x',hx',rfl⟩:=g9 _ _ _ _ hw;rw[FG] at hx';obtain⟨b,hp',rfl⟩:=FQ.mp hx';have he:(L0 bs)[i]?=some b.e:=by unfold L0;rw[FG,hp'];rfl
  have t6:=h6 _ (F9 he);have hi:i<bs.length:=(FO.mp hp').1;have hi':i<(L0 bs).length:=(FO.mp he).1;have w6:=gN (L0 bs) h6 i ∅;obtain⟨nm,sts,e⟩:=b;have t6:e.tos.length<=6:=t6;have hs:ixW (B23.w ⟨nm,sts,e⟩) (.int 2)=pr e.w:=ix2 ..;refine⟨_,rfl,?_⟩;simp! only[aa,hs,v9,vh];generalize B23.w ⟨nm,sts,e⟩=B at *;refine oh (I:=λn ρ h'=> ∃c d,ρ=[some P,some (.loc h.length),some (.int (0+(i:Int))),some B,c,d]/\Nf h h' (.lst ((Qo ((L0 bs).take i)++eU i (e.tos.take n)).map Qn))) ⟨_,_,rfl,by rw[HE];show Nf h h1 (.lst ((_++[]).map Qn));rw[Gd];exact N⟩ (λ_ _ _ _=>trivial) (λn w ρ h2 hw I=>?_) λρ h2 I=>?_
  ·obtain⟨c,d,rfl,N2⟩:=I;obtain⟨y,hy,rfl⟩:=g9 _ _ _ _ hw;rw[FG] at hy;obtain⟨t,ht,rfl⟩:=FQ.mp hy;have hn:n<e.tos.length:=(FO.mp ht).1;refine⟨_,rfl,?_⟩;simp!;refine cn N2.new ?_;simp!
   refine dI N2.new (by
    rw[Fx,FE,mH,Gk]
    exact Gm (show _<=66 by omega) ↥_) ?_
   simp!;refine ae ⟨_,rfl,_,_,rfl,?_⟩;rw[am ht,qK,sx ht,<-Gb];generalize Qo ((L0 bs).take i)++eU i (e.tos.take n)=A at *;rw[show (A++[((i:Int),(n:Int),t)]).map Qn=A.map Qn++[.tup [.int (0+(i:Int)),.int (0+(n:Int)),.int t]] by rw[Fz,IN,IN];rfl];exact N2.put _
  ·obtain⟨c,d,rfl,N2⟩:=I;rw[g8,Fx,FS] at N2;refine⟨_,rfl,_,_,_,_,rfl,?_⟩;rw[am he,mr,sx he];exact N2
 ·obtain⟨a,b,c,d,rfl,N⟩:=I;rw[g8,Fx,show bs.length=(L0 bs).length by unfold L0;rw[Fx],FS] at N;simp!;refine gY N.new ?_;simp!;exact q _ (N.put .gone).nw
end
section
theorem uh {κ:Type} [DecidableEq κ] (x x':κ)(y:W): ∀ (ks:List κ) (ws:List W),ks.length=ws.length->atK ks (NG ks ws x y) x'=if x=x' then (if (ks.any λk=>decide (k=x))=true then some y else none) else atK ks ws x'
 |[],ws,_=>by
  unfold atK;split<;>rfl
 |k::ks,[],h=>by cases h
 |k::ks,w::ws,h=>by
  have ih:=uh x x' y ks ws (Hb.inj h);rw[NG,atK,atK,ih,GT];by_cases e:x=x'
  ·subst e;by_cases e2:k=x
   ·simp [e2]
   ·simp [e2]
  ·by_cases e2:k=x'
   ·have:k≠x:=λz=>e (z.symm.trans e2);simp [e,e2,this];intro z;exact absurd z.symm e
   ·simp [e,e2]
theorem ui {κ:Type} [DecidableEq κ] (x x':κ)(y:W): ∀ (ks:List κ) (ws:List W),ks.length=ws.length->(ks.any λk=>decide (k=x))=false->atK (ks++[x]) (ws++[y]) x'=if x=x' then some y else atK ks ws x'
 |[],[],_,_=>by simp [atK]
 |[],_::_,h,_=>by cases h
 |k::ks,[],h,_=>by cases h
 |k::ks,w::ws,h,a=>by
  rw[GT,I0] at a;have ih:=ui x x' y ks ws (Hb.inj h) a.2;rw[Gh,Gh,atK,atK,ih];have e2:k≠x:=of_decide_eq_false a.1;by_cases e:k=x'
  ·have:x≠x':=λz=>e2 (e.trans z.symm);simp [e,this]
  ·simp [e]
theorem mW {κ:Type} [DecidableEq κ] (x:κ)(y:W): ∀ (ks:List κ) (ws:List W),ks.length=ws.length->(NG ks ws x y).length=ws.length
 |[],ws,h=>h
 |k::ks,[],h=>by cases h
 |k::ks,w::ws,h=>by rw[NG,FH,FH,mW x y ks ws (Hb.inj h)]
theorem ko {κ:Type} [DecidableEq κ] {x:κ}{ks ks':List κ}{ws ws':List W}(h:ks.length=ws.length)(e:OI ks ws x y=(ks',ws')):ks'.length=ws'.length/\ks'.length<=ks.length+1/\ ∀x',atK ks' ws' x'=if x=x' then some y else atK ks ws x':=by
 unfold OI at e;by_cases a:(ks.any λk=>decide (k=x))=true
 ·rw[if_pos a] at e;cases e;refine⟨by rw[mW x y ks ws h];exact h,GS _,λx'=>?_⟩;rw[uh x x' y ks ws h,if_pos a]
 ·rw[if_neg a] at e;cases e;refine⟨by rw[FE,FE,h];rfl,by rw[FE];exact Fy _,λx'=>?_⟩;exact ui x x' y ks ws h (by rw[<-He];exact a)
section
variable {β:Type}{h:List Ob}{Q:β->List Ob->Prop}{j:Nat}
theorem pI {k:W->M β}(q:Ok (k (.loc h.length)) (h++[.dit [] []]) Q):Ok (bd (oq ρ) k) h Q:=aR (a:=.loc h.length) (h':=h++[.dit [] []]) rfl q
theorem jd {ws:List W}{k:W->M β}(e:h[j]?=some (.dit ks ws))(q:Ok (k (.loc j)) h Q):Ok (bd (My (.loc j)) k) h Q:=by
 refine aR (a:=.loc j) (h':=h) ?_ q;have:LV (.loc j) h=some (ks,ws):=by unfold LV;simp only[e]
 unfold My;rw[this]
theorem jr {ws:List W}(e:h[j]?=some (.dit ks ws))(ek:MZ y=some q):Ml (.loc j) y d h=.ok ((atK ks ws q).getD d) h:=by
 have:LV (.loc j) h=some (ks,ws):=by unfold LV;simp only[e]
 unfold Ml;simp only[this,ek]
theorem wZ {ws ws':List W}{k:Unit->M β}(e:h[j]?=some (.dit ks ws))(hz:ks.length<sizeLine)(e2:OI ks ws q v=(ks',ws'))(r:Ok (k ()) (h.set j (.dit ks' ws')) Q):Ok (bd (nF (.loc j) (.kt q) v) k) h Q:=by
 refine aR (a:=()) (h':=h.set j (.dit ks' ws')) ?_ r;unfold nF;simp only[e,if_pos hz,e2]
end
structure Nd (h h':List Ob)(j:Nat)(b:Ob):Prop where
 nw:Nw h h'
 ge:h.length<=j
 new:h'[j]?=some b
theorem Nd.put {j:Nat}(N:Nd h h' j b)(c:Ob):Nd h (h'.set j c) j c:=
 ⟨⟨by rw[Go];exact N.nw.le,λi hi=>by rw[FR (by have:=N.ge;omega)];exact N.nw.eq i hi⟩,N.ge,cU N.new⟩
theorem Nd.more {j:Nat}(N:Nd h h' j b)(K:Nw h' h2):Nd h h2 j b:=⟨N.nw.trans K,N.ge,K.get N.new⟩
theorem Nd.mk0 :Nd h (h++[b]) h.length b:=⟨Nf.mk0.nw,Fy _,ga⟩
noncomputable abbrev Zw:=Bool×Int×Int×Int
noncomputable def Qb (es:List E17)(a:Int):Bool:=match es[a.toNat]? with
 |some e=>e.tab
 |none=>false
noncomputable def zsL (es:List E17)(cs:List Int):List Zw:=HP (λ(w:Way) c=>(Qb es w.1,w.1,w.2.2,c)) (Qo es) cs
noncomputable def Mm (zs:List Zw)(a b:Int):Int:=(zs.map λz=>if z.1=false/\z.2.1=a/\z.2.2.1=b then z.2.2.2 else 0).sum
theorem fw (zs:List Zw)(z:Zw)(a b:Int):Mm (zs++[z]) a b=Mm zs a b+if z.1=false/\z.2.1=a/\z.2.2.1=b then z.2.2.2 else 0:=by
 unfold Mm;rw[Fz,List.sum_append];simp
noncomputable def E17.kind:E17->Str
 |.go _=> "go"
 |.iff _ _ _ _ _=> "if"
 |.table _ _=> "table"
 |.stop=> "stop"
theorem tK (e:E17):ixW e.w (.int 0)=pr (.str e.kind):=by cases e<;>exact ix0 ..
theorem xU (e:E17):decide (e.kind= "table")=e.tab:=by
 cases e with
 |go _=>exact Fe
 |iff _ _ _ _ _=>exact Fc
 |table _ _=>exact decide_eq_true rfl
 |stop=>exact DX
theorem xW (b:B23):ixW b.w (.int 2)=pr b.e.w:=ix2 ..
theorem yj {bs:List B23}{i:Nat}(h:(L0 bs)[i]?=some e): ∃b,bs[i]?=some b/\b.e=e:=by
 unfold L0 at h;rw[FG] at h;obtain⟨b,h1,h2⟩:=FQ.mp h;exact⟨b,h1,h2⟩
theorem sA (a b:List W):PU false false [.tl a,.tl b]=pr ⟨Qp a b,λ_=>True/\True⟩:=rfl
theorem kt2 (a b:Int):ktW [.int a,.int b]=pr (.kt [.inl a,.inl b]):=by
 show gd (([.int a,.int b]:List W).length<=sizeLine) (pr (W.kt [.inl a,.inl b]))=_;exact af (show 2<=sizeLine by decide)
structure GK (ks:List (List Key))(ws:List W)(G:Int->Int->Int):Prop where
 len:ks.length=ws.length
 get: ∀a b,(atK ks ws [.inl a,.inl b]).getD (.int 0)=.int (G a b)
theorem vG {cs:List Int}{i:Nat}{w:Way}{c:Int}(h1:(Qo es)[i]?=some w)(h2:cs[i]?=some c):(zsL es cs)[i]?=some (Qb es w.1,w.1,w.2.2,c):=by
 unfold zsL;rw[Iz,h1,h2]
theorem oT {cs:List Int}{i:Nat}(e:(Qp ((Qo es).map Qn) (cs.map W.int))[i]?=some x): ∃w c,(Qo es)[i]?=some w/\cs[i]?=some c/\x=.tup [Qn w,.int c]:=by
 obtain⟨x,y,hx,hy,rfl⟩:=oU e;rw[FG] at hx hy;obtain⟨w,hw,rfl⟩:=FQ.mp hx;obtain⟨c,hc,rfl⟩:=FQ.mp hy;exact⟨w,c,hw,hc,rfl⟩
theorem sr {α β:Type}(f:α->W)(g:β->W)(l:List α)(m:List β)(h:l.length=m.length):(Qp (l.map f) (m.map g)).length=m.length:=by
 unfold Qp;rw[HQ,Fx,Fx,h,IH]
theorem vF {cs:List Int}(h:(Qo es).length=cs.length):(zsL es cs).length=cs.length:=by
 unfold zsL;rw[HQ,h,IH]
theorem pY {bs:List B23}{cs:List Int}(hp:ixW P (.int 1)=pr x)(hx:Lw h x (bs.map B23.w))(hl:bs.length<=10)(hb: ∀b∈bs,b.e.tos.length<=6)(hc:(Qo (L0 bs)).length=cs.length):
  Ok (iA [P,.tl (cs.map W.int)]) h λw h'=> ∃j ks ws,w=.loc j/\Nd h h' j (.dit ks ws)/\GK ks ws (Mm (zsL (L0 bs) cs)):=by
 have e0:iA [P,.tl (cs.map W.int)]=bd (ka [some (P),some (.tl (cs.map W.int)),none,none,none,none,none]) Mb:=rfl;rw[e0];unfold ka;have lc:cs.length<=60:=by
  have h6: ∀e∈L0 bs,e.tos.length<=6:=λe he=>by
   obtain⟨b,hb',rfl⟩:=FW.mp he;exact hb b hb'
  have l2:(L0 bs).length=bs.length:=by unfold L0;rw[Fx]
  have:=gN (L0 bs) h6 (L0 bs).length (Fy _);rw[FS] at this;omega
 simp!;refine pI ?_;simp!;refine rK hp (hx.keep (Nf.mk0 (h:=h) (b:=.dit [] [])).nw.eq) hl hb λh1 N1=>?_;have D1:=(Nd.mk0 (h:=h) (b:=.dit [] [])).more N1;simp! only[aa,sA];refine cp (I:=λi ρ h'=> ∃a b c d ks ws,ρ=[some P,some (.tl (cs.map W.int)),some (.loc h.length),a,b,c,d]/\Nd h h' h.length (.dit ks ws)/\GK ks ws (Mm ((zsL (L0 bs) cs).take i))/\ks.length<=i) ⟨_,_,_,_,[],[],rfl,D1,⟨rfl,λa b=>rfl⟩,Fy _⟩ (λ_ _ _ _=>⟨trivial,trivial⟩) (λi y ρ h2 hy I=>?_) λρ h2 I=>?_
 ·obtain⟨a,b,c,d,ks,ws,rfl,D,G,lk⟩:=I;obtain⟨w,n,hw,hn,rfl⟩:=oT hy;have hi:i<cs.length:=(FO.mp hn).1;obtain⟨e,he,w0,_⟩:=oV (F9 hw);have hz:=vG hw hn;have ht:Qb (L0 bs) w.1=e.tab:=by unfold Qb;rw[he]
  rw[ht] at hz;obtain⟨b',hb',rfl⟩:=yj he;obtain⟨wa,wn,wt⟩:=w;refine⟨[some P,some (.tl (cs.map W.int)),some (.loc h.length),some (Qn (wa,wn,wt)),some (.int n),c,d],rfl,?_⟩;unfold Qn;have w0:0<=wa:=w0;have hb':bs[wa.toNat]?=some b':=hb';simp! only[aa,hp,ix0,ix2];refine (hx.keep D.nw.eq).ix (w:=b'.w) (aQ w0 (by rw[FG,hb'];rfl)) ?_;simp! only[aa,xW,ix2,tK,xU];rw[am hz];cases et:b'.e.tab with
  |true=>
   simp!;refine ae ⟨_,rfl,_,_,_,_,ks,ws,rfl,D,⟨G.len,λa b=>?_⟩,HR lk⟩;rw[G.get,fw,if_neg ⇑_,GX]
  |false=>
   simp! only[aa,mKt,kt2,Nq];refine jd D.new ?_;simp!;refine aR (jr D.new rfl) ?_;rw[G.get wa wt];simp!;rcases ep:OI ks ws [.inl wa,.inl wt] (.int (Mm ((zsL (L0 bs) cs).take i) wa wt+n)) with⟨ks',ws'⟩;obtain⟨l1,l2,g⟩:=ko G.len ep;refine wZ D.new (Gm (show _<=60 by omega) ↥_) ep ?_;simp!;refine ae ⟨_,rfl,_,_,_,_,ks',ws',rfl,D.put _,⟨l1,λa b=>?_⟩,∅⟩;rw[g,fw];by_cases q:wa=a/\wt=b
   ·rw[if_pos (by rw[q.1,q.2]),if_pos ⟨rfl,q⟩,q.1,q.2];rfl
   ·rw[if_neg (λz=>q ⟨by injection z with z1 z2;exact Sum.inl.inj z1,by injection z with z1 z2;injection z2 with z3 z4;exact Sum.inl.inj z3⟩),if_neg (λz=>q z.2),GX];exact G.get a b
 ·obtain⟨a,b,c,d,ks,ws,rfl,D,G,lk⟩:=I;rw[sr _ _ _ _ hc,<-vF hc,FS] at G;simp!;exact ae ⟨_,ks,ws,rfl,D,G⟩
end
section
theorem sW (ts:List Int){n:Nat}: ∀x∈ts.map W.int,Pd (n+1) x:=λx hx=>by
 obtain⟨t,_,rfl⟩:=FW.mp hx;exact .int
end
section
noncomputable def OD (G:Int->Int->Int):List Int->Int
 |x::y::r=>G x y+OD G (y::r)
 |_=>0
noncomputable def one (t:Bool)(p q c a b:Int):Int:=if t=false/\p=a/\q=b then c else 0
end
section
theorem Ek:KP.strOk "if"=true:=⋯
theorem El:KP.strOk "go"=true:=⋯
theorem wY:KP.strOk "table"=true:=⋯
theorem zC:KP.strOk "stop"=true:=⋯
theorem E17.Good.pd {m:Int}{e:E17}(g:e.Good m):Pd 10 e.w:=by
 cases e with
 |go t=>exact pdT ⇑_ (bf (.str El) (bf .int gW))
 |iff s a b x y=>exact pdT ⇑_ (bf (.str Ek) (bf (.str g.2.2.2.2) (bf (g.2.2.1.up ↥_) (bf (g.2.2.2.1.up ↥_) (bf .int (bf .int gW))))))
 |table e ts=>exact pdT ⇑_ (bf (.str wY) (bf (g.2.2.up ↥_) (bf (pdT (by rw[Fx];have:=g.1;omega) (sW ts (n:=7))) gW)))
 |stop=>exact pdT ⇑_ (bf (.str zC) gW)
structure BG (m:Int)(b:B23):Prop where
 g:b.e.Good m
 pd:Pd 12 b.w
theorem BG.mk' {m:Int}{nm:Str}(g:e.Good m)(hn:KP.strOk nm=true)(hs:sts.length<=8)(hp: ∀x∈sts,Pd 9 x):BG m ⟨nm,sts,e⟩:=
 ⟨g,pdT ⇑_ (bf (.str hn) (bf (.lst (F6 hs ↥_) λx hx=>(hp x hx).up ↥_) (bf (g.pd.up ↥_) gW)))⟩
theorem BG.six {m:Int}(g:BG m b):b.e.tos.length<=6:=g.g.six
end
section
noncomputable def LC:Nat->List (List Int)
 |0=>[[0]]
 |n+1=>LC n++(LC n).map (· ++[((n+1:Nat):Int)])
theorem jQ: ∀n,(LC n).length=2 ^ n
 |0=>rfl
 |n+1=>by rw[LC,FE,Fx,jQ n,Nat.pow_succ];omega
theorem eR: ∀ {n:Nat}{s:List Int},s∈LC n-> ∃r,s=0::r/\r.Nodup/\r.length<=n/\ ∀x∈r,1<=x/\x<=n
 |0,s,h=>by
  rw[LC,FZ] at h;exact⟨[],h,HD,Fy _,λx hx=>absurd hx Ga⟩
 |n+1,s,h=>by
  rw[LC] at h;rcases Gw.mp h with h|h
  ·obtain⟨r,e,nd,l,q⟩:=eR h;exact⟨r,e,nd,∅,λx hx=>by have:=q x hx;omega⟩
  ·obtain⟨t,ht,rfl⟩:=FW.mp h;obtain⟨r,rfl,nd,l,q⟩:=eR ht;refine⟨r++[((n+1:Nat):Int)],rfl,?_,by rw[FE];show r.length+1<=n+1;omega,λx hx=>?_⟩
   ·rw[Hg];refine⟨nd,⇑_,λa ha b hb=>?_⟩;rw[FZ.mp hb];have:=q a ha;omega
   ·rcases Gw.mp hx with hx|hx
    ·have:=q x hx;omega
    ·rw[FZ.mp hx];omega
noncomputable def wo (r:List Int)(p:Int):List Int:=r.filter λx=>!decide (x=p)
theorem vJ (a b:List Int)(p:Int):wo (a++b) p=wo a p++wo b p:=by unfold wo;rw[H0]
theorem Mp (l:List Int):Om iOf (l.map W.int)=some l:=by
 have:=cR (f:=iOf) (g:=W.int) (k:=λi=>i) (λa=>rfl) l;rw[this];simp
section
variable {β:Type}{h:List Ob}{Q:β->List Ob->Prop}{j:Nat}
theorem jJ (p:Int)(l:List Int):MW true (.tup [.tup (l.map W.int),.int p])=some (p,l):=by
 show (Om iOf (l.map W.int)).map (λns=>(p,ns))=_;rw[Mp];rfl
theorem kW {ws:List W}{p:Int}{k:W->M β}(e:LU x h=some (true,ks,ws))(a:atK ks ws (p,l)=some v)(q:Ok (k v) h Q):Ok (bd (MI x (.tup [.tup (l.map W.int),.int p])) k) h Q:=by
 refine aR (a:=v) (h':=h) ?_ q;unfold MI;simp only[e,jJ,a]
theorem xf {ws:List W}{p:Int}{neg:Bool}{k:W->M β}(e:LU x h=some (true,ks,ws))(q:Ok (k (.bl ((atK ks ws (p,l)).isSome !=neg))) h Q):Ok (bd (Ms neg (.tup [.tup (l.map W.int),.int p]) x) k) h Q:=by
 refine aR (a:=.bl ((atK ks ws (p,l)).isSome !=neg)) (h':=h) ?_ q;unfold Ms;simp only[e,jJ]
theorem rh {ws ws':List W}{p:Int}{k:Unit->M β}(e:h[j]?=some (.din true ks ws))(hz:ks.length<sizeLine)(e2:OI ks ws (p,l) v=(ks',ws'))(r:Ok (k ()) (h.set j (.din true ks' ws')) Q):Ok (bd (nG (.loc j) (.tup [.tup (l.map W.int),.int p]) v) k) h Q:=by
 refine aR (a:=()) (h':=h.set j (.din true ks' ws')) ?_ r;unfold nG;simp only[e,jJ,if_pos hz,e2]
theorem dS {ws:List W}(e:h[j]?=some (.din true ks ws)):LU (.loc j) h=some (true,ks,ws):=by unfold LU;simp only[e]
theorem kY {b:Bool}{k:W->M β}(q:Ok (k (.loc h.length)) (h++[.din b [] []]) Q):Ok (bd (iR b ρ) k) h Q:=aR (a:=.loc h.length) (h':=h++[.din b [] []]) rfl q
end
theorem qA (r:List Int)(p:Int)(hr:r.length<=1000)(h:List Ob):Ok (fE [.tup (r.map W.int),.int p]) h λw h'=>w=.tup ((wo r p).map W.int)/\h'=h:=by
 have e0:fE [.tup (r.map W.int),.int p]=bd (ip [some (.tup (r.map W.int)),some (.int p)]) Mb:=rfl;rw[e0];unfold ip;have gl: ∀ {α:Type} (q:M α),gd ((r.map W.int).length<=sizeLine) q=q:=λq=>af (by rw[Fx];exact sz ∅);simp! only[aa,gl];refine gZ (I:=λi a h'=>h'=h/\a=(wo (r.take i) p).map W.int) ⟨rfl,rfl⟩ (λ_ _ _ _=>trivial) (λi w a h' hw I=>?_) λa h' I=>?_
 ·obtain⟨rfl,rfl⟩:=I;rw[FG] at hw;obtain⟨x,hx,rfl⟩:=FQ.mp hw;refine⟨_,rfl,?_⟩;simp! only[List.replicate,Gh,Gj,aa];rw[am hx,vJ];by_cases e:x=p
  ·refine ae (.inl ⟨by simp [e],rfl,?_⟩);have:wo [x] p=[]:=by unfold wo;simp [e]
   rw[this,Gd]
  ·refine ae (.inr ⟨by simp [e],ae ⟨rfl,?_⟩⟩);have:wo [x] p=[x]:=by unfold wo;simp [e]
   rw[this,Fz];rfl
 ·obtain⟨rfl,rfl⟩:=I;rw[Fx,FS];simp! only[aa,eY];exact ae ⟨rfl,rfl⟩
noncomputable def Pp (s:List Int):W:=.tup (s.map W.int)
theorem zb {N:Int}{m:Nat}(hN:N=(m:Int))(m1:1<=m)(m2:m<=10)(h:List Ob):Ok (dR [.int N]) h λw h'=>w=.tl ((LC (m - 1)).map Pp)/\h'=h:=by
 have e0:dR [.int N]=bd (dQ [some (.int N),none,none]) Mb:=rfl;rw[e0];unfold dQ;simp! only[aa,Qh,i8 (show (-(2 ^ 62):Int)<=1 by decide) (show (1:Int)<2 ^ 62 by decide) (show (-(2 ^ 62):Int)<=N by omega) (show N<2 ^ 62 by omega)];have eN:(N - 1).toNat=m - 1:=∅;refine cp (I:=λi ρ h'=> ∃a,ρ=[some (.int N),some (.tl ((LC i).map Pp)),a]/\h'=h) ⟨_,rfl,rfl⟩ (λ_ _ _ _=>trivial) (λi w ρ h1 hw I=>?_) λρ h1 I=>?_
 ·obtain⟨a,rfl,rfl⟩:=I;obtain⟨rfl,hi⟩:=cJ _ _ _ _ hw;rw[eN] at hi;have bl:(LC i).length<=512:=by
   rw[jQ];exact Ht ↥_ (show i<=9 by omega)
  refine⟨_,rfl,?_⟩;have gl: ∀ {α:Type} (q:M α),gd (((LC i).map Pp).length<=sizeLine) q=q:=λq=>af (by rw[Fx];exact sz ∅);simp! only[aa,gl];refine dj (I:=λk a h'=>h'=h1/\a=(((LC i).take k).map (· ++[((i+1:Nat):Int)])).map Pp) ⟨rfl,rfl⟩ eS (λ_ _ _ _=>trivial) (λk w a h' hw I=>?_) λa h' I=>?_
  ·obtain⟨rfl,rfl⟩:=I;rw[FG] at hw;obtain⟨s,hs,rfl⟩:=FQ.mp hw;obtain⟨r,rfl,_,lr,_⟩:=eR (F9 hs);refine⟨_,rfl,?_⟩;have ea:Lr (Pp (0::r)) (.tup [.int (1+(i:Int))])=pr (Pp (0::r++[((i+1:Nat):Int)])):=by
    show Lr (.tup (.int 0::r.map W.int)) (.tup [.int (1+(i:Int))])=_;rw[addT _ _ _ (by rw[Fx];show r.length+1<=100;omega)];unfold Pp;rw[Fz,FK];have:(1:Int)+(i:Int)=((i+1:Nat):Int):=∅;rw[this];rfl
   simp! only[List.replicate,Gh,Gj,aa,Qh];rw[ea];refine ae ⟨rfl,?_⟩;rw[am hs,Fz,Fz];rfl
  ·obtain⟨rfl,rfl⟩:=I;rw[Fx,FS];simp! only[aa,dU _ _ (show ((LC i).map Pp).length+(((LC i).map (· ++[((i+1:Nat):Int)])).map Pp).length<=sizeLine by rw[Fx,Fx,Fx];exact sz ∅)];refine ae ⟨_,rfl,some (.int (1+(i:Int))),?_,rfl⟩;rw[LC,Fz]
 ·obtain⟨a,rfl,rfl⟩:=I;rw[cB,eN];simp!;exact ae ⟨rfl,rfl⟩
end
section
noncomputable def Pr (n:Nat):List (List Int):=(List.range (n+2)).flatMap λk=>(LC n).filter λs=>decide (s.length=k)
noncomputable def OA (ss:List (List Int)):List PKy:=ss.flatMap λs=>s.tail.map λl=>(l,s)
noncomputable abbrev kf:PKy:=(0,[0])
noncomputable def prs (n:Nat):List PKy:=kf::OA (LC n)
noncomputable def lpr (n:Nat):List PKy:=kf::OA (Pr n)
noncomputable def Nh (s:List Int):List Int:=if s=[0] then s else s.tail
noncomputable def six (p:Nat->Bool):Bool:=p 0 && (p 1 && (p 2 && (p 3 && (p 4 && p 5))))
theorem gP {p:Nat->Bool}(h:six p=true){n:Nat}(hn:n<6):p n=true:=by
 unfold six at h;simp only[F7] at h;obtain⟨h0,h1,h2,h3,h4,h5⟩:=h;have:n=0\/n=1\/n=2\/n=3\/n=4\/n=5:=∅;rcases this with rfl|rfl|rfl|rfl|rfl|rfl<;>assumption
noncomputable def ckK (n:Nat):Bool:=decide (lpr n).Nodup && (prs n).isPerm (lpr n)
theorem DU:six ckK=true:=⋯
theorem d7 {n:Nat}(hn:n<6):(lpr n).Nodup/\(prs n).Perm (lpr n):=by
 have h:=gP DU hn;unfold ckK at h;simp only[F7,decide_eq_true_eq,IP] at h;exact h
noncomputable def ckS (n:Nat):Bool:=(List.range (Pr n).length).all λi=>match (Pr n)[i]? with
 |some s=>decide (s=0::s.tail) && (decide (s.length<=6) && s.tail.all λl=>decide (1<=l) && (decide (((wo s l).length:Int)+1=s.length) && (decide (wo s l=0::(wo s l).tail) && ((wo s l).tail.all λp=>decide (1<=p)) && ((Nh (wo s l)).all λp=>decide ((p,wo s l)∈kf::OA ((Pr n).take i))))))
 |none=>false
theorem DP:six ckS=true:=⋯
structure SK (k:PKy):Prop where
 z:k.2=0::k.2.tail
 le:k.2.length<=6
 l1:1<=k.1
 len:(wo k.2 k.1).length+1=k.2.length
 wz:wo k.2 k.1=0::(wo k.2 k.1).tail
 w1: ∀p∈(wo k.2 k.1).tail,1<=p
theorem Dv {n:Nat}(hn:n<6){i:Nat}(h:(Pr n)[i]?=some s):(s=0::s.tail/\s.length<=6)/\ ∀l∈s.tail,SK (l,s)/\ ∀p∈Nh (wo s l),(p,wo s l)∈kf::OA ((Pr n).take i):=by
 have q:=gP DP hn;unfold ckS at q;rw[Gf] at q;have q:=q i (GQ.mpr (FO.mp h).1);rw[h] at q;simp only[F7,decide_eq_true_eq,Gf] at q;obtain⟨z,le,q⟩:=q;refine⟨⟨z,le⟩,λl hl=>?_⟩;obtain⟨l1,w,⟨wz,w1⟩,c⟩:=q l hl;exact⟨⟨z,le,l1,by show (wo s l).length+1=s.length;omega,wz,w1⟩,c⟩
theorem OB :k∈OA ss↔k.2∈ss/\k.1∈k.2.tail:=by
 unfold OA;rw[HZ];constructor
 ·rintro⟨s,hs,h⟩
  obtain⟨l,hl,rfl⟩:=FW.mp h;exact⟨hs,hl⟩
 ·rintro⟨h1,h2⟩
  exact⟨k.2,h1,FW.mpr ⟨k.1,h2,rfl⟩⟩
theorem iS {n:Nat}(hn:n<6)(h:k∈lpr n)(hk:k≠kf):SK k/\ ∀p∈Nh (wo k.2 k.1),(p,wo k.2 k.1)∈lpr n:=by
 rcases FC.mp h with h|h
 ·exact absurd h hk
 ·obtain⟨h1,h2⟩:=OB.mp h;obtain⟨i,hi⟩:=IE h1;obtain⟨s1,s2⟩:=(Dv hn hi).2 k.1 h2;refine⟨s1,λp hp=>?_⟩;rcases FC.mp (s2 p hp) with q|q
  ·exact FC.mpr (.inl q)
  ·obtain⟨q1,q2⟩:=OB.mp q;exact FC.mpr (.inr (OB.mpr ⟨HX q1,q2⟩))
noncomputable def MQ (ks:List PKy):Option (Array Nat):=Pb ks.length λi j=>Nl ((ks.map λk=>(k.2,k.1)).getD i ([],0)) ((ks.map λk=>(k.2,k.1)).getD j ([],0))
theorem zn (ks:List PKy)(F:PKy->Int):OM (ks.map λk=>((k.2,k.1),F k))=MQ ks:=by
 unfold OM MQ;rw[Fx];have: ∀i:Nat,((ks.map λk=>(((k.2,k.1),F k):(List Int×Int)×Int)).getD i (([],0),0)).1=(ks.map λk=>(k.2,k.1)).getD i ([],0):=λi=>by
  rw[Gu,Gu,FG,FG];cases ks[i]?<;>rfl
 congr 1;funext i j;rw[this,this]
noncomputable def ckE (n:Nat):Bool:=((lpr n).all λk=>decide (k.2.length=n+1)==decide (k.2=(List.range (n+1)).map H9)) && (lpr n).any λk=>decide (k.2.length=n+1)
theorem DV:six ckE=true:=⋯
theorem Dx {n:Nat}(hn:n<6):(∀k∈lpr n,decide (k.2.length=n+1)=decide (k.2=(List.range (n+1)).map H9))/\ ∃k∈lpr n,k.2.length=n+1:=by
 have h:=gP DV hn;unfold ckE at h;simp only[F7,Gf,GO,beq_iff_eq,decide_eq_true_eq] at h;exact h
noncomputable def ckZ (n:Nat):Bool:=decide ((lpr n).length<=81) && decide ((Pr n).length<=32)
theorem DN:six ckZ=true:=⋯
theorem lQ {n:Nat}(hn:n<6):(lpr n).length<=81/\(Pr n).length<=32:=by
 have h:=gP DN hn;unfold ckZ at h;simp only[F7,decide_eq_true_eq] at h;exact h
noncomputable def Ni (G:Int->Int->Int)(F:PKy->Int)(k:PKy):Int:=NH ((Nh (wo k.2 k.1)).map λp=>F (p,wo k.2 k.1)+G p k.1)
noncomputable def nu (G:Int->Int->Int)(S:PKy->Int):Nat->PKy->Int
 |0,k=>S k
 |n+1,k=>Ni G (nu G S n) k+S k
noncomputable def Fn (G:Int->Int->Int)(S:PKy->Int)(k:PKy):Int:=nu G S (k.2.length - 1) k
theorem E4 (G:Int->Int->Int)(S:PKy->Int)(c:SK k):Fn G S k=Ni G (Fn G S) k+S k:=by
 have h1:=c.len;have h2:(wo k.2 k.1).length≠0:=by rw[c.wz];simp
 obtain⟨n,hn⟩: ∃n,(wo k.2 k.1).length=n+1:=⟨_,(Nat.succ_pred_eq_of_ne_zero h2).symm⟩
 unfold Fn;rw[show k.2.length - 1=n+1 by omega,nu];congr 1;unfold Ni;congr 1;refine GV λp _=>?_;show nu G S n (p,wo k.2 k.1)+_=nu G S ((wo k.2 k.1).length - 1) (p,wo k.2 k.1)+_;rw[hn];rfl
theorem ot (c:SK k):Nh (wo k.2 k.1)≠ []:=by
 unfold Nh;split
 ·rw[c.wz];simp
 ·rename_i h;intro z;exact h (by rw[c.wz,z])
end
section
theorem p6 (a b:List Int):KP.eqvAll (a.map KP.int) (b.map KP.int)=decide (a=b):=by
 induction a generalizing b with
 |nil=>
  cases b with
  |nil=>rw[Ge,KP.eqvAll];rfl
  |cons y b=>rw[Ge,FK,KP.eqvAll]<;>simp
 |cons x a ih=>
  cases b with
  |nil=>rw[Ge,FK,KP.eqvAll]<;>simp
  |cons y b=>
   rw[FK,FK,KP.eqvAll,ih,KP.eqv];rw[Gz];simp
theorem lS (a:List Int):(KP.tuple (a.map KP.int)).canLay0=true:=by rw[KP.canLay0];exact yC a λz hz=>by rw[KP.canLay0]
theorem EQ (a b:List Int)(h:List Ob):eqB (.tup (a.map W.int)) (.tup (b.map W.int)) h=some (decide (a=b)):=by
 have o1: ∀a:List Int,LR h 50 (.tup (a.map W.int))=some (.tuple (a.map KP.int)):=λa=>by
  show (Om (LR h 49) (a.map W.int)).map KP.tuple=_;rw[cR (f:=LR h 49) (g:=W.int) (k:=KP.int) (λa=>rfl) a];rfl
 show (match LR h 50 (.tup (a.map W.int)),LR h 50 (.tup (b.map W.int)) with
  |some d,some e=>if d.canLay0=true/\e.canLay0=true then some (KP.eqv d e) else none
  |_,_=>none)=_
 rw[o1,o1];dsimp only;rw[if_pos ⟨lS a,lS b⟩,KP.eqv,p6]
theorem eqT (a b:List Int):eqW (.tup (a.map W.int)) (.tup (b.map W.int))=pr (.bl (decide (a=b))):=rT (EQ a b)
theorem eqK (k q:PKy):eqW (.tup [.tup (k.2.map W.int),.int k.1]) (.tup [.tup (q.2.map W.int),.int q.1])=pr (.bl (decide (k=q))):=rT λh=>by
 have o1: ∀k:PKy,LR h 50 (.tup [.tup (k.2.map W.int),.int k.1])=some (.tuple [.tuple (k.2.map KP.int),.int k.1]):=λk=>by
  show (Om (LR h 49) [.tup (k.2.map W.int),.int k.1]).map KP.tuple=_;have o2:LR h 49 (.tup (k.2.map W.int))=some (.tuple (k.2.map KP.int)):=by
   show (Om (LR h 48) (k.2.map W.int)).map KP.tuple=_;rw[cR (f:=LR h 48) (g:=W.int) (k:=KP.int) (λa=>rfl) k.2];rfl
  unfold Om;rw[o2];rfl
 have c1: ∀k:PKy,(KP.tuple [.tuple (k.2.map KP.int),.int k.1]).canLay0=true:=λk=>by
  rw[KP.canLay0,KP.canLayAll0,lS,KP.canLayAll0,KP.canLay0,KP.canLayAll0];rfl
 show (match LR h 50 (.tup [.tup (k.2.map W.int),.int k.1]),LR h 50 (.tup [.tup (q.2.map W.int),.int q.1]) with
  |some d,some e=>if d.canLay0=true/\e.canLay0=true then some (KP.eqv d e) else none
  |_,_=>none)=_
 rw[o1,o1];dsimp only;rw[if_pos ⟨c1 k,c1 q⟩,KP.eqv,KP.eqvAll,KP.eqv,p6,KP.eqvAll,KP.eqv,KP.eqvAll];congr 1;rw[Gz];simp only[F7,decide_eq_true_eq,Prod.ext_iff,beq_iff_eq,and_true];exact⟨λz=>⟨z.2,z.1⟩,λz=>⟨z.2,z.1⟩⟩
theorem oI (h:l≠ []):L7 NH [.tl (l.map W.int)]=pr (.int (NH l)):=by
 show bd (Nk (.tl (l.map W.int))) (λl=>match Om iOf l with
  |some ns=>gd (ns≠ []) (pr (W.int (NH ns)))
  |none=>no)=_
 rw[fq,aA,Mp];exact af h
noncomputable def bLn:La->M Fl:=(O7 (Nn (L7 NH) (Np (mTl (No [] (NB (NE 5) PR) (tgN 0) NF (m2 Lr (m2 MI (NE 4) (ND (Np (NE 6) (Np (NE 0) Nx)))) (Nq (NE 5) (ND (Np (NE 0) (Np (NE 3) Nx))) ⇑0)) 2)) Nx)))
theorem iP:bV=(O9 (sIf (mB (m2 eqW (ND (Np (NE 0) (Np (NE 1) Nx))) (mC (M0 true (0,[0]))))) (O7 ⇑0) O6) (O9 (Pa 4 (Nn (arW 2 fE) (Np (NE 0) (Np (NE 1) Nx)))) (O9 (Pa 5 (mIf (mB (m2 eqW (NE 4) (ND (Np ⇑0 Nx)))) (NE 4) (m3 slW (NE 4) (Nz ⇑1) ai))) bLn))):=rfl
section
variable {h:List Ob}{jg:Nat}{gk:List (List Key)}{gw:List W}{G:Int->Int->Int}{X:W}{ks:List PKy}{ws:List W}{F:PKy->Int}{k:PKy}
theorem xK (c:SK k):(Nh (wo k.2 k.1)).length<=6:=by
 have h1:=c.len;have h2:=c.le;unfold Nh;split
 ·omega
 ·rw[List.length_tail];omega
theorem yN (eL:L=Nh (wo k.2 k.1))(eg:h[jg]?=some (.dit gk gw))(GG:GK gk gw G)(ed:LU X h=some (true,ks,ws))(c:SK k)
  (ha: ∀p∈Nh (wo k.2 k.1),atK ks ws (p,wo k.2 k.1)=some (.int (F (p,wo k.2 k.1)))):Ok (bLn [x,some (.int k.1),some X,some (.loc jg),some (.tup ((wo k.2 k.1).map W.int)),some (.tup (L.map W.int))]) h λx h'=>x=.rt (.int (Ni G F k))/\h'=h:=by
 unfold bLn
 have gl: ∀ {α:Type} (q:M α),gd ((L.map W.int).length<=sizeLine) q=q:=λq=>af (by
  rw[Fx,eL];have:=xK c
  exact sz ∅)
 simp! only[aa,gl];refine dj (I:=λi a h'=>h'=h/\a=((L.take i).map λp=>F (p,wo k.2 k.1)+G p k.1).map W.int) ⟨rfl,rfl⟩ eS (λ_ _ _ _=>trivial) (λi w a h' hw I=>?_) λa h' I=>?_
 ·obtain⟨rfl,rfl⟩:=I;rw[FG] at hw;obtain⟨p,hp,rfl⟩:=FQ.mp hw;have pm:=F9 hp;rw[eL] at pm;refine⟨_,rfl,?_⟩;simp! only[List.replicate,Gh,Gj,aa,Qh];refine kW ed (ha p pm) ?_;simp! only[aa,Nq,Qh];refine jd eg ?_;simp! only[aa,Qh];refine aR (jr eg rfl) ?_;rw[GG.get p k.1];simp!;refine ae ⟨rfl,?_⟩;rw[am hp,Fz,Fz];rfl
 ·obtain⟨rfl,rfl⟩:=I;rw[Fx,FS];simp! only[aa,oI (show L.map (λp=>F (p,wo k.2 k.1)+G p k.1)≠ [] by rw[eL];exact λz=>ot c (GY.mp z))];refine ae ⟨?_,rfl⟩;rw[eL];rfl
theorem xP (eg:h[jg]?=some (.dit gk gw))(GG:GK gk gw G)(ed:LU X h=some (true,ks,ws))(c:SK k)
  (ha: ∀p∈Nh (wo k.2 k.1),atK ks ws (p,wo k.2 k.1)=some (.int (F (p,wo k.2 k.1)))):Ok (bg [.tup (k.2.map W.int),.int k.1,X,.loc jg]) h λw h'=>w=.int (Ni G F k)/\h'=h:=by
 have e0:bg [.tup (k.2.map W.int),.int k.1,X,.loc jg]=bd (bV [some (.tup (k.2.map W.int)),some (.int k.1),some X,some (.loc jg),none,none]) Mb:=rfl;rw[e0,iP];have hk:k≠kf:=λz=>by have:=c.l1;rw[z] at this;exact absurd this ↥_
 have ef:eqW (.tup [.tup (k.2.map W.int),.int k.1]) (M0 true (0,[0]))=pr (.bl false):=by
  show eqW (.tup [.tup (k.2.map W.int),.int k.1]) (.tup [.tup (kf.2.map W.int),.int kf.1])=_;rw[eqK,decide_eq_false hk]
 simp! only[aa,Qh,ef];refine aI (qA k.2 k.1 (by have:=c.le;omega) h) λw h1 qq_=>?_;obtain⟨ew,e1⟩:=qq_;subst ew e1;have e2:eqW (.tup ((wo k.2 k.1).map W.int)) (.tup [.int 0])=pr (.bl (decide (wo k.2 k.1=[0]))):=eqT _ [0];have sl1:slW (.tup ((wo k.2 k.1).map W.int)) (some 1) none=pr (.tup ((wo k.2 k.1).tail.map W.int)):=slos (os:=wo k.2 k.1) (by rw[c.wz];simp);by_cases z:wo k.2 k.1=[0]
 ·simp! only[aa,Qh,e2,decide_eq_true z];refine aI (yN (by unfold Nh;rw[if_pos z]) eg GG ed c ha) λx h2 qq_=>?_;obtain⟨ex,e2⟩:=qq_;subst ex e2;simp!;exact ae ⟨rfl,rfl⟩
 ·simp! only[aa,Qh,e2,decide_eq_false z,sl1];refine aI (yN (by unfold Nh;rw[if_neg z]) eg GG ed c ha) λx h2 qq_=>?_;obtain⟨ex,e2⟩:=qq_;subst ex e2;simp!;exact ae ⟨rfl,rfl⟩
end
end
section
theorem uz (a:List (List Int))(s:List Int):OA (a++[s])=OA a++s.tail.map λl=>(l,s):=by
 unfold OA;rw[Hs,Hr,List.flatMap_nil,Gd]
theorem pG {N:Int}{m:Nat}(hN:N=(m:Int))(m1:1<=m)(m2:m<=6)(h:List Ob):Ok (iz [.int N]) h λw h'=>w=.tl ((prs (m - 1)).map (M0 true))/\Nw h h':=by
 have e0:iz [.int N]=bd (j9 [some (.int N),none,none,none]) Mb:=rfl;rw[e0];unfold j9;simp!;refine f7 ?_;simp!;refine aI (zb hN m1 ∅ _) λw h2 qq_=>?_;obtain⟨ew,e2⟩:=qq_;subst ew e2;simp!;refine cp (I:=λi ρ h'=> ∃a b L,ρ=[some (.int N),some (.loc h.length),a,b]/\Nf h h' (.lst (L.map (M0 true)))/\L=kf::OA ((LC (m - 1)).take i)/\L.length<=1+10 * i) ⟨_,_,[kf],rfl,Nf.mk0,rfl,⇑_⟩ (λ_ _ _ _=>trivial) (λi w ρ h2 hw I=>?_) λρ h2 I=>?_
 ·obtain⟨a,b,L,rfl,N2,eL,lL⟩:=I;rw[FG] at hw;obtain⟨s,hs,rfl⟩:=FQ.mp hw;obtain⟨r,rfl,_,lr,_⟩:=eR (F9 hs);have hi:i<32:=by
   have:=(FO.mp hs).1;rw[jQ] at this;exact F8 this (Ht ↥_ (show m - 1<=5 by omega))
  refine⟨_,rfl,?_⟩;have sl1:slW (Pp (0::r)) (some 1) none=pr (.tup (r.map W.int)):=slos (os:=0::r) ⇑_;simp! only[aa,sl1];refine oh (I:=λl ρ h'=> ∃b M,ρ=[some (.int N),some (.loc h.length),some (Pp (0::r)),b]/\Nf h h' (.lst (M.map (M0 true)))/\M=L++(r.take l).map (λx=>(x,0::r))/\M.length<=L.length+l) ⟨_,L,rfl,N2,⇑_,Fy _⟩ (λ_ _ _ _=>trivial) (λl w ρ h3 hw I=>?_) λρ h3 I=>?_
  ·obtain⟨b,M,rfl,N3,eM,lM⟩:=I;rw[FG] at hw;obtain⟨p,hp,rfl⟩:=FQ.mp hw;have hl:=(FO.mp hp).1;refine⟨_,rfl,?_⟩;simp! only[aa,Qh];refine cn N3.new ?_;simp! only[aa,Qh];refine dI N3.new (by rw[Fx];exact Gm (show _<=400 by omega) ↥_) ?_;simp!;refine ae ⟨_,rfl,_,M++[(p,0::r)],rfl,?_,?_,by rw[FE];show M.length+1<=_;omega⟩
   ·have:=N3.put (.lst (M.map (M0 true)++[.tup [Pp (0::r),.int p]]));rw[Fz];exact this
   ·rw[am hp,eM,Fz,Gb];rfl
  ·obtain⟨b,M,rfl,N3,eM,lM⟩:=I;rw[Fx] at eM lM;rw[FS] at eM;refine⟨_,rfl,_,_,M,rfl,N3,?_,∅⟩;rw[am hs,uz,eM,eL];rfl
 ·obtain⟨a,b,L,rfl,N2,eL,lL⟩:=I;rw[Fx,FS] at eL;simp!;refine gY N2.new ?_;simp!;refine ae ⟨by rw[eL];rfl,?_⟩;have:=N2.put .gone;exact this.nw
end
section
theorem ug {f:PKy->W}: ∀ {ks:List PKy}{k:PKy},k∈ks->atK ks (ks.map f) k=some (f k)
 |[],_,h=>absurd h Ga
 |q::ks,k,h=>by
  rw[FK,atK];by_cases e:q=k
  ·rw[if_pos e,e]
  ·rw[if_neg e];rcases FC.mp h with h|h
   ·exact absurd h.symm e
   ·exact ug h
theorem sP {ks:List PKy}{ws:List W}{k:PKy}{v:W}(h:k ∉ ks):OI ks ws k v=(ks++[k],ws++[v]):=by
 unfold OI;rw[if_neg];intro z;obtain⟨x,hx,e⟩:=GO.mp z;rw[of_decide_eq_true e] at hx;exact h hx
noncomputable def rwW (r:PKy×Int):W:=.tup [.tup (r.1.2.map W.int),.int r.1.1,.int r.2]
noncomputable def kyW (k:PKy):W:=.tup [.tup (k.2.map W.int),.int k.1]
noncomputable def lk (rs:List (PKy×Int))(k:PKy):Option Int:=rs.foldl (λo r=>if r.1=k then some r.2 else o) none
theorem tu (rs:List (PKy×Int))(r:PKy×Int)(k:PKy):lk (rs++[r]) k=if r.1=k then some r.2 else lk rs k:=by
 unfold lk;rw[HV];rfl
noncomputable def vl (rs:List (PKy×Int))(k:PKy):Int:=(lk rs k).getD 0
noncomputable def Ng (G:Int->Int->Int)(F:PKy->Int)(k:PKy):Int:=if k=kf then 0 else Ni G F k
theorem DG (l:List Bool):Ls [.tl (l.map W.bl)]=pr (.bl (l.all id)):=by
 show bd (Nk (.tl (l.map W.bl))) (λl=>match Om bOf l with
  |some ns=>pr (W.bl (ns.all id))
  |none=>no)=_
 rw[fq,aA,cR (f:=bOf) (g:=W.bl) (k:=λb=>b) (λa=>rfl),IQ]
theorem xQ {h:List Ob}:bg [.tup (kf.2.map W.int),.int kf.1,X,Y]=pr (.int 0):=by
 have e0:bg [.tup (kf.2.map W.int),.int kf.1,X,Y]=bd (bV [some (.tup (kf.2.map W.int)),some (.int kf.1),some X,some Y,none,none]) Mb:=rfl;rw[e0];unfold bV;have ef:eqW (.tup [.tup (kf.2.map W.int),.int kf.1]) (M0 true (0,[0]))=pr (.bl true):=by
  show eqW (.tup [.tup (kf.2.map W.int),.int kf.1]) (.tup [.tup (kf.2.map W.int),.int kf.1])=_;rw[eqK,decide_eq_true rfl]
 generalize W.tup (kf.2.map W.int)=A at *;generalize kf.1=B at *;simp! only[aa,Qh,ef]
theorem xL {jg:Nat}{G:Int->Int->Int}{ws:List W}{F:PKy->Int}(eg:h[jg]?=some (.dit gk gw))(GG:GK gk gw G)(ed:LU X h=some (true,ks,ws))(c:k≠kf->SK k/\ ∀p∈Nh (wo k.2 k.1),atK ks ws (p,wo k.2 k.1)=some (.int (F (p,wo k.2 k.1)))):
  Ok (bg [.tup (k.2.map W.int),.int k.1,X,.loc jg]) h λw h'=>w=.int (Ng G F k)/\h'=h:=by
 unfold Ng;by_cases e:k=kf
 ·rw[if_pos e,e,xQ (h:=h)];exact ae ⟨rfl,rfl⟩
 ·rw[if_neg e];exact xP eg GG ed (c e).1 (c e).2
theorem v4 (F:PKy->Int)(e1:MQ κ=some π)(e2:π.size=κ.length)(e3: ∀i∈π.toList,i<κ.length)(nd:κ.Nodup)(l1:1<=κ.length)(lz:κ.length<=1000):PD [.tl ((κ.map λk=>(k,F k)).map rwW)]=pr (.tl (((π.toList.map λi=>κ.getD i kf).map λk=>(k,F k)).map rwW)):=by
 have o:Om OQ ((κ.map λk=>(k,F k)).map rwW)=some (κ.map λk=>((k.2,k.1),F k)):=by
  rw[Gg]
  exact cR (f:=OQ) (g:=λk=>rwW (k,F k)) (k:=λk:PKy=>((k.2,k.1),F k)) (λk=>by
   show (Om iOf (k.2.map W.int)).map (λks=>((ks,k.1),F k))=_
   rw[Mp];rfl) _
 show bd (Nk (.tl ((κ.map λk=>(k,F k)).map rwW))) (λl=>match Om OQ l with
  |some rs=>gd (1<=rs.length/\rs.length<=1000/\(rs.map (·.1)).Nodup) (match OM rs with
   |some π=>gd (Ow π rs.length) (pr (W.tl (π.toList.map λi=>l.getD i .non)))
   |none=>no)
  |none=>no)=_
 rw[fq,aA,o];dsimp only;rw[zn,e1];dsimp only;have nd2:((κ.map λk=>(((k.2,k.1),F k):(List Int×Int)×Int)).map (·.1)).Nodup:=by
  rw[Gg];exact List.Pairwise.map _ (λa b (h:a≠b) (e:(a.2,a.1)=(b.2,b.1))=>h (by injection e with e1 e2;exact Prod.ext e2 e1)) nd
 rw[Fx,af ⟨l1,lz,nd2⟩,af ⟨e2,e3⟩];congr 2;simp only[Gg];refine GV λi hi=>?_;show (κ.map (rwW∘λk=>(k,F k))).getD i .non=rwW (κ.getD i kf,F (κ.getD i kf));rw[Gu,Gu,FG,F4 (e3 i hi)];rfl
noncomputable def ckQ (n:Nat):Bool:=decide (n=5)||match MQ (prs n) with
 |some π=>decide (π.size=(prs n).length) && (π.toList.all (λi=>decide (i<(prs n).length)) && (π.toList.map λi=>(prs n).getD i kf).isPerm (lpr n))
 |none=>false
theorem DR:six ckQ=true:=⋯
theorem vZ {n:Nat}(n5:n<5)(F:PKy->Int): ∃κ:List PKy,κ.Perm (lpr n)/\PD [.tl (((prs n).map λk=>(k,F k)).map rwW)]=pr (.tl ((κ.map λk=>(k,F k)).map rwW)):=by
 have n6:n<6:=∅;have h:=gP DR n6;unfold ckQ at h;rw[decide_eq_false (show¬n=5 by omega),HC] at h;have pl:=(d7 n6).2;have lz:=(lQ n6).1;have l1:1<=(lpr n).length:=by unfold lpr;simp
 have pe:=pl.length_eq;cases e:MQ (prs n) with
 |none=>rw[e] at h;cases h
 |some π=>
  rw[e] at h;simp only[F7,decide_eq_true_eq,Gf,IP] at h;obtain⟨h1,h2,h3⟩:=h;exact⟨_,h3,v4 F e h1 h2 (pl.nodup_iff.mpr (d7 n6).1) ∅ ∅⟩
noncomputable def ckP (n:Nat):Bool:=(List.range (prs n).length).all λi=>match (prs n)[i]? with
 |some k=>decide (k=kf)||(Nh (wo k.2 k.1)).all λp=>decide ((p,wo k.2 k.1)∈(prs n).take i)
 |none=>false
theorem DS:six ckP=true:=⋯
theorem Dw {n:Nat}(n6:n<6){i:Nat}(h:(prs n)[i]?=some k)(hk:k≠kf): ∀p∈Nh (wo k.2 k.1),(p,wo k.2 k.1)∈(prs n).take i:=by
 have q:=Gf.mp (gP DS n6) i (GQ.mpr (FO.mp h).1);rw[h] at q;simp only[Bool.or_eq_true,decide_eq_true_eq,Gf] at q;exact q.resolve_left hk
noncomputable abbrev F0 (G:Int->Int->Int):PKy->Int:=Fn G λ_=>0
theorem DI {n:Nat}(n6:n<6)(G:Int->Int->Int)(km:k∈lpr n):Ng G (F0 G) k=F0 G k:=by
 unfold Ng;by_cases e:k=kf
 ·rw[if_pos e,e];rfl
 ·rw[if_neg e];have:=E4 G (λ_=>0) (iS n6 km e).1;rw[GX] at this;exact this.symm
theorem uA {h:List Ob}{P x:W}{bs:List B23}{cs:List Int}{m:Nat}(hp:ixW P (.int 1)=pr x)(hx:Lw h x (bs.map B23.w))(hm:bs.length=m)(m1:1<=m)(m2:m<=6)(hb: ∀b∈bs,b.e.tos.length<=6)(hc:(Qo (L0 bs)).length=cs.length){κ:List PKy}
  (hs:PD [.tl (((prs (m - 1)).map λk=>(k,F0 (Mm (zsL (L0 bs) cs)) k)).map rwW)]=pr (.tl ((κ.map λk=>(k,F0 (Mm (zsL (L0 bs) cs)) k)).map rwW))):
  Ok (jt [P,.tl (cs.map W.int)]) h λw h'=>w=.tl ((κ.map λk=>(k,F0 (Mm (zsL (L0 bs) cs)) k)).map rwW)/\Nw h h':=by
 have e0:jt [P,.tl (cs.map W.int)]=bd (j8 [some P,some (.tl (cs.map W.int)),none,none,none,none]) Mb:=rfl;rw[e0];unfold j8;obtain⟨n,hn⟩: ∃n,n=m - 1:=⟨_,rfl⟩
 have n6:n<6:=∅;rw[<-hn] at hs;obtain⟨N,hN⟩: ∃N:Int,N=(m:Int):=⟨_,rfl⟩
 have lz:=(lQ n6).1;have pl:=(d7 n6).2;have nd:(prs n).Nodup:=pl.nodup_iff.mpr (d7 n6).1;simp!;refine aI (pY hp hx ∅ hb hc) λw h1 qq_=>?_;obtain⟨jg,gk,gw,ew,D,GG⟩:=qq_;subst ew;generalize Mm (zsL (L0 bs) cs)=G at *;generalize W.tl (cs.map W.int)=CW at *;simp!;refine kY ?_;simp! only[aa,hp];refine Lw.len_eq ((hx.keep D.nw.eq).keep (Nf.mk0 (h:=h1) (b:=.din true [] [])).nw.eq) (N:=N) (by rw[Fx,hm];exact hN) ?_;simp!;refine aI (pG hN m1 m2 _) λw h2 qq_=>?_;obtain⟨ew,N2⟩:=qq_;rw[<-hn,show M0 true=kyW from rfl] at ew;subst ew;have D2:=(Nd.mk0 (h:=h1) (b:=.din true [] [])).more N2;simp! only[aa,cL];refine cp (I:=λi ρ h'=> ∃a b,ρ=[some P,some CW,some (.loc jg),some (.loc h1.length),a,b]/\Nd h1 h' h1.length (.din true ((prs n).take i) (((prs n).take i).map λk=>.int (F0 G k)))) ⟨_,_,rfl,D2⟩ (λ_ _ _ _=>trivial) (λi w ρ h3 hw I=>?_) λρ h3 I=>?_
 ·obtain⟨a,b,rfl,N3⟩:=I;rw[FG] at hw;obtain⟨k,hk,rfl⟩:=FQ.mp hw;have km:=pl.mem_iff.mp (F9 hk);have hi:=(FO.mp hk).1;refine⟨[some P,some CW,some (.loc jg),some (.loc h1.length),some (.tup (k.2.map W.int)),some (.int k.1)],rfl,?_⟩;have cc:k≠kf->SK k/\ ∀p∈Nh (wo k.2 k.1),atK ((prs n).take i) (((prs n).take i).map λk=>.int (F0 G k)) (p,wo k.2 k.1)=some (.int (F0 G (p,wo k.2 k.1))):=λne=>
   ⟨(iS n6 km ne).1,λp hp=>ug (f:=λk=>.int (F0 G k)) (Dw n6 hk ne p hp)⟩
  simp! only[aa,dM];refine aI (xL (F:=F0 G) (k:=k) (N3.nw.get D.new) GG (dS N3.new) cc) λw h4 qq_=>?_;obtain⟨ew,e4⟩:=qq_;subst ew e4;rw[DI n6 G km];have nm:k ∉ (prs n).take i:=λz=>by
   have e1:prs n=(prs n).take i++k::(prs n).drop (i+1):=by
    obtain⟨_,e⟩:=FO.mp hk;rw[<-e,<-Ha hi,Jp]
   have nd2:=nd;rw[e1] at nd2;exact (Hg.mp nd2).2.2 k z k FI rfl
  simp! only[aa,Qh];refine rh (p:=k.1) (l:=k.2) N3.new (by rw[Gk];exact Gm (show _<=81 by have:=pl.length_eq;omega) ↥_) (sP nm) ?_;simp!;refine ae ⟨_,rfl,_,_,rfl,?_⟩;rw[am hk,Fz];exact N3.put _
 ·obtain⟨a,b,rfl,N3⟩:=I;rw[Fx,FS] at N3;simp!;refine aR (a:=.dn true (prs n) ((prs n).map λk=>.int (F0 G k))) (h':=h3.set h1.length .gone) (by unfold Mr;simp only[N3.new]) ?_;have sI:PP (.dn true (prs n) ((prs n).map λk=>.int (F0 G k)))=pr ⟨(prs n).map λk=>.tup [kyW k,.int (F0 G k)],λ_=>True⟩:=by
   show pr (⟨HP (λk w=>W.tup [M0 true k,w]) (prs n) ((prs n).map λk=>.int (F0 G k)),λ_=>True⟩:Sr)=_;congr 2;rw[List.zipWith_map_right,List.zipWith_self];rfl
  have gl: ∀ {α:Type} (q:M α),gd (((prs n).map λk=>W.tup [kyW k,.int (F0 G k)]).length<=sizeLine) q=q:=λq=>af (by rw[Fx,pl.length_eq];exact sz ∅);simp! only[aa,sI,gl];refine dj (I:=λi l h'=>h'=h3.set h1.length .gone/\l=(((prs n).take i).map λk=>(k,F0 G k)).map rwW) ⟨rfl,rfl⟩ eS (λ_ _ _ _=>trivial) (λi w l h' hw I=>?_) λl h' I=>?_
  ·obtain⟨rfl,rfl⟩:=I;rw[FG] at hw;obtain⟨k,hk,rfl⟩:=FQ.mp hw;refine⟨[some (kyW k),some (.int (F0 G k)),none,some P,some CW,some (.loc jg),some (.loc h1.length),a,b],rfl,?_⟩;have ea:Lr (kyW k) (.tup [.int (F0 G k)])=pr (rwW (k,F0 G k)):=addT _ _ _ (by show 1+1<=100;decide);simp! only[List.replicate,Gh,Gj,aa,Qh,ea];refine ae ⟨rfl,?_⟩;rw[am hk,Fz,Fz];rfl
  ·obtain⟨rfl,rfl⟩:=I;rw[Fx,FS];simp! only[aa,hs];exact ae ⟨rfl,D.nw.trans (N3.put .gone).nw⟩
end
section
noncomputable def dc (n:Nat)(G:Int->Int->Int)(rs:List (PKy×Int)):Bool:=decide (rs.length=(prs n).length) && ((prs n).all (λk=>(lk rs k).isSome) && (prs n).all λk=>decide (Ng G (vl rs) k<=vl rs k))
theorem DE (l:List Bool):Lu [.tl (l.map W.bl)]=pr (.bl (l.any id)):=by
 show bd (Nk (.tl (l.map W.bl))) (λl=>match Om bOf l with
  |some ns=>pr (W.bl (ns.any id))
  |none=>no)=_
 rw[fq,aA,cR (f:=bOf) (g:=W.bl) (k:=λb=>b) (λa=>rfl),IQ]
noncomputable def bRv:La->M Fl:=(O9 (Pa 8 (Nn (arW 2 iA) (Np (NE 0) (Np (NE 1) Nx)))) (O7 (Nn Ls (Np (mTl (No [] (NB (NE 3) PQ) (tgT [0,1]) NF (m2 geW (m2 MI (NE 7) (ND (Np (NE 0) (Np (NE 1) Nx)))) (Nn (arW 4 bg) (Np (NE 0) (Np (NE 1) (Np (NE 7) (Np (NE 11) Nx)))))) 3)) Nx))))
noncomputable def bRt:La->M Fl:=(O9 (sIf (mOr (mB (m2 neW (Nn Na (Np (NE 2) Nx)) (Nn Na (Np (NE 3) Nx)))) (mB (Nn Lu (Np (mTl (No [] (NB (NE 3) PQ) (tgN 0) NF (m2 (Ms true) (NE 0) (NE 6)) 2)) Nx)))) (O7 (mC (.bl false))) O6) bRv)
theorem kS:gq=(O9 (Pa 3 (Nn (arW 1 iz) (Np (Nn Na (Np (m2 ixW (NE 0) ⇑1) Nx)) Nx))) (O9 (Pa 4 (iR true)) (O9 (O4 (NB (NE 2) PQ) (tgT [5,6,7]) (dM (NE 4) (ND (Np (NE 5) (Np (NE 6) Nx))) (NE 7))) bRt))):=rfl
theorem Dz {bs:List B23}{cs:List Int}{n jn:Nat}{ws:List W}(hp:ixW P (.int 1)=pr x)(hx:Lw h x (bs.map B23.w))(hl:bs.length<=10)(n6:n<6)(hb: ∀b∈bs,b.e.tos.length<=6)(hc:(Qo (L0 bs)).length=cs.length)
  (en:h[jn]?=some (.din true ks ws))(ek: ∀k,atK ks ws k=(lk rs k).map W.int)(hs: ∀k∈prs n,(lk rs k).isSome=true):
  Ok (bRv [some P,some (.tl (cs.map W.int)),some t,some (.tl ((prs n).map kyW)),some (.loc jn),a,b,c,none]) h λw h'=>w=.rt (.bl ((prs n).all λk=>decide (Ng (Mm (zsL (L0 bs) cs)) (vl rs) k<=vl rs k)))/\Nw h h':=by
 unfold bRv;have hat: ∀k,(lk rs k).isSome=true->atK ks ws k=some (.int (vl rs k)):=λk hk=>by
  rw[ek];unfold vl;obtain⟨v,e⟩:=HA.mp hk;rw[e];rfl
 simp!;refine aI (pY hp hx hl hb hc) λw h1 qq_=>?_;obtain⟨jg,gk,gw,ew,D,GG⟩:=qq_;subst ew;have lz:=(lQ n6).1;have pl:=(d7 n6).2;have gl: ∀ {α:Type} (q:M α),gd (((prs n).map kyW).length<=sizeLine) q=q:=λq=>af (by rw[Fx,pl.length_eq];exact sz ∅);generalize Mm (zsL (L0 bs) cs)=G at *;simp! only[aa,cL,gl];refine dj (I:=λi l h'=>h'=h1/\l=(((prs n).take i).map λk=>decide (Ng G (vl rs) k<=vl rs k)).map W.bl) ⟨rfl,rfl⟩ eS (λ_ _ _ _=>trivial) (λi w l h' hw I=>?_) λl h' I=>?_
 ·obtain⟨rfl,rfl⟩:=I;rw[FG] at hw;obtain⟨k,hk,rfl⟩:=FQ.mp hw;have km:=F9 hk;refine⟨[some (.tup (k.2.map W.int)),some (.int k.1),none,some P,some (.tl (cs.map W.int)),some t,some (.tl ((prs n).map kyW)),some (.loc jn),a,b,c,some (.loc jg)],rfl,?_⟩;have e1:=dS (D.nw.get en);simp! only[List.replicate,Gh,Gj,aa,Qh];refine kW e1 (hat k (hs k km)) ?_;simp!;have cc:k≠kf->SK k/\ ∀p∈Nh (wo k.2 k.1),atK ks ws (p,wo k.2 k.1)=some (.int (vl rs (p,wo k.2 k.1))):=λne=>by
   obtain⟨q1,q2⟩:=iS n6 (pl.mem_iff.mp km) ne;exact⟨q1,λp hp=>hat _ (hs _ (pl.mem_iff.mpr (q2 p hp)))⟩
  refine aI (xL (F:=vl rs) D.new GG e1 cc) λw h2 qq_=>?_;obtain⟨ew,e2⟩:=qq_;subst ew e2;simp!;refine ae ⟨rfl,?_⟩;rw[am hk,Fz,Fz];rfl
 ·obtain⟨rfl,rfl⟩:=I;rw[Fx,FS];simp! only[aa,DG];refine ae ⟨?_,D.nw⟩;rw[HU];rfl
theorem wk {bs:List B23}{cs:List Int}{m:Nat}(hp:ixW P (.int 1)=pr x)(hx:Lw h x (bs.map B23.w))(hm:bs.length=m)(m1:1<=m)(m2:m<=6)(hb: ∀b∈bs,b.e.tos.length<=6)(hc:(Qo (L0 bs)).length=cs.length)(lr:rs.length<=1000):
  Ok (d5 [P,.tl (cs.map W.int),.tl (rs.map rwW)]) h λw h'=>w=.bl (dc (m - 1) (Mm (zsL (L0 bs) cs)) rs)/\Nw h h':=by
 have e0:d5 [P,.tl (cs.map W.int),.tl (rs.map rwW)]=bd (gq [some P,some (.tl (cs.map W.int)),some (.tl (rs.map rwW)),none,none,none,none,none,none]) Mb:=rfl;rw[e0,kS];obtain⟨n,hn⟩: ∃n,n=m - 1:=⟨_,rfl⟩
 have n6:n<6:=∅;rw[<-hn];obtain⟨N,hN⟩: ∃N:Int,N=(m:Int):=⟨_,rfl⟩
 have lz:=(lQ n6).1;have pl:=(d7 n6).2;have gl: ∀ {α:Type} (q:M α),gd (((prs n).map kyW).length<=sizeLine) q=q:=λq=>af (by rw[Fx,pl.length_eq];exact sz ∅);have v2:=λ(h:List Ob) (jn:Nat) (a b c:Option W) (ks:List PKy) (ws:List W) hx en ek hs=>Dz (h:=h) (P:=P) (x:=x) (t:=.tl (rs.map rwW)) (bs:=bs) (cs:=cs) (n:=n) (jn:=jn) (a:=a) (b:=b) (c:=c) (ks:=ks) (ws:=ws) (rs:=rs) hp hx ∅ n6 hb hc en ek hs;generalize W.tl (cs.map W.int)=CW at *;simp! only[aa,hp];refine Lw.len_eq hx (N:=N) (by rw[Fx,hm];exact hN) ?_;simp!;refine aI (pG hN m1 m2 h) λw h1 qq_=>?_;obtain⟨ew,N1⟩:=qq_;rw[<-hn,show M0 true=kyW from rfl] at ew;subst ew;simp!;refine kY ?_;simp! only[aa,cL];refine cp (I:=λi ρ h'=> ∃a b c ks ws,ρ=[some P,some CW,some (.tl (rs.map rwW)),some (.tl ((prs n).map kyW)),some (.loc h1.length),a,b,c,none]/\Nf h1 h' (.din true ks ws)/\ks.length=ws.length/\ks.length<=i/\ ∀k,atK ks ws k=(lk (rs.take i) k).map W.int) ⟨_,_,_,[],[],rfl,Nf.mk0,rfl,Fy _,λ_=>rfl⟩ (λ_ _ _ _=>trivial) (λi w' ρ h2 hw I=>?_) λρ h2 I=>?_
 ·obtain⟨a,b,c,ks,ws,rfl,N2,l1,l2,ek⟩:=I;rw[FG] at hw;obtain⟨r,hr,rfl⟩:=FQ.mp hw;have hi:=(FO.mp hr).1;obtain⟨⟨p,s⟩,v⟩:=r;refine⟨[some P,some CW,some (.tl (rs.map rwW)),some (.tl ((prs n).map kyW)),some (.loc h1.length),some (.tup (s.map W.int)),some (.int p),some (.int v),none],rfl,?_⟩;simp! only[aa,dM,Qh];rcases ep:OI ks ws (p,s) (.int v) with⟨ks',ws'⟩;obtain⟨g1,g2,g3⟩:=ko l1 ep;refine rh N2.new (Gm (show _<=1000 by omega) ↥_) ep ?_;simp!;refine ae ⟨_,rfl,_,_,_,ks',ws',rfl,N2.put _,g1,∅,λk=>?_⟩;rw[am hr,tu,g3];by_cases e:(p,s)=k
  ·rw[if_pos e,if_pos e];rfl
  ·rw[if_neg e,if_neg e];exact ek k
 ·obtain⟨a,b,c,ks,ws,rfl,N2,l1,l2,ek⟩:=I;rw[Fx,FS] at ek;unfold bRt;unfold dc;by_cases q:((rs.map rwW).length:Int)=(((prs n).map kyW).length:Int)
  ·have q':rs.length=(prs n).length:=by rw[Fx,Fx] at q;omega
   rw[decide_eq_true q',IJ];simp! only[aa,decide_eq_true q,cL,gl];refine dj (I:=λi l h'=>h'=h2/\l=(((prs n).take i).map λk=>!(lk rs k).isSome).map W.bl) ⟨rfl,rfl⟩ eS (λ_ _ _ _=>trivial) (λi w' l h' hw I=>?_) λl h' I=>?_
   ·obtain⟨rfl,rfl⟩:=I;rw[FG] at hw;obtain⟨k,hk,rfl⟩:=FQ.mp hw;refine⟨_,rfl,?_⟩;unfold kyW;simp! only[List.replicate,Gh,Gj,aa,Qh];refine Ei (a:=.bl ((atK ks ws k).isSome !=true)) (h':=h') ?_ ⟨rfl,?_⟩
    ·unfold Ms;simp only[dS N2.new,jJ]
    ·rw[am hk,Fz,Fz,FK,FK,ek,GJ];cases (lk rs k).isSome<;>rfl
   ·obtain⟨rfl,rfl⟩:=I;rw[Fx,FS];simp! only[aa,DE];by_cases s:(prs n).all (λk=>(lk rs k).isSome)=true
    ·have s1:((prs n).map λk=>!(lk rs k).isSome).any id=false:=by
      rw[HH,IT];intro k hk;have:=Gf.mp s k hk;show¬(!(lk rs k).isSome)=true;rw[this];simp
     rw[s1,s,IJ];simp!;refine aI (v2 _ _ _ _ _ _ _ ((hx.keep N1.eq).keep N2.nw.eq) N2.new ek λk hk=>Gf.mp s k hk) λx h3 qq_=>?_;obtain⟨ex,N3⟩:=qq_;subst ex;simp!;exact ae ⟨rfl,(N1.trans N2.nw).trans N3⟩
    ·have s1:((prs n).map λk=>!(lk rs k).isSome).any id=true:=by
      rw[HH,GO];have s2:(prs n).all (λk=>(lk rs k).isSome)=false:=by rw[<-He];exact s
      obtain⟨k,hk,e⟩:=List.all_eq_false.mp s2;exact⟨k,hk,by show (!(lk rs k).isSome)=true;rw[He] at e;rw[e];rfl⟩
     have s2:(prs n).all (λk=>(lk rs k).isSome)=false:=by rw[<-He];exact s
     rw[s1,s2,Ig];simp!;exact ae ⟨rfl,N1.trans N2.nw⟩
  ·have q': ¬(rs.length=(prs n).length):=by rw[Fx,Fx] at q;omega
   rw[decide_eq_false q',Ig];simp! only[aa,decide_eq_false q];exact ae ⟨rfl,N1.trans N2.nw⟩
end
section
noncomputable abbrev ev (m:Nat):List Int:=(List.range m).map H9
theorem ly: ∀ (n:Nat) (lo:Int),Mw lo n=(List.range n).map λi=>W.int (lo+(i:Nat))
 |0,_=>rfl
 |n+1,lo=>by
  rw[Mw,ly n,Jq,FK,Gg];congr 1
  ·show W.int lo=W.int (lo+0);rw[GX]
  ·refine GV λi _=>?_;show W.int (lo+1+(i:Nat))=W.int (lo+((i+1:Nat):Int));congr 1;omega
theorem tO (m:Nat):Mw 0 m=(ev m).map W.int:=by
 rw[ly,Gg];refine GV λi _=>?_;show W.int (0+(i:Nat))=W.int (H9 i);rw[IN];rfl
theorem jB (ns:List Int):P1 [.tl (ns.map W.int)]=pr (.int ns.sum):=by
 show (match Om iOf (ns.map W.int) with
  |some ns=>(pr (W.int ns.sum):M W)
  |none=>no)=_
 rw[Mp]
theorem yK {h:List Ob}{P x:W}{bs:List B23}{cs:List Int}{m:Nat}{rs:List (PKy×Int)}(hp:ixW P (.int 1)=pr x)(hx:Lw h x (bs.map B23.w))(hm:bs.length=m)(m2:m<=6)(lr:rs.length<=1000)(ne:(rs.filter λr=>decide (r.1.2=ev m))≠ []):
  Ok (d6 [P,.tl (cs.map W.int),.tl (rs.map rwW)]) h λw h'=>w=.int (cs.sum - NH ((rs.filter λr=>decide (r.1.2=ev m)).map (·.2)))/\h'=h:=by
 have e0:d6 [P,.tl (cs.map W.int),.tl (rs.map rwW)]=bd (gu [some P,some (.tl (cs.map W.int)),some (.tl (rs.map rwW)),none]) Mb:=rfl;rw[e0];unfold gu;obtain⟨N,hN⟩: ∃N:Int,N=(m:Int):=⟨_,rfl⟩
 have tr:Qf [.int N]=pr (.tup ((ev m).map W.int)):=by
  show gd ((-(2 ^ 62)<=N/\N<2 ^ 62)/\N.toNat<=sizeLine) (pr (W.tup (Mw 0 N.toNat)))=_;rw[af ⟨⟨∅,∅⟩,sz ∅⟩,show N.toNat=m by omega,tO]
 have gl: ∀ {α:Type} (q:M α),gd ((rs.map rwW).length<=sizeLine) q=q:=λq=>af (by rw[Fx];exact sz ∅);simp! only[aa,hp];refine Lw.len_eq hx (N:=N) (by rw[Fx,hm];exact hN) ?_;generalize ev m=E at *;have sm:=jB cs;generalize W.tl (cs.map W.int)=CW at *;simp! only[aa,tr,sm,cL,gl];refine gZ (I:=λi l h'=>h'=h/\l=(((rs.take i).filter λr=>decide (r.1.2=E)).map (·.2)).map W.int) ⟨rfl,rfl⟩ (λ_ _ _ _=>trivial) (λi w' l h' hw I=>?_) λl h' I=>?_
 ·obtain⟨rfl,rfl⟩:=I;rw[FG] at hw;obtain⟨r,hr,rfl⟩:=FQ.mp hw;obtain⟨⟨p,s⟩,v⟩:=r;refine⟨[some (.tup (s.map W.int)),some (.int p),some (.int v),none,some P,some CW,some (.tl (rs.map rwW)),some (.tup (E.map W.int))],rfl,?_⟩;simp! only[List.replicate,Gh,Gj,aa,eqT];rw[am hr,H0];by_cases e:s=E
  ·refine ae (.inr ⟨decide_eq_true e,ae ⟨rfl,?_⟩⟩);rw[Iy (by exact decide_eq_true e),Fz,Fz];rfl
  ·refine ae (.inl ⟨decide_eq_false e,rfl,?_⟩);rw[HI (by simp only[decide_eq_true_eq];exact e),Ia,Gd]
 ·obtain⟨rfl,rfl⟩:=I;rw[Fx,FS];simp! only[aa,oI (show (rs.filter λr=>decide (r.1.2=E)).map (·.2)≠ [] from λz=>ne (GY.mp z))];exact ae ⟨rfl,rfl⟩
end
section
theorem rm (x:Int)(r:List Int):cy (.int x) (.tup (r.map W.int))=pr (.bl (!decide (x∈r))):=by
 funext h;unfold cy;have e:inB (.int x) (.tup (r.map W.int)) h=some (decide (x∈r)):=by
  show (match vOf (.int x),Qm (r.map W.int) with
   |some v,some vs=>some (inV v vs)
   |_,_=>none)=_
  rw[dW (k:=V.int) (λa=>rfl)];show some (inV (.int x) (r.map V.int))=_;congr 1;unfold inV;rw[Gz,GO,decide_eq_true_eq];constructor
  ·rintro⟨v,hv,q⟩
   obtain⟨y,hy,rfl⟩:=FW.mp hv;have:y=x:=by simpa [eqV] using q
   subst this;exact hy
  ·intro q;exact⟨.int x,FW.mpr ⟨x,q,rfl⟩,by simp [eqV]⟩
 rw[e];rfl
noncomputable def ia (m:Nat):List Int:=(List.range m).map λ(k:Nat)=>(k:Int)
noncomputable def On (m:Nat)(one:List Int):List Int:=(ia m).filter λx=>!decide (x∈one)
noncomputable def L8 (m:Nat)(one:List Int):List (List Int):=(On m one).map λx=>one++[x]
noncomputable def itr (m:Nat):Nat->List (List Int)->List (List Int)
 |0,l=>l
 |n+1,l=>itr m n (l.flatMap (L8 m))
theorem jp (m:Nat): ∀ (n:Nat) (l:List (List Int)),itr m (n+1) l=(itr m n l).flatMap (L8 m)
 |0,l=>rfl
 |n+1,l=>by
  show itr m (n+1) (l.flatMap (L8 m))=(itr m n (l.flatMap (L8 m))).flatMap (L8 m);exact jp m n _
theorem fu (m:Nat): ∀ (n:Nat) (s:List Int),s∈itr m n [[0]]-> ∃r,s=0::r/\r.length=n
 |0,s,h=>⟨[],FZ.mp h,rfl⟩
 |n+1,s,h=>by
  rw[jp] at h;obtain⟨t,ht,h⟩:=HZ.mp h;obtain⟨x,_,rfl⟩:=FW.mp h;obtain⟨r,rfl,l⟩:=fu m n t ht;exact⟨r++[x],rfl,by rw[FE,l];rfl⟩
theorem oG {α β:Type}{c:Nat}{f:α->List β}: ∀l:List α,(∀x∈l,(f x).length<=c)->(l.flatMap f).length<=l.length * c
 |[],_=>FY _
 |x::l,h=>by
  have:=oG l λy hy=>h y (FV _ hy);have hx:=h x FI;rw[Hr,FE,FH,IL,Nat.one_mul];omega
theorem lH (m:Nat)(one:List Int):(L8 m one).length<=m:=by
 unfold L8 On;rw[Fx];refine F6 (List.length_filter_le _ _) ?_;unfold ia;rw[Fx,HW];exact Fy _
theorem j7 {m:Nat}(hm:m<=6): ∀n,(itr m n [[0]]).length<=6 ^ n
 |0=>Fy _
 |n+1=>by
  rw[jp,Nat.pow_succ];refine F6 (oG (c:=6) _ λx _=>F6 (lH m x) hm) (Nat.mul_le_mul_right _ (j7 hm n))
noncomputable def ins (x:Int):List Int->List Int
 |[]=>[x]
 |y::l=>if x<y then x::y::l else y::ins x l
noncomputable def okw (n:Nat):List Int->Int->List Int->Bool
 |S,p,[]=>decide (S=ev (n+1))
 |S,p,x::r=>decide ((x,ins x S)∈lpr n) && (!decide ((x,ins x S)=kf) && (decide (wo (ins x S) x=S) && (decide (p∈Nh S) && okw n (ins x S) x r)))
noncomputable def ckO (n:Nat):Bool:=(itr (n+1) n [[0]]).all λos=>decide (os.Nodup) && okw n [0] 0 os.tail
theorem DT:six ckO=true:=⋯
theorem yz {n:Nat}(hn:n<6){os:List Int}(h:os∈itr (n+1) n [[0]]):os.Nodup/\okw n [0] 0 os.tail=true:=by
 have q:=Gf.mp (gP DT hn) os h;simp only[F7,decide_eq_true_eq] at q;exact q
theorem wX {n:Nat}(n6:n<6){G:Int->Int->Int}{F:PKy->Int}(hr: ∀k∈lpr n,Ng G F k<=F k): ∀ (r S:List Int) (p:Int),(p,S)∈lpr n->okw n S p r=true-> ∃k∈lpr n,k.2=ev (n+1)/\F (p,S)+OD G (p::r)<=F k
 |[],S,p,h,q=>by
  unfold okw at q;exact⟨(p,S),h,of_decide_eq_true q,by show F (p,S)+0<=_;omega⟩
 |x::r,S,p,h,q=>by
  unfold okw at q;simp only[F7,IY,decide_eq_true_eq,decide_eq_false_iff_not] at q;obtain⟨q1,q2,q3,q4,q5⟩:=q;obtain⟨k,k1,k2,k3⟩:=wX n6 hr r (ins x S) x q1 q5;refine⟨k,k1,k2,?_⟩;have h1:=hr _ q1;unfold Ng at h1;rw[if_neg q2] at h1;have c:=(iS n6 q1 q2).1;have h2:F (p,S)+G p x<=Ni G F (x,ins x S):=by
   unfold Ni;refine (hU λz=>ot c (GY.mp z)).2 _ (FW.mpr ⟨p,?_,?_⟩)
   ·show p∈Nh (wo (ins x S) x);rw[q3];exact q4
   ·show F (p,wo (ins x S) x)+G p x=_;rw[q3]
  have h3:OD G (p::x::r)=G p x+OD G (x::r):=rfl;rw[h3];omega
theorem wP {n:Nat}(n6:n<6){G:Int->Int->Int}{F:PKy->Int}(hr: ∀k∈lpr n,Ng G F k<=F k){os:List Int}(h:os∈itr (n+1) n [[0]]): ∃k∈lpr n,k.2=ev (n+1)/\OD G os<=F k:=by
 obtain⟨r,rfl,_⟩:=fu _ _ _ h;have m0:kf∈lpr n:=FI;obtain⟨k,k1,k2,k3⟩:=wX n6 hr r [0] 0 m0 (yz n6 h).2;refine⟨k,k1,k2,?_⟩;have h0:=hr kf m0;unfold Ng at h0;rw[if_pos rfl] at h0;have:F (0,[0])=F kf:=rfl;omega
end
section
open Wd
theorem cp6:K3 10 6:=⟨↥_,↥_,↥_⟩
noncomputable def LL (ys:List Int)(n:Nat):List Int:=(List.range n).map λ(k:Nat)=>ys.getD (k % 12) 0 / (1+((0:Int)+(k:Int)) / 12) % (([4,40,10 ^ (6:Int).toNat]:List Int).getD (ys.getD ((k+5) % 12) 0 % 3).toNat 1)
theorem qg (ys:List Int)(n:Nat):(LL ys n).length=n:=by unfold LL;simp
theorem C6: ∀i,i<3->0<(([4,40,10 ^ (6:Int).toNat]:List Int).getD i 1):=↥_
theorem su {ys:List Int}{k:Nat}{i:Int}(hi:i=(k:Int))(h:k<ys.length):ixW (.tl (ys.map W.int)) (.int i)=pr (.int (ys.getD k 0)):=by
 subst hi;exact bU (aQ ∅ (by rw[FG,show ((k:Int)).toNat=k by omega,Gu,F4 h];rfl))
theorem rW (sc:List Int){A:Int}(hA:0<=A): ∃ys:List Int,ys.length=12/\ ∀ (h:List Ob) (l:List W),l.length<=1000->Ok (cK [.cl (sc.map W.int),.int A,.tl l]) h λw h'=>w=.tl ((LL ys l.length).map W.int)/\Fo h.length h h':=by
 obtain⟨c,ec⟩:=oK sc A hA;refine⟨NV c 12,g7 c 12,λh l hl=>?_⟩;have yl:=g7 c 12;have no:=λh:List Ob=>j4 (h:=h) (c:=c) (N:=12) (n:=12) rfl ↥_;generalize NV c 12=ys at *;have e0:cK [.cl (sc.map W.int),.int A,.tl l]=bd (du [some (.cl (sc.map W.int)),some (.int A),some (.tl l),none,none,none]) Mb:=rfl;rw[e0];unfold du;obtain⟨N,hN⟩: ∃N:Int,N=(l.length:Int):=⟨_,rfl⟩
 have eL:Na [.tl l]=pr (.int N):=by rw[lenW_tl,hN]
 have eN:N.toNat=l.length:=∅;obtain⟨LW,hLW⟩: ∃LW,LW=W.tl l:=⟨_,rfl⟩
 rw[<-hLW] at eL ⊢;obtain⟨YW,hYW⟩: ∃YW,YW=W.tl (ys.map W.int):=⟨_,rfl⟩
 have ix: ∀ (k:Nat) (i:Int),i=(k:Int)->k<12->ixW YW (.int i)=pr (.int (ys.getD k 0)):=λk i hi hk=>by rw[hYW];exact su hi ∅
 simp! only[aa,ec];refine aI (no h) λw h1 qq_=>?_;obtain⟨ew,F1⟩:=qq_;rw[<-hYW] at ew;rw[ew];simp!;refine f7 ?_;simp! only[aa,eL,kK (show (-(2 ^ 62):Int)<=N by omega) (show N<2 ^ 62 by omega)];refine cp (I:=λi ρ h'=> ∃a,ρ=[some (.cl (sc.map W.int)),some (.int A),some LW,some YW,some (.loc h1.length),a]/\h'.length=h1.length+1/\(∀j,j<h1.length->h'[j]?=h1[j]?)/\h'[h1.length]?=some (.lst ((LL ys i).map W.int))) ⟨_,rfl,⇑_,λj hj=>Gr hj,ga⟩ (λ_ _ _ _=>trivial) (λi w ρ h2 hw I=>?_) λρ h2 I=>?_
 ·obtain⟨a,rfl,l1,q1,q2⟩:=I;obtain⟨rfl,hi⟩:=cJ _ _ _ _ hw;rw[eN] at hi;have a0:=Gq (ys.getD ((i+5) % 12) 0) (show (3:Int)≠0 by decide);have a1:=Gn (ys.getD ((i+5) % 12) 0) (show (0:Int)<3 by decide);have i1:=ix (i % 12) ((0+(i:Int)) % 12) ∅ ∅;have i2:=ix ((i+5) % 12) ((0+(i:Int)+5) % 12) ∅ ∅;have er:LL ys (i+1)=LL ys i++[ys.getD (i % 12) 0 / (1+((0:Int)+(i:Int)) / 12) % (([4,40,10 ^ (6:Int).toNat]:List Int).getD (ys.getD ((i+5) % 12) 0 % 3).toNat 1)]:=by
   unfold LL;rw[Hc,Fz];rfl
  have mp:=C6 (ys.getD ((i+5) % 12) 0 % 3).toNat ∅;have i3:ixW (.tl [.int 4,.int 40,.int (10 ^ (6:Int).toNat)]) (.int (ys.getD ((i+5) % 12) 0 % 3))=pr (.int (([4,40,10 ^ (6:Int).toNat]:List Int).getD (ys.getD ((i+5) % 12) 0 % 3).toNat 1)):=bU (hJ W.int [4,40,10 ^ (6:Int).toNat] 1 a0 a1);generalize (([4,40,10 ^ (6:Int).toNat]:List Int).getD (ys.getD ((i+5) % 12) 0 % 3).toNat 1)=mm at *;generalize ys.getD (i % 12) 0=u at *;generalize ys.getD ((i+5) % 12) 0=v at *;refine⟨_,rfl,?_⟩;simp!;refine cn q2 ?_;simp! only[aa,ah (show (0:Int)<12 by decide),i1,i2,bW (show (0:Int)<12 by decide) ↥_,kM cp6,ah (show (0:Int)<3 by decide),i3,bW (show 0<1+((0:Int)+(i:Int)) / 12 by omega) (Int.lt_of_le_of_lt (show 1+((0:Int)+(i:Int)) / 12<=1001 by omega) ↥_),ah mp];refine dI q2 (by rw[Fx,qg];exact Gm (show _<=1000 by omega) ↥_) ?_;simp!;refine ae ⟨_,rfl,_,rfl,by rw[Go];exact l1,λj hj=>by rw[FR ∅];exact q1 j hj,?_⟩;rw[cU q2,er,Fz];rfl
 ·obtain⟨a,rfl,l1,q1,q2⟩:=I;rw[cB,eN] at q2;simp!;refine gY q2 ?_;simp!;have:=F1.le;exact ae ⟨rfl,λi hi=>by rw[FR ∅,q1 i ∅];exact F1.eq i hi,by rw[Go,l1];omega⟩
theorem EM (e:E17):inW (.str e.kind) (.tl [.str "go",.str "if"])=pr (.bl (decide (e.kind∈(["go", "if"]:List Str)))):=tQ (ss:=["go", "if"])
theorem MU:("go":Str)∈(["go", "if"]:List Str)/\("if":Str)∈(["go", "if"]:List Str)/\("table":Str) ∉ (["go", "if"]:List Str)/\("stop":Str) ∉ (["go", "if"]:List Str):=⋯
theorem Am (e:E17)(h:e.tos≠ []):decide (e.kind∈(["go", "if"]:List Str))=!e.tab:=by
 cases e with
 |go _=>exact decide_eq_true MU.1
 |iff _ _ _ _ _=>exact decide_eq_true MU.2.1
 |table _ _=>exact decide_eq_false MU.2.2.1
 |stop=>exact absurd rfl h
structure GL (ks:List (List Key))(ws:List W)(G:Int->Int->Int):Prop where
 len:ks.length=ws.length
 get: ∀a b,a≠b->(atK ks ws [.inl a,.inl b]).getD (.int 0)=.int (G a b)
theorem uX {bs:List B23}{cs:List Int}(hp:ixW P (.int 1)=pr x)(hx:Lw h x (bs.map B23.w))(hl:bs.length<=10)(hb: ∀b∈bs,b.e.tos.length<=6)(hc:(Qo (L0 bs)).length=cs.length):
  Ok (dD [P,.tl (cs.map W.int)]) h λw h'=> ∃j ks ws,w=.loc j/\Nd h h' j (.dit ks ws)/\GL ks ws (Mm (zsL (L0 bs) cs)):=by
 have e0:dD [P,.tl (cs.map W.int)]=bd (eG [some (P),some (.tl (cs.map W.int)),none,none,none]) Mb:=rfl;rw[e0];unfold eG;have lc:cs.length<=60:=by
  have h6: ∀e∈L0 bs,e.tos.length<=6:=λe he=>by
   obtain⟨b,hb',rfl⟩:=FW.mp he;exact hb b hb'
  have l2:(L0 bs).length=bs.length:=by unfold L0;rw[Fx]
  have:=gN (L0 bs) h6 (L0 bs).length (Fy _);rw[FS] at this;omega
 simp!;refine pI ?_;simp!;refine rK hp (hx.keep (Nf.mk0 (h:=h) (b:=.dit [] [])).nw.eq) hl hb λh1 N1=>?_;have D1:=(Nd.mk0 (h:=h) (b:=.dit [] [])).more N1;simp! only[aa,sA];refine cp (I:=λi ρ h'=> ∃a b ks ws,ρ=[some P,some (.tl (cs.map W.int)),some (.loc h.length),a,b]/\Nd h h' h.length (.dit ks ws)/\GL ks ws (Mm ((zsL (L0 bs) cs).take i))/\ks.length<=i) ⟨_,_,[],[],rfl,D1,⟨rfl,λa b _=>rfl⟩,Fy _⟩ (λ_ _ _ _=>⟨trivial,trivial⟩) (λi y ρ h2 hy I=>?_) λρ h2 I=>?_
 ·obtain⟨a,b,ks,ws,rfl,D,G,lk⟩:=I;obtain⟨w,n,hw,hn,rfl⟩:=oT hy;have hi:i<cs.length:=(FO.mp hn).1;obtain⟨e,he,w0,wm⟩:=oV (F9 hw);have hz:=vG hw hn;have ht:Qb (L0 bs) w.1=e.tab:=by unfold Qb;rw[he]
  rw[ht] at hz;have kg:=Am e (λz=>by rw[z] at wm;exact absurd wm Ga);obtain⟨b',hb',rfl⟩:=yj he;obtain⟨wa,wn,wt⟩:=w;refine⟨[some P,some (.tl (cs.map W.int)),some (.loc h.length),some (Qn (wa,wn,wt)),some (.int n)],rfl,?_⟩;unfold Qn;have w0:0<=wa:=w0;have hb':bs[wa.toNat]?=some b':=hb';simp! only[aa,hp,ix0,ix2];refine (hx.keep D.nw.eq).ix (w:=b'.w) (aQ w0 (by rw[FG,hb'];rfl)) ?_;simp! only[aa,xW,ix2,tK,EM,kg];rw[am hz];cases et:b'.e.tab with
  |true=>
   simp!;refine ae ⟨_,rfl,_,_,ks,ws,rfl,D,⟨G.len,λa b n=>?_⟩,HR lk⟩;rw[G.get a b n,fw,if_neg ⇑_,GX]
  |false=>
   by_cases ee:wa=wt
   ·simp! only[aa,ix0,ix2,decide_eq_true ee];refine ae ⟨_,rfl,_,_,ks,ws,rfl,D,⟨G.len,λa b n=>?_⟩,HR lk⟩;rw[G.get a b n,fw,if_neg (λz=>n (z.2.1.symm.trans (ee.trans z.2.2))),GX]
   ·simp! only[aa,ix0,ix2,decide_eq_false ee,mKt,kt2,Nq];refine jd D.new ?_;simp! only[aa,ix0,ix2,kt2];refine aR (jr D.new rfl) ?_;rw[G.get wa wt ee];simp! only[aa,ix0,ix2,kt2];rcases ep:OI ks ws [.inl wa,.inl wt] (.int (Mm ((zsL (L0 bs) cs).take i) wa wt+n)) with⟨ks',ws'⟩;obtain⟨l1,l2,g⟩:=ko G.len ep;refine wZ D.new (Gm (show _<=60 by omega) ↥_) ep ?_;simp!;refine ae ⟨_,rfl,_,_,ks',ws',rfl,D.put _,⟨l1,λa b nab=>?_⟩,∅⟩;rw[g,fw];by_cases q:wa=a/\wt=b
    ·rw[if_pos (by rw[q.1,q.2]),if_pos ⟨rfl,q⟩,q.1,q.2];rfl
    ·rw[if_neg (λz=>q ⟨by injection z with z1 z2;exact Sum.inl.inj z1,by injection z with z1 z2;injection z2 with z3 z4;exact Sum.inl.inj z3⟩),if_neg (λz=>q z.2),GX];exact G.get a b nab
 ·obtain⟨a,b,ks,ws,rfl,D,G,lk⟩:=I;rw[sr _ _ _ _ hc,<-vF hc,FS] at G;simp!;exact ae ⟨_,ks,ws,rfl,D,G⟩
theorem mM (G:Int->Int->Int): ∀ (l:List Int) (a b:Int),OD G (l++[a,b])=OD G (l++[a])+G a b
 |[],a,b=>by show G a b+0=0+G a b;omega
 |[x],a,b=>by show G x a+(G a b+0)=(G x a+0)+G a b;omega
 |x::y::l,a,b=>by
  have:=mM G (y::l) a b;show G x y+OD G (y::l++[a,b])=(G x y+OD G (y::l++[a]))+G a b;omega
theorem vQ {o:List Int}{i:Nat}{a b:Int}(ha:o[i]?=some a)(hb:o[i+1]?=some b): ∃l,o.take (i+1)=l++[a]/\o.take (i+1+1)=l++[a,b]:=by
 refine⟨o.take i,by rw[GP,ha];rfl,?_⟩;rw[GP,hb,GP,ha,Gb];rfl
theorem xR {j:Nat}{ws:List W}{G:Int->Int->Int}{cs o:List Int}(e:h[j]?=some (.dit ks ws))(g:GL ks ws G)(nd:o.Nodup)(l1:1<=o.length)(l2:o.length<=100):
  Ok (d4 [.tl (cs.map W.int),.loc j,.tup (o.map W.int)]) h λw h'=>w=.int (cs.sum - OD G o)/\h'=h:=by
 have e0:d4 [.tl (cs.map W.int),.loc j,.tup (o.map W.int)]=bd (gm [some (.tl (cs.map W.int)),some (.loc j),some (.tup (o.map W.int)),none,none]) Mb:=rfl;rw[e0];unfold gm;obtain⟨N,hN⟩: ∃N:Int,N=(o.length:Int):=⟨_,rfl⟩
 have eL:Na [.tup (o.map W.int)]=pr (.int N):=by rw[lenW_tup,Fx,hN]
 have eN:(N - 1).toNat=o.length - 1:=∅;have ix: ∀ (k:Nat) (i x:Int),i=(k:Int)->o[k]?=some x->ixW (.tup (o.map W.int)) (.int i)=pr (.int x):=λk i x hi hx=>by
  subst hi;exact dO (aQ ∅ (by rw[FG,show ((k:Int)).toNat=k by omega,hx];rfl))
 have sm:=jB cs;generalize W.tup (o.map W.int)=OW at *;simp! only[aa,eL,i8 (show (-(2 ^ 62):Int)<=1 by decide) (show (1:Int)<2 ^ 62 by decide) (show (-(2 ^ 62):Int)<=N by omega) (show N<2 ^ 62 by omega)];refine cp (I:=λi ρ h'=>h'=h/\ ∃s a,ρ=[some (.tl (cs.map W.int)),some (.loc j),some OW,some (.int s),a]/\s=OD G (o.take (i+1))) ⟨rfl,_,_,rfl,?_⟩ (λ_ _ _ _=>trivial) (λi w ρ h1 hw I=>?_) λρ h1 I=>?_
 ·cases o with
  |nil=>rfl
  |cons a l=>rfl
 ·obtain⟨rfl,s,a,rfl,es⟩:=I;obtain⟨rfl,hi⟩:=cJ _ _ _ _ hw;rw[eN] at hi;obtain⟨x,hx⟩: ∃x,o[i]?=some x:=⟨_,F4 ∅⟩
  obtain⟨y,hy⟩: ∃y,o[i+1]?=some y:=⟨_,F4 ∅⟩
  have i1:=ix i (1+(i:Int) - 1) x ∅ hx;have i2:=ix (i+1) (1+(i:Int)) y ∅ hy;have ne:x≠y:=λz=>by
   have a1:=FO.mp hx;have a2:=FO.mp hy;obtain⟨q1,r1⟩:=a1;obtain⟨q2,r2⟩:=a2;have:=(List.getElem_inj (i:=i) (j:=i+1) (h₀:=q1) (h₁:=q2) nd).mp (by rw[r1,r2];exact z);omega
  obtain⟨l,t1,t2⟩:=vQ hx hy;refine⟨_,rfl,?_⟩;simp! only[aa,Nq];refine jd e ?_;simp! only[aa,i1,i2];refine aR (jr (q:=[.inl x,.inl y]) e rfl) ?_;rw[g.get x y ne];simp!;refine ae ⟨_,rfl,rfl,_,_,rfl,?_⟩;rw[es,t2,t1,mM]
 ·obtain⟨rfl,s,a,rfl,es⟩:=I;rw[cB,eN,show o.length - 1+1=o.length by omega,FS] at es;simp! only[aa,sm];rw[es];exact ae ⟨rfl,rfl⟩
end
section
theorem Av {m:Nat}(h:1<=m):ia m=0::Qj (m - 1):=by
 obtain⟨n,rfl⟩: ∃n,m=n+1:=⟨m - 1,∅⟩
 unfold ia Qj;rw[Jq,FK,Gg];congr 1;apply GV;intro k _;show ((k+1:Nat):Int)=1+(k:Int);omega
theorem rg {m:Nat}(h:1<=m):(Qj (m - 1)).filter (λx=>!decide (x∈(0::r:List Int)))=On m (0::r):=by
 unfold On;rw[Av h,HI ⇑_]
theorem mR {N:Int}{m:Nat}(hN:N=(m:Int))(m1:1<=m)(m2:m<=6):Ok (cF [.int N]) h λw h'=>w=.tl ((itr m (m - 1) [[0]]).map Pp)/\h'=h:=by
 have e0:cF [.int N]=bd (dP [some (.int N),none,none,none,none]) Mb:=rfl;rw[e0];unfold dP;have eN:(N - 1).toNat=m - 1:=∅;have r2:=i8 (show (-(2 ^ 62):Int)<=1 by decide) (show (1:Int)<2 ^ 62 by decide) (show (-(2 ^ 62):Int)<=N by omega) (show N<2 ^ 62 by omega);simp! only[aa,Qh,r2];refine cp (I:=λi ρ h'=> ∃a b c,ρ=[some (.int N),some (.tl ((itr m i [[0]]).map Pp)),a,b,c]/\h'=h) ⟨_,_,_,rfl,rfl⟩ (λ_ _ _ _=>trivial) (λi w ρ h1 hw I=>?_) λρ h1 I=>?_
 ·obtain⟨a,b,c,rfl,eh⟩:=I;subst eh;obtain⟨rfl,hi⟩:=cJ _ _ _ _ hw;rw[eN] at hi;refine⟨_,rfl,?_⟩;have bl:(itr m i [[0]]).length<=1296:=F6 (j7 m2 i) (Ht ↥_ (show i<=4 by omega));simp! only[aa,cL];refine cp (I:=λk ρ h'=> ∃c,ρ=[some (.int N),some (.tl ((itr m i [[0]]).map Pp)),some (.int (1+(i:Int))),some (.tl ((((itr m i [[0]]).take k).flatMap (L8 m)).map Pp)),c]/\h'=h1) ⟨_,rfl,rfl⟩ (λ_ _ _ _=>trivial) (λk w ρ h2 hw I=>?_) λρ h2 I=>?_
  ·obtain⟨c,rfl,eh⟩:=I;subst eh;rw[FG] at hw;obtain⟨s,hs,rfl⟩:=FQ.mp hw;obtain⟨r,rfl,lr⟩:=fu m i s (F9 hs);have hk:=(FO.mp hs).1;refine⟨[some (.int N),some (.tl ((itr m i [[0]]).map Pp)),some (.int (1+(i:Int))),some (.tl ((((itr m i [[0]]).take k).flatMap (L8 m)).map Pp)),some (Pp (0::r))],rfl,?_⟩;have gl: ∀ {α:Type} (q:M α),gd (((Qj (m - 1)).map W.int).length<=sizeLine) q=q:=λq=>af (by rw[Fx,oX];exact sz ∅);simp! only[aa,r2,eN,rN,gl];refine gZ (I:=λn a h'=>h'=h2/\a=(((((Qj (m - 1)).take n).filter λx=>!decide (x∈(0::r:List Int))).map λx=>(0::r)++[x])).map Pp) ⟨rfl,rfl⟩ (λ_ _ _ _=>trivial) (λn w a h' hw I=>?_) λa h' I=>?_
   ·obtain⟨eh,rfl⟩:=I;subst eh;rw[FG] at hw;obtain⟨y,hy,rfl⟩:=FQ.mp hw;refine⟨_,rfl,?_⟩;have ea:Lr (Pp (0::r)) (.tup [.int y])=pr (Pp (0::r++[y])):=by
     show Lr (.tup (.int 0::r.map W.int)) (.tup [.int y])=_;rw[addT _ _ _ (by rw[Fx];show r.length+1<=100;omega)];unfold Pp;rw[Fz,FK];rfl
    have en:cy (.int y) (Pp (0::r))=pr (.bl (!decide (y∈(0::r:List Int)))):=rm y (0::r);simp! only[List.replicate,Gh,Gj,aa,en];rw[am hy,H0];by_cases z:y∈(0::r:List Int)
    ·refine ae (.inl ⟨by simp only[decide_eq_true z,Gv],rfl,?_⟩);rw[show ([y].filter λx=>!decide (x∈(0::r:List Int)))=[] by rw[List.filter_cons,Ia,decide_eq_true z];rfl,Gd]
    ·refine ae (.inr ⟨by simp only[decide_eq_false z,Hf],?_⟩);simp! only[aa,Qh];rw[ea];refine ae ⟨rfl,?_⟩;rw[show ([y].filter λx=>!decide (x∈(0::r:List Int)))=[y] by rw[List.filter_cons,Ia,decide_eq_false z];rfl,Fz,Fz];rfl
   ·obtain⟨eh,rfl⟩:=I;subst eh;rw[Fx,FS];have ee:(((Qj (m - 1)).filter λx=>!decide (x∈(0::r:List Int))).map λx=>(0::r)++[x])=L8 m (0::r):=by rw[rg m1];rfl
    rw[ee];have l1:=oG (c:=6) ((itr m i [[0]]).take k) λx _=>F6 (lH m x) m2;rw[Gk] at l1;have l2:=lH m (0::r);simp! only[aa,dU _ _ (show ((((itr m i [[0]]).take k).flatMap (L8 m)).map Pp).length+((L8 m (0::r)).map Pp).length<=sizeLine by rw[Fx,Fx];exact sz ∅)];refine ae ⟨_,rfl,some (Pp (0::r)),?_,rfl⟩;rw[am hs,Hs,Fz,show [(0::r:List Int)].flatMap (L8 m)=L8 m (0::r) by simp]
  ·obtain⟨c,rfl,eh⟩:=I;subst eh;rw[Fx,FS,<-jp];simp!;exact ae ⟨_,rfl,_,_,_,rfl,rfl⟩
 ·obtain⟨a,b,c,rfl,eh⟩:=I;subst eh;rw[cB,eN];simp!;exact ae ⟨rfl,rfl⟩
end
section
theorem sR {α:Type} [DecidableEq α]: ∀ {a b:List α},a.Nodup->(∀x∈a,x∈b)->b.length<=a.length->a.Perm b:=by
 intro a
 induction a with
 |nil=>
  intro b _ _ l;rw[List.length_eq_zero_iff.mp (IC.mp l)]
 |cons x a ih=>
  intro b nd h l;have hx:=h x FI;obtain⟨n1,n2⟩:=Hl.mp nd;refine .trans (.cons x (ih n2 (λy hy=>?_) ?_)) (List.perm_cons_erase hx).symm
  ·refine (List.mem_erase_of_ne λe=>?_).mpr (h y (FV _ hy));subst e;exact n1 hy
  ·rw[List.length_erase_of_mem hx];rw[FH] at l;omega
noncomputable def srt (ns:List Int):List Int:=match Mq ns with
 |some π=>π.toList.map λi=>ns.getD i 0
 |none=>[]
noncomputable def prk (o:List Int)(k:Nat):PKy:=(o.getD k 0,srt (o.take (k+1)))
noncomputable def Lq (l:List PKy)(k:PKy):List PKy:=if k∈l then l else l++[k]
noncomputable def adO (n:Nat)(l:List PKy)(o:List Int):List PKy:=(List.range n).foldl (λl k=>Lq l (prk o (k+1))) l
noncomputable def lpq (n:Nat):List PKy:=(itr (n+1) n [[0]]).foldl (adO n) [kf]
noncomputable def okS (ns:List Int):Bool:=match Mq ns with
 |some π=>decide (π.size=ns.length) && π.toList.all λi=>decide (i<ns.length)
 |none=>false
noncomputable def ckV (n:Nat):Bool:=decide (n=5)||((itr (n+1) n [[0]]).all (λo=>(List.range n).all λk=>okS (o.take (k+2))) && (lpq n).isPerm (lpr n))
theorem DO:six ckV=true:=⋯
theorem yy {n:Nat}(n5:n<5):(∀o∈itr (n+1) n [[0]],∀k,k<n->okS (o.take (k+2))=true)/\(lpq n).Perm (lpr n):=by
 have q:=gP DO (show n<6 by omega);unfold ckV at q;rw[decide_eq_false (show¬n=5 by omega),HC,F7,IP] at q;exact⟨λo ho k hk=>Gf.mp (Gf.mp q.1 o ho) k (GQ.mpr hk),q.2⟩
theorem v5 (h:okS ns=true)(h2:2<=ns.length)(hz:ns.length<=1000):kC [.tup (ns.map W.int)]=pr (.tl ((srt ns).map W.int)):=by
 show (match Om iOf (ns.map W.int) with
  |some ns=>gd (2<=ns.length/\ns.length<=1000) (match Mq ns with
   |some π=>gd (Ow π ns.length) (pr (W.tl (π.toList.map λi=>W.int (ns.getD i 0))))
   |none=>no)
  |none=>no)=_
 rw[Mp];unfold okS at h;unfold srt;dsimp only;rw[af ⟨h2,hz⟩];cases e:Mq ns with
 |none=>rw[e] at h;cases h
 |some π=>
  rw[e] at h;simp only[F7,decide_eq_true_eq,Gf] at h;dsimp only;rw[af ⟨h.1,h.2⟩,Gg];rfl
theorem An (l:List PKy):Om (MW true) (l.map kyW)=some l:=by
 rw[cR (f:=MW true) (g:=kyW) (k:=λk=>k) (λk=>jJ k.1 k.2),IQ]
theorem xb {β:Type}{h:List Ob}{Q:β->List Ob->Prop}{k:PKy}{l:List PKy}{x:W}{f:W->M β}(L:Lw h x (l.map kyW))(q:Ok (f (.bl (!decide (k∈l)))) h Q):Ok (bd (NS (.tup [.tup (k.2.map W.int),.int k.1]) x) f) h Q:=by
 unfold NS;rw[aa];refine xc L ?_;rw[An,jJ];dsimp only;rw[aA];exact q
theorem uU {N:Int}{n:Nat}(hN:N=((n+1:Nat):Int))(n5:n<5):Ok (dA [.int N]) h λw h'=>w=.tl ((lpq n).map kyW)/\Nw h h':=by
 have e0:dA [.int N]=bd (eD [some (.int N),none,none,none,none]) Mb:=rfl;rw[e0];unfold eD;obtain⟨v1,_⟩:=yy n5;have eN:(N - 1).toNat=n:=∅;have oo:=λh:List Ob=>mR (h:=h) hN ∅ ∅;rw[show n+1 - 1=n from rfl] at oo;have ol:=j7 (show n+1<=6 by omega) n;have ol2:6 ^ n<=1296:=Ht ↥_ (show n<=4 by omega);have sh:=fu (n+1) n;unfold lpq;generalize itr (n+1) n [[0]]=O at *;simp! only[aa,Qh];refine f7 ?_;simp!;refine aI (oo _) λw h1 qq_=>?_;obtain⟨ew,e1⟩:=qq_;subst ew e1;simp! only[aa,cL];refine cp (I:=λi ρ h'=> ∃a b c l,ρ=[some (.int N),some (.loc h.length),a,b,c]/\Nf h h' (.lst (l.map kyW))/\l=(O.take i).foldl (adO n) [kf]/\l.length<=1+i * n) ⟨_,_,_,[kf],rfl,Nf.mk0,rfl,Hq 1 _⟩ (λ_ _ _ _=>trivial) (λi w ρ h2 hw I=>?_) λρ h2 I=>?_
 ·obtain⟨a,b,c,l,rfl,N2,el,ll⟩:=I;rw[FG] at hw;obtain⟨o,ho,rfl⟩:=FQ.mp hw;have om:=F9 ho;have hi:=(FO.mp ho).1;have i4:i * n<=1296 * 4:=Nat.mul_le_mul ∅ ∅;have olen:o.length=n+1:=by
   obtain⟨r,rfl,lr⟩:=sh o om;rw[FH,lr]
  refine⟨[some (.int N),some (.loc h.length),some (Pp o),b,c],rfl,?_⟩;simp! only[aa,i8 (show (-(2 ^ 62):Int)<=1 by decide) (show (1:Int)<2 ^ 62 by decide) (show (-(2 ^ 62):Int)<=N by omega) (show N<2 ^ 62 by omega),eN];refine oh (I:=λk ρ h'=> ∃b c l',ρ=[some (.int N),some (.loc h.length),some (Pp o),b,c]/\Nf h h' (.lst (l'.map kyW))/\l'=(List.range k).foldl (λl k=>Lq l (prk o (k+1))) l/\l'.length<=l.length+k) ⟨_,_,l,rfl,N2,rfl,Fy _⟩ (λ_ _ _ _=>trivial) (λk w ρ h3 hw I=>?_) λρ h3 I=>?_
  ·obtain⟨b,c,l',rfl,N3,el',ll'⟩:=I;obtain⟨rfl,hk⟩:=cJ _ _ _ _ hw;have c1:Px (Pp o) none (some (1+(k:Int)+1))=pr (.tup ((o.take (k+2)).map W.int)):=by
    show pr (W.tup (LP (o.map W.int) none (some (1+(k:Int)+1))))=_;rw[gy,qb _ ∅,show (1+(k:Int)+1).toNat=k+2 by omega]
   have c2:=v5 (v1 o om k hk) (by rw[Gk];omega) (by rw[Gk];omega);have c3:ixW (Pp o) (.int (1+(k:Int)))=pr (.int (o.getD (k+1) 0)):=dO (aQ ∅ (by rw[FG,show (1+(k:Int)).toNat=k+1 by omega,Gu,F4 ∅];rfl));refine⟨[some (.int N),some (.loc h.length),some (Pp o),some (.int (1+(k:Int))),c],rfl,?_⟩;simp! only[aa,c1,c2,c3,eY,Qh];refine xb (k:=prk o (k+1)) (.inr ⟨_,rfl,N3.new⟩) ?_;have er:(List.range (k+1)).foldl (λl k=>Lq l (prk o (k+1))) l=Lq l' (prk o (k+1)):=by rw[Hc,HV,<-el'];rfl
   by_cases m:prk o (k+1)∈l'
   ·rw[decide_eq_true m];simp! only[aa,Gv];exact ae ⟨_,rfl,_,_,l',rfl,N3,by rw[er];unfold Lq;rw[if_pos m],∅⟩
   ·rw[decide_eq_false m];simp! only[aa,Hf];refine cn N3.new ?_;simp!;refine dI N3.new (by rw[Fx];exact Gm (show _<=10000 by omega) ↥_) ?_;simp!;refine ae ⟨_,rfl,_,_,l'++[prk o (k+1)],rfl,?_,by rw[er];unfold Lq;rw[if_neg m],by rw[FE];show _+1<=_;omega⟩;rw[Fz];exact N3.put _
  ·obtain⟨b,c,l',rfl,N3,el',ll'⟩:=I;rw[cB] at el' ll';refine⟨_,rfl,_,_,_,l',rfl,N3,?_,?_⟩
   ·rw[am ho,HV,<-el];exact el'
   ·rw[IL];omega
 ·obtain⟨a,b,c,l,rfl,N2,el,ll⟩:=I;rw[Fx,FS] at el;simp!;refine gY N2.new ?_;simp!;refine ae ⟨?_,(N2.put .gone).nw⟩;rw[<-el]
end
section
theorem ou (rs:List (PKy×Int))(k:PKy):(lk rs k).isSome=decide (k∈rs.map (·.1)):=by
 have: ∀ (rs:List (PKy×Int)) (o:Option Int),(rs.foldl (λo r=>if r.1=k then some r.2 else o) o).isSome=(o.isSome||decide (k∈rs.map (·.1))):=by
  intro rs
  induction rs with
  |nil=>intro o;simp
  |cons r rs ih=>
   intro o;rw[Io,ih,FK];by_cases e:r.1=k
   ·rw[if_pos e,decide_eq_true (FC.mpr (.inl e.symm)),Bool.or_true];rfl
   ·rw[if_neg e];congr 1;rw[Gz,decide_eq_true_eq,decide_eq_true_eq,FC];exact⟨.inr,λh=>h.resolve_left λz=>e z.symm⟩
 exact (this rs none).trans (HC _)
theorem fg {n:Nat}{G:Int->Int->Int}(n6:n<6):dc n G rs=true↔ (rs.map (·.1)).Perm (prs n)/\ ∀k∈prs n,Ng G (vl rs) k<=vl rs k:=by
 have nd:(prs n).Nodup:=(d7 n6).2.nodup_iff.mpr (d7 n6).1;unfold dc;simp only[F7,decide_eq_true_eq,Gf,ou];constructor
 ·intro ⟨h1,h2,h3⟩;exact⟨(sR nd h2 (by rw[Fx];omega)).symm,h3⟩
 ·intro ⟨h1,h2⟩;have:=h1.length_eq;rw[Fx] at this;exact⟨this,λk hk=>h1.mem_iff.mpr hk,h2⟩
theorem xM {n:Nat}{G:Int->Int->Int}{F:PKy->Int}{v:Int}(n6:n<6)(km:k∈lpr n)(ne:k≠kf):Ng G F k<=v↔ ∀p∈Nh (wo k.2 k.1),F (p,wo k.2 k.1)+G p k.1<=v:=by
 unfold Ng;rw[if_neg ne];unfold Ni;have c:=(iS n6 km ne).1;obtain⟨t1,t2⟩:=hU (l:=(Nh (wo k.2 k.1)).map λp=>F (p,wo k.2 k.1)+G p k.1) λz=>ot c (GY.mp z);constructor
 ·intro h p hp;exact Int.le_trans (t2 _ (FW.mpr ⟨p,hp,rfl⟩)) h
 ·intro h;obtain⟨p,hp,e⟩:=FW.mp t1;rw[<-e];exact h p hp
theorem tm {n:Nat}(h:k∈lpr n):k.1∈Nh k.2:=by
 rcases FC.mp h with rfl|h
 ·decide
 ·have:=(OB.mp h).2;unfold Nh;by_cases e:k.2=[0]
  ·rw[e] at this;cases this
  ·rw[if_neg e];exact this
theorem xJ {p:Int}(h:p∈Nh s):p∈s:=by
 unfold Nh at h;split at h
 ·exact h
 ·exact List.mem_of_mem_tail h
theorem tq {n:Nat}(n6:n<6)(h:k∈lpr n):k.2.length<=6:=by
 by_cases e:k=kf
 ·rw[e];decide
 ·exact (iS n6 h e).1.le
theorem not_true {b:Bool}(h:b≠true):b=false:=by cases b with
 |false=>rfl
 |true=>exact absurd rfl h
noncomputable def bLb:La->M Fl:=(O9 (Pa 7 (Nn fU (Np (mTl (No [] (NB (NE 4) PR) (tgN 0) (mB (m2 neW (NE 0) (NE 7))) (NE 0) 2)) Nx))) (O4 (NB (NE 7) PR) (tgN 8) (sIf (Nm (mB (m2 (Ms false) (ND (Np (NE 7) (Np (NE 8) Nx))) (NE 3))) (mB (m2 neW (NE 5) ⇑0))) (sIf (mB (m2 ltW (m2 MI (NE 3) (ND (Np (NE 4) (Np (NE 5) Nx)))) (m2 Lr (m2 MI (NE 3) (ND (Np (NE 7) (Np (NE 8) Nx)))) (Nq (NE 2) (ND (Np (NE 8) (Np (NE 5) Nx))) ⇑0)))) (O7 (mC (.bl false))) O6) O6)))
theorem mf:ir=(O9 (Pa 3 (iR true)) (O9 (O4 (NB (NE 0) PQ) (tgT [4,5,6]) (O9 (sIf (mOr (mB (m2 (Ms false) (ND (Np (NE 4) (Np (NE 5) Nx))) (NE 3))) (mB (m2 NS (ND (Np (NE 4) (Np (NE 5) Nx))) (NE 1)))) (O7 (mC (.bl false))) O6) (dM (NE 3) (ND (Np (NE 4) (Np (NE 5) Nx))) (NE 6)))) (O9 (sIf (mOr (mB (m2 neW (Nn M9 (Np (NE 3) Nx)) (Nn Na (Np (NE 1) Nx)))) (mB (m2 ltW (m2 MI (NE 3) (ND (Np (ND (Np ⇑0 Nx)) (Np ⇑0 Nx)))) ⇑0))) (O7 (mC (.bl false))) O6) (O9 (O4 (NB (NE 1) PQ) (tgT [4,5]) bLb) (O7 (mC (.bl true))))))):=rfl
section
variable {h:List Ob}{jg jn n:Nat}{gk:List (List Key)}{gw ws:List W}{G:Int->Int->Int}{κ ks:List PKy}{rs:List (PKy×Int)}{p:Int}{s:List Int}{T P:W}{c d e:Option W}
theorem DA (n6:n<6)(hκ:κ.Perm (lpr n))(eg:h[jg]?=some (.dit gk gw))(GG:GL gk gw G)(en:h[jn]?=some (.din true ks ws))(pk:ks.Perm κ)(ei: ∀k,(atK ks ws k).isSome=decide (k∈ks))(ea: ∀k∈ks,atK ks ws k=some (.int (vl rs k)))(km:(p,s)∈κ)
  (rf: ∀q,(q,wo s p)∈ks->p≠0->vl rs (p,s)<vl rs (q,wo s p)+G q p->dc n G rs=false):
  Ok (bLb [some T,some P,some (.loc jg),some (.loc jn),some (.tup (s.map W.int)),some (.int p),c,d,e]) h λx h'=>(∃r',x=.nx r'/\(∃d e,r'=[some T,some P,some (.loc jg),some (.loc jn),some (.tup (s.map W.int)),some (.int p),c,d,e])/\h'=h/\((p,s)≠kf-> ∀q∈Nh (wo s p),vl rs (q,wo s p)+G q p<=vl rs (p,s)))\/ ∃v,x=.rt v/\v=.bl false/\h'=h/\dc n G rs=false:=by
 unfold bLb;have kl:=hκ.mem_iff.mp km;have l6:=tq n6 kl;have gl: ∀ {α:Type} (q:M α),gd ((s.map W.int).length<=sizeLine) q=q:=λq=>af (by rw[Fx];exact sz (show s.length<=_ by have:s.length<=6:=l6;omega));have kp:=pk.mem_iff.mpr km;simp! only[aa,gl];refine gZ (I:=λi a h'=>h'=h/\a=(wo (s.take i) p).map W.int) ⟨rfl,rfl⟩ (λ_ _ _ _=>trivial) (λi w a h' hw I=>?_) λa h' I=>?_
 ·obtain⟨rfl,rfl⟩:=I;rw[FG] at hw;obtain⟨x,hx,rfl⟩:=FQ.mp hw;refine⟨_,rfl,?_⟩;simp! only[List.replicate,Gh,Gj,aa];rw[am hx,vJ];by_cases e:x=p
  ·refine ae (.inl ⟨by simp [e],rfl,?_⟩);have:wo [x] p=[]:=by unfold wo;simp [e]
   rw[this,Gd]
  ·refine ae (.inr ⟨by simp [e],ae ⟨rfl,?_⟩⟩);have:wo [x] p=[x]:=by unfold wo;simp [e]
   rw[this,Fz];rfl
 ·obtain⟨rfl,rfl⟩:=I;rw[Fx,FS];simp! only[aa,eY];refine (oF (λi ρ h''=> ∃e,ρ=[some T,some P,some (.loc jg),some (.loc jn),some (.tup (s.map W.int)),some (.int p),c,some (.tup ((wo s p).map W.int)),e]/\h''=h'/\ ∀q∈(wo s p).take i,(q,wo s p)∈ks->p≠0->vl rs (q,wo s p)+G q p<=vl rs (p,s)) (λv h''=>v=.bl false/\h''=h'/\dc n G rs=false) ((wo s p).map W.int) (λ_ _ _ _=>trivial) (λi w ρ h2 hw I=>?_) _ 0 _ _ rfl (FY _) ⟨_,rfl,rfl,λq hq=>absurd hq Ga⟩).imp λx h2 I=>?_
  ·obtain⟨e,rfl,rfl,I⟩:=I;rw[FG] at hw;obtain⟨q,hq,rfl⟩:=FQ.mp hw;have qm:q∈wo s p:=F9 hq;have qp:q≠p:=by
    have:=(Hy.mp qm).2;simpa using this
   have nx:((q,wo s p)∈ks->p≠0->vl rs (q,wo s p)+G q p<=vl rs (p,s))-> ∀q∈(wo s p).take (i+1),(q,wo s p)∈ks->p≠0->vl rs (q,wo s p)+G q p<=vl rs (p,s):=λz q' hq'=>by
    rw[am hq] at hq';rcases Gw.mp hq' with h|h
    ·exact I q' h
    ·rw[FZ.mp h];exact z
   refine⟨[some T,some P,some (.loc jg),some (.loc jn),some (.tup (s.map W.int)),some (.int p),c,some (.tup ((wo s p).map W.int)),some (.int q)],rfl,?_⟩;simp! only[aa,Qh];refine xf (p:=q) (l:=wo s p) (dS en) ?_;rw[ei];by_cases m:(q,wo s p)∈ks
   ·rw[decide_eq_true m];simp! only[aa,Ib];by_cases p0:p=0
    ·simp! only[aa,decide_eq_true p0,Gv];exact ae (.inl ⟨_,rfl,_,rfl,rfl,nx λ_ z=>absurd p0 z⟩)
    ·simp! only[aa,decide_eq_false p0,Hf];refine kW (p:=p) (l:=s) (dS en) (ea _ kp) ?_;simp! only[aa,Qh];refine kW (p:=q) (l:=wo s p) (dS en) (ea _ m) ?_;simp! only[aa,Nq,Qh];refine jd eg ?_;simp! only[aa,Qh];refine aR (jr eg rfl) ?_;rw[GG.get q p qp];simp!;by_cases lt:vl rs (p,s)<vl rs (q,wo s p)+G q p
     ·simp! only[aa,decide_eq_true lt];exact ae (.inr ⟨_,rfl,rfl,rfl,rf q m p0 lt⟩)
     ·simp! only[aa,decide_eq_false lt];exact ae (.inl ⟨_,rfl,_,rfl,rfl,nx λ_ _=>∅⟩)
   ·rw[decide_eq_false m];simp! only[aa,Ib];exact ae (.inl ⟨_,rfl,_,rfl,rfl,nx λz=>absurd z m⟩)
  ·rcases I with⟨r',rfl,e,rfl,rfl,I⟩|⟨v,rfl,rfl,rfl,I⟩
   ·rw[Fx,FS] at I;refine .inl ⟨_,rfl,⟨_,_,rfl⟩,rfl,λne q hq=>?_⟩;obtain⟨c1,c2⟩:=iS n6 kl ne;exact I q (xJ hq) (pk.mem_iff.mpr (hκ.mem_iff.mpr (c2 q hq))) (by have:=c1.l1;dsimp only at this;omega)
   ·exact .inr ⟨_,rfl,rfl,rfl,I⟩
theorem Ah (n6:n<6)(hκ:κ.Perm (lpr n))(eg:h[jg]?=some (.dit gk gw))(GG:GL gk gw G)(lr:rs.length<=1000):Ok (fH [.tl (rs.map rwW),.tl (κ.map kyW),.loc jg]) h λw h'=>w=.bl (dc n G rs)/\Nw h h':=by
 have e0:fH [.tl (rs.map rwW),.tl (κ.map kyW),.loc jg]=bd (ir [some (.tl (rs.map rwW)),some (.tl (κ.map kyW)),some (.loc jg),none,none,none,none,none,none]) Mb:=rfl;rw[e0,mf];have pl:=(d7 n6).2;have pp: ∀ {z:dc n G rs=true},(rs.map (·.1)).Perm κ:=λ{z}=>((fg n6).mp z).1.trans (pl.trans hκ.symm);simp!;refine kY ?_;simp! only[aa,cL];refine sY (I:=λi ρ h'=> ∃a b c ks ws,ρ=[some (.tl (rs.map rwW)),some (.tl (κ.map kyW)),some (.loc jg),some (.loc h.length),a,b,c,none,none]/\Nf h h' (.din true ks ws)/\ks=(rs.take i).map (·.1)/\ks.length=ws.length/\(∀k,atK ks ws k=(lk (rs.take i) k).map W.int)/\ks.Nodup/\ ∀k∈ks,k∈κ)
  (J:=λv h'=>v=.bl false/\Nw h h'/\dc n G rs=false) ⟨_,_,_,[],[],rfl,Nf.mk0,rfl,rfl,λ_=>rfl,HD,λ_ h=>absurd h Ga⟩ (λ_ _ _ _=>trivial) (λi w ρ h2 hw I=>?_) (λρ h2 I=>?_) λv h2 J=>?_
 ·obtain⟨a,b,c,ks,ws,rfl,N2,ek,l1,ea,nd,sb⟩:=I;rw[FG] at hw;obtain⟨r,hr,rfl⟩:=FQ.mp hw;have hi:=(FO.mp hr).1;obtain⟨⟨p,s⟩,v⟩:=r;refine⟨[some (.tl (rs.map rwW)),some (.tl (κ.map kyW)),some (.loc jg),some (.loc h.length),some (.tup (s.map W.int)),some (.int p),some (.int v),none,none],rfl,?_⟩;simp! only[aa,Qh];refine xf (p:=p) (l:=s) (dS N2.new) ?_;rw[ea,GJ,ou,<-ek];have es:rs.map (·.1)=ks++(p,s)::(rs.drop (i+1)).map (·.1):=by
   obtain⟨_,e⟩:=FO.mp hr;have:rs=rs.take i++((p,s),v)::rs.drop (i+1):=by rw[<-e,<-Ha hi,Jp]
   rw[ek,<-FK (f:=Prod.fst) (a:=((p,s),v)),<-Fz,<-this]
  by_cases m1:(p,s)∈ks
  ·rw[decide_eq_true m1];simp! only[aa,Ib];refine ae (.inr ⟨_,rfl,rfl,N2.nw,not_true λz=>?_⟩);have q:=(pp (z:=z)).nodup_iff.mpr (hκ.nodup_iff.mpr (d7 n6).1);rw[es] at q;exact (Hg.mp q).2.2 _ m1 _ FI rfl
  ·rw[decide_eq_false m1];simp! only[aa,Ib,Qh];refine xb (k:=(p,s)) (.inl rfl) ?_;by_cases m2:(p,s)∈κ
   ·rw[decide_eq_true m2];simp! only[aa,Gv,dM,Qh];rcases ep:OI ks ws (p,s) (.int v) with⟨ks',ws'⟩;obtain⟨g1,g2,g3⟩:=ko l1 ep;refine rh N2.new (Gm (show _<=1000 by rw[ek,Fx,Gk];omega) ↥_) ep ?_;simp!;rw[sP m1] at ep;injection ep with ep1 _
    refine ae (.inl ⟨_,rfl,_,_,_,ks',ws',rfl,N2.put _,?_,g1,λk=>?_,?_,?_⟩)
    ·rw[am hr,Fz,<-ek,<-ep1];rfl
    ·rw[am hr,tu,g3];by_cases e:(p,s)=k
     ·rw[if_pos e,if_pos e];rfl
     ·rw[if_neg e,if_neg e];exact ea k
    ·rw[<-ep1];exact Hg.mpr ⟨nd,⇑_,λa ha b hb e=>m1 (by rw[FZ.mp hb] at e;rw[<-e];exact ha)⟩
    ·rw[<-ep1];intro k hk;rcases Gw.mp hk with hk|hk
     ·exact sb k hk
     ·rw[FZ.mp hk];exact m2
   ·rw[decide_eq_false m2];simp! only[aa,Hf];refine ae (.inr ⟨_,rfl,rfl,N2.nw,not_true λz=>m2 ?_⟩);exact (pp (z:=z)).mem_iff.mp (by rw[es];exact Gw.mpr (.inr FI))
 ·obtain⟨a,b,c,ks,ws,rfl,N2,ek,l1,ea,nd,sb⟩:=I;rw[Fx,FS] at ek ea;have eK:M9 [.loc h.length] h2=.ok (.int ks.length) h2:=by unfold M9;simp only[dS N2.new]
  simp!;refine aR eK ?_;simp!;by_cases q:(ks.length:Int)=((κ.map kyW).length:Int)
  ·simp! only[aa,decide_eq_true q,Gv];have pk:ks.Perm κ:=sR nd sb (by rw[Fx] at q;omega);have ei: ∀k,(atK ks ws k).isSome=decide (k∈ks):=λk=>by rw[ea,GJ,ou,ek]
   have ea': ∀k∈ks,atK ks ws k=some (.int (vl rs k)):=λk hk=>by
    have z:=ei k;rw[decide_eq_true hk,ea,GJ] at z;obtain⟨v,e⟩:=HA.mp z;rw[ea];unfold vl;rw[e];rfl
   have km:kf∈ks:=pk.mem_iff.mpr (hκ.mem_iff.mpr FI);have kp:=pl.mem_iff.mpr (hκ.mem_iff.mp (pk.mem_iff.mp km));refine kW (p:=0) (l:=[0]) (dS N2.new) (ea' kf km) ?_;simp!;by_cases ng:vl rs kf<0
   ·simp! only[aa,decide_eq_true ng];refine ae ⟨congrArg W.bl (not_true λz=>?_).symm,N2.nw⟩;have:=((fg n6).mp z).2 kf kp;unfold Ng at this;rw[if_pos rfl] at this;omega
   ·simp! only[aa,decide_eq_false ng,cL];refine sY (I:=λi ρ h'=> ∃a b d e,ρ=[some (.tl (rs.map rwW)),some (.tl (κ.map kyW)),some (.loc jg),some (.loc h.length),a,b,c,d,e]/\h'=h2/\ ∀k∈κ.take i,k≠kf-> ∀p∈Nh (wo k.2 k.1),vl rs (p,wo k.2 k.1)+G p k.1<=vl rs k) (J:=λv h'=>v=.bl false/\h'=h2/\dc n G rs=false) ⟨_,_,_,_,rfl,rfl,λ_ h=>absurd h Ga⟩ (λ_ _ _ _=>trivial) (λi w ρ h3 hw I=>?_) (λρ h3 I=>?_) λv h3 J=>?_
    ·obtain⟨a,b,d,e,rfl,rfl,I⟩:=I;rw[FG] at hw;obtain⟨k,hk,rfl⟩:=FQ.mp hw;obtain⟨p,s⟩:=k;have km':=F9 hk;refine⟨[some (.tl (rs.map rwW)),some (.tl (κ.map kyW)),some (.loc jg),some (.loc h.length),some (.tup (s.map W.int)),some (.int p),c,d,e],rfl,?_⟩;refine (DA n6 hκ (N2.get eg) GG N2.new pk ei ea' km' λq' mq p0 lt=>not_true λz=>?_).imp λx h4 J=>?_
     ·have kl:=hκ.mem_iff.mp km';have ne:(p,s)≠kf:=λe=>p0 (congrArg Prod.fst e);have:=(xM n6 kl ne).mp (((fg n6).mp z).2 _ (pl.mem_iff.mpr kl)) q' (tm (hκ.mem_iff.mp (pk.mem_iff.mp mq)));dsimp only at this;omega
     ·rcases J with⟨r',rfl,⟨d,e,rfl⟩,rfl,J⟩|⟨v,rfl,rfl,rfl,J⟩
      ·refine .inl ⟨_,rfl,_,_,_,_,rfl,rfl,λk hk'=>?_⟩;rw[am hk] at hk';rcases Gw.mp hk' with hk'|hk'
       ·exact I k hk'
       ·rw[FZ.mp hk'];exact J
      ·exact .inr ⟨_,rfl,rfl,rfl,J⟩
    ·obtain⟨a,b,d,e,rfl,rfl,I⟩:=I;rw[Fx,FS] at I;simp!;refine ae ⟨congrArg W.bl ((fg n6).mpr ⟨by rw[<-ek];exact pk.trans (hκ.trans pl.symm),λk hk=>?_⟩).symm,N2.nw⟩;have kl:=pl.mem_iff.mp hk;by_cases e:k=kf
     ·rw[e];unfold Ng;rw[if_pos rfl];omega
     ·exact (xM n6 kl e).mpr (I k (hκ.mem_iff.mpr kl) e)
    ·obtain⟨rfl,rfl,J⟩:=J;simp!;exact ae ⟨by rw[J],N2.nw⟩
  ·simp! only[aa,decide_eq_false q,Hf];refine ae ⟨congrArg W.bl (not_true λz=>q ?_).symm,N2.nw⟩;have:=(pp (z:=z)).length_eq;rw[<-ek] at this;rw[Fx];omega
 ·obtain⟨rfl,N2,J⟩:=J;simp!;exact ae ⟨by rw[J],N2⟩
end
end
section
open Wd
noncomputable def b23 (ns:List Str)(b:Bt):B23:=⟨b.nm,b.ss.map Rr.form,b.e.en ns⟩
theorem za {z:Str}(h:aO z=true):KP.strOk z=true:=by
 unfold aO at h;simp only[F7,Gf] at h;unfold KP.strOk;rw[Array.all_eq_true_iff_forall_mem];intro c hc;have:=ME.mp (h.2.1 c (by simpa using hc));exact decide_eq_true ∅
theorem E5 {most:Nat}{N:Int}(hN:N=(bl.length:Int))(G:TxG most bx bl): ∀b∈bl.map (b23 (bl.map Bt.nm)),BG N b:=λb hb=>by
 obtain⟨c,hc,rfl⟩:=FW.mp hb;have g:=(G.b c hc).g;have d:=(G.b c hc).d;refine BG.mk' (AD (by rw[Fx];exact hN) g.e.1 g.e.2.1 g.e.2.2.1 d.2 g.e.2.2.2) (za g.nm) (by rw[Fx];exact g.l) λx hx=>?_;obtain⟨r,hr,rfl⟩:=FW.mp hx;obtain⟨r1,r2,r3⟩:=g.s r hr;obtain⟨_,_,_,_,p⟩:=Bo r1 r2 r3 (d.1 r hr);exact p
end
section
theorem yw {α:Type}(l:List α)(lo hi:Option Int):(LP l lo hi).length<=l.length:=by
 unfold LP;rw[Gk,GC];omega
theorem t7 {α:Type}{l:List α}{lo hi:Option Int}{x:α}(h:x∈LP l lo hi):x∈l:=Jk (HX h)
noncomputable def RsG (rs:List (PKy×Int)):Prop:=rs.length<=1000/\ ∀r∈rs,r.1.2.length<=6
theorem v7 (h:s≠ []):1<=(LP s (some ((LP s (some 1) (some 2)).length:Int)) none).length:=by
 have l0:0<s.length:=HS.mpr h;have e1:(LP s (some 1) (some 2)).length<s.length:=by
  unfold LP;rw[Gk,GC,show HT.sIx s.length 0 (some 1)=min 1 s.length from HT.sIx_nat _ _ 1];omega
 generalize (LP s (some 1) (some 2)).length=a at *;unfold LP;rw[Gk,GC,HT.sIx_nat,HT.sIx_none];omega
theorem wC {s:List Int}{x N:Int}(hN:N=(s.length:Int))(l1:1<=s.length): ∃q,ixW (.tup (s.map W.int)) (.int (x % N))=pr (.int q):=by
 have v0:=Gq x (show N≠0 by omega);have v1:=Gn x (show (0:Int)<N by omega);have hl:(x % N).toNat<s.length:=∅;exact⟨s[(x % N).toNat]'hl,dO (aQ v0 (by rw[FG,F4 hl];rfl))⟩
theorem uV {h:List Ob}{rs:List (PKy×Int)}{c:Int}(l1:1<=rs.length)(l2:rs.length<=300)(ne: ∀r∈rs,r.1.2≠ [])(l6: ∀r∈rs,r.1.2.length<=6):Ok (dB [.tl (rs.map rwW),.int c]) h λw h'=>(∃rs':List (PKy×Int),w=.tl (rs'.map rwW)/\RsG rs')/\Nw h h':=by
 have e0:dB [.tl (rs.map rwW),.int c]=bd (eE [some (.tl (rs.map rwW)),some (.int c),none,none,none,none,none,none,none]) Mb:=rfl;rw[e0];unfold eE;obtain⟨N,hN⟩: ∃N:Int,N=(rs.length:Int):=⟨_,rfl⟩
 have eL:Na [.tl (rs.map rwW)]=pr (.int N):=by rw[lenW_tl,Fx,hN]
 obtain⟨T,hT⟩: ∃T,T=W.tl (rs.map rwW):=⟨_,rfl⟩
 rw[<-hT] at eL;rw[<-hT];simp!;refine aI (j4 (N:=4) (n:=4) rfl ↥_) λw h1 qq_=>?_;obtain⟨ew,F1⟩:=qq_;have N1:Nw h h1:=⟨F1.le,F1.eq⟩
 subst ew;have yl:=g7 c 4;generalize NV c 4=ys at *;have y0:=su (ys:=ys) (k:=0) (i:=0) rfl ∅;have y1:=su (ys:=ys) (k:=1) (i:=1) rfl ∅;have y2:=su (ys:=ys) (k:=2) (i:=2) rfl ∅;generalize ys.getD 0 0=a at *;generalize ys.getD 1 0=b at *;generalize ys.getD 2 0=d at *;generalize W.tl (ys.map W.int)=YW at *;have v0:=Gq a (show N≠0 by omega);have v1:=Gn a (show (0:Int)<N by omega);have n0:0<N:=∅;obtain⟨r,hr⟩: ∃r,rs[(a % N).toNat]?=some r:=⟨_,F4 ∅⟩
 have er:=ne r (F9 hr);have e6:=l6 r (F9 hr);obtain⟨⟨p,s⟩,v⟩:=r;have eI:ixW (.tl (rs.map rwW)) (.int (a % N))=pr (.tup [.tup (s.map W.int),.int p,.int v]):=bU (aQ v0 (by rw[FG,hr];rfl));obtain⟨A,hA⟩: ∃A,A=a % N:=⟨_,rfl⟩
 have mA:NJ (.int a) (.int N)=pr (.int A):=by rw[ah n0,hA]
 rw[<-hA] at v0 v1 hr eI;have s1:slW (.tl (rs.map rwW)) none (some A)=pr (.tl ((LP rs none (some A)).map rwW)):=by rw[slW_tl,gy]
 have s2:slW (.tl (rs.map rwW)) (some (A+1)) none=pr (.tl ((LP rs (some (A+1)) none).map rwW)):=by rw[slW_tl,gy]
 have t1:=yw rs none (some A);have t2:=yw rs (some (A+1)) none;have u6: ∀r∈LP rs none (some A),r.1.2.length<=6:=λr hr=>l6 r (t7 hr);have v6: ∀r∈LP rs (some (A+1)) none,r.1.2.length<=6:=λr hr=>l6 r (t7 hr);have two: ∀ {a b:List (PKy×Int)},(∀r∈a,r.1.2.length<=6)->(∀r∈b,r.1.2.length<=6)-> ∀r∈a++b,r.1.2.length<=6:=λha hb r hr=>(Gw.mp hr).elim (ha r) (hb r);have one: ∀q u,∀r∈[((q,s),u)],(r:PKy×Int).1.2.length<=6:=λq u r hr=>by rw[FZ.mp hr];exact e6
 generalize LP rs none (some A)=U at *;generalize LP rs (some (A+1)) none=V at *;have a0:Lr (.tl (U.map rwW)) (.tl (V.map rwW))=pr (.tl ((U++V).map rwW)):=by
  rw[dU _ _ (by rw[Fx,Fx];exact sz ∅),Fz]
 have a1:Lr (.tl (rs.map rwW)) (.tl [.tup [.tup (s.map W.int),.int p,.int v]])=pr (.tl ((rs++[((p,s),v)]).map rwW)):=by
  rw[dU _ _ (by rw[Fx];exact sz (by show _+1<=_;omega)),Fz];rfl
 have a3: ∀q u,Lr (.tl (U.map rwW)) (.tl [.tup [.tup (s.map W.int),.int q,.int u]])=pr (.tl ((U++[((q,s),u)]).map rwW)):=λq u=>by
  rw[dU _ _ (by rw[Fx];exact sz (by show _+1<=_;omega)),Fz];rfl
 have a4: ∀q u,Lr (.tl ((U++[((q,s),u)]).map rwW)) (.tl (V.map rwW))=pr (.tl ((U++[((q,s),u)]++V).map rwW)):=λq u=>by
  rw[dU _ _ (by rw[Fx,Fx,FE];exact sz (by show _+1+_<=_;omega)),Fz (l₁:=U++_)]
 have ra:ON (.tl (rs.map rwW)) (some (-1))=pr (.tl (rs.reverse.map rwW)):=by
  show pr (W.tl (rs.map rwW).reverse)=_;rw[IM]
 have rt: ∀ (rs':List (PKy×Int)),RsG rs'->Ok (pr (W.tl (rs'.map rwW))) h1 λw h'=>(∃rs':List (PKy×Int),w=.tl (rs'.map rwW)/\RsG rs')/\Nw h h':=λrs' l=>ae ⟨⟨rs',rfl,l⟩,N1⟩;have q3: ∀q u,RsG (U++[((q,s),u)]++V):=λq u=>⟨by rw[FE,FE];show _+1+_<=_;omega,two (two u6 (one q u)) v6⟩
 have gl: ∀ {α:Type} (q:M α),gd ((rs.map rwW).length<=sizeLine) q=q:=λq=>af (by rw[Fx];exact sz ∅);rw[<-hT] at eI s1 s2 a1 ra;simp! only[aa,y0,eL,mA,eI,Pc];simp! only[aa,y1,ah (show (0:Int)<7 by decide)];generalize b % 7=K at *;by_cases k0:K=0
 ·simp! only[aa,decide_eq_true k0,s1,s2,a0];exact rt _ ⟨by rw[FE];omega,two u6 v6⟩
 simp! only[aa,decide_eq_false k0];by_cases k1:K=1
 ·simp! only[aa,decide_eq_true k1,eI,a1];exact rt _ ⟨by rw[FE];show _+1<=_;omega,two l6 (one p v)⟩
 simp! only[aa,decide_eq_false k1];by_cases k2:K=2
 ·simp! only[aa,decide_eq_true k2,NA,ra];exact rt _ ⟨by rw[IB];omega,λr hr=>l6 r (List.mem_reverse.mp hr)⟩
 simp! only[aa,decide_eq_false k2];by_cases k3:K=3
 ·simp! only[aa,decide_eq_true k3,s1,s2,Qh,a3,a4];exact rt _ (q3 _ _)
 simp! only[aa,decide_eq_false k3];by_cases k4:K=4
 ·simp! only[aa,decide_eq_true k4,s1,s2,y2,ah (show (0:Int)<9 by decide),Qh,a3,a4];exact rt _ (q3 _ _)
 simp! only[aa,decide_eq_false k4];by_cases k5:K=5
 ·have c1:Px (.tup (s.map W.int)) (some 1) (some 2)=pr (.tup ((LP s (some 1) (some 2)).map W.int)):=by
   show pr (W.tup (LP (s.map W.int) (some 1) (some 2)))=_;rw[gy]
  have sl:=v7 er;have c2:Na [.tup ((LP s (some 1) (some 2)).map W.int)]=pr (.int (LP s (some 1) (some 2)).length):=by
   show pr (W.int ((LP s (some 1) (some 2)).map W.int).length)=_;rw[Fx]
  generalize ((LP s (some 1) (some 2)).length:Int)=L at *;have c3:Px (.tup (s.map W.int)) (some L) none=pr (.tup ((LP s (some L) none).map W.int)):=by
   show pr (W.tup (LP (s.map W.int) (some L) none))=_;rw[gy]
  generalize LP s (some L) none=S2 at *;obtain⟨M,hM⟩: ∃M:Int,M=(S2.length:Int):=⟨_,rfl⟩
  have c4:Na [.tup (S2.map W.int)]=pr (.int M):=by
   show pr (W.int (S2.map W.int).length)=_;rw[Fx,hM]
  obtain⟨q,c5⟩:=wC (x:=d) hM sl;simp! only[aa,decide_eq_true k5,c1,c2,c3,s1,s2,y2,c4,ah (show (0:Int)<M by omega),c5,Qh,a3,a4];exact rt _ (q3 _ _)
 simp! only[aa,decide_eq_false k5];subst hT;simp! only[aa,gl];refine dj (I:=λi l h'=>h'=h1/\l=((rs.take i).map λr=>(r.1,r.2+d % 5)).map rwW) ⟨rfl,rfl⟩ eS (λ_ _ _ _=>trivial) (λi w l h' hw I=>?_) λl h' I=>?_
 ·obtain⟨rfl,rfl⟩:=I;rw[FG] at hw;obtain⟨⟨⟨p',s'⟩,v'⟩,hr',rfl⟩:=FQ.mp hw;refine⟨_,rfl,?_⟩;simp! only[List.replicate,Gh,Gj,aa,y2,ah (show (0:Int)<5 by decide),Qh];refine ae ⟨rfl,?_⟩;rw[am hr',Fz,Fz];rfl
 ·obtain⟨rfl,rfl⟩:=I;rw[Fx,FS];simp!;refine rt _ ⟨by rw[Fx];omega,λr hr=>?_⟩;obtain⟨q,hq,rfl⟩:=FW.mp hr;exact l6 q hq
end
section
open Wd
theorem xk {w:W}(e:eqW w w=pr (.bl true)):neW w w=pr (.bl false):=by
 funext h;have:=congrFun e h;unfold eqW at this;unfold neW;cases q:eqB w w h with
 |none=>rw[q] at this;cases this
 |some b=>rw[q] at this;cases this;rfl
theorem Az (h:l≠ []):L7 NI [.tl (l.map W.int)]=pr (.int (NI l)):=by
 show bd (Nk (.tl (l.map W.int))) (λl=>match Om iOf l with
  |some ns=>gd (ns≠ []) (pr (W.int (NI ns)))
  |none=>no)=_
 rw[fq,aA,Mp];exact af h
theorem EJ {v:Int}(h:lk rs k=some v):(k,v)∈rs:=by
 have: ∀ (rs:List (PKy×Int)) (o:Option Int),rs.foldl (λo r=>if r.1=k then some r.2 else o) o=some v->o=some v\/(k,v)∈rs:=by
  intro rs
  induction rs with
  |nil=>intro o e;exact .inl e
  |cons r rs ih=>
   intro o e;rw[Io] at e;rcases ih _ e with e|e
   ·by_cases z:r.1=k
    ·rw[if_pos z] at e;injection e with e
     exact .inr (by rw[<-z,<-e];exact FI)
    ·rw[if_neg z] at e;exact .inl e
   ·exact .inr (FV _ e)
 rcases this rs none h with h|h
 ·cases h
 ·exact h
theorem uu (g:RsG rs):neW (.tl (rs.map rwW)) (.tl (rs.map rwW))=pr (.bl false):=xk (ym λx hx=>by
 obtain⟨r,hr,rfl⟩:=FW.mp hx;refine .inr (.inr ⟨_,.inl rfl,(by decide:3<=1000),λy hy=>?_⟩);rcases FC.mp hy with rfl|hy
 ·refine .inr (.inr ⟨_,.inl rfl,?_,sW r.1.2 (n:=46)⟩);have:=g.2 r hr;rw[Fx];omega
 ·rcases FC.mp hy with rfl|hy
  ·exact .inl ⟨_,rfl⟩
  ·rw[FZ.mp hy];exact .inl ⟨_,rfl⟩)
theorem uv {n:Nat}{G:Int->Int->Int}(n6:n<6)(h:dc n G rs=true):(rs.filter λr=>decide (r.1.2=ev (n+1)))≠ []/\ ∀os∈itr (n+1) n [[0]],OD G os<=NH ((rs.filter λr=>decide (r.1.2=ev (n+1))).map (·.2)):=by
 obtain⟨h1,h2⟩:=(fg n6).mp h;have pl:=(d7 n6).2;have inr: ∀k∈lpr n,(k,vl rs k)∈rs:=λk hk=>by
  have z:(lk rs k).isSome=true:=by rw[ou,decide_eq_true (h1.mem_iff.mpr (pl.mem_iff.mpr hk))]
  obtain⟨v,e⟩:=HA.mp z;have:vl rs k=v:=by unfold vl;rw[e];rfl
  rw[this];exact EJ e
 have key: ∀k∈lpr n,k.2=ev (n+1)->(k,vl rs k)∈rs.filter λr=>decide (r.1.2=ev (n+1)):=λk hk e=>Hy.mpr ⟨inr k hk,decide_eq_true e⟩;have ne:(rs.filter λr=>decide (r.1.2=ev (n+1)))≠ []:=by
  obtain⟨e1,k,hk,e2⟩:=Dx n6;have e3:=e1 k hk;rw[decide_eq_true e2] at e3;exact List.ne_nil_of_mem (key k hk (of_decide_eq_true e3.symm))
 refine⟨ne,λos ho=>?_⟩;obtain⟨k,hk,e,q⟩:=wP n6 (F:=vl rs) (G:=G) (λk hk=>h2 k (pl.mem_iff.mpr hk)) ho;exact Int.le_trans q ((hU λz=>ne (GY.mp z)).2 _ (FW.mpr ⟨_,key k hk e,rfl⟩))
noncomputable def bB:La->M Fl:=(O9 (Pa 9 (mTl (Nb (Np (NE 8) Nx)))) (O9 (Pa 10 (Nn (arW 3 fH) (Np (NE 8) (Np (NE 4) (Np (NE 3) Nx))))) (O9 (sIf (mOr (mB (m2 neW (Nn (arW 3 d5) (Np (NE 1) (Np (NE 2) (Np (NE 9) Nx)))) (NE 10))) (mB (m2 neW (NE 9) (NE 8)))) (O7 (mC (.bl false))) O6) (sIf (mB (NE 10)) (O9 (Pa 11 (m2 P0 (Nn P1 (Np (NE 2) Nx)) (Nn (L7 NH) (Np (mTl (No [] (NB (NE 8) PQ) (tgT [0,1,2]) (mB (m2 eqW (NE 0) (NE 11))) (NE 2) 4)) Nx)))) (sIf (mOr (mB (m2 neW (Nn (arW 3 d6) (Np (NE 1) (Np (NE 2) (Np (NE 9) Nx)))) (NE 11))) (mB (m2 gtW (NE 11) (NE 6)))) (O7 (mC (.bl false))) O6)) O6))))
theorem uE:tV=(O9 (Pa 1 (Nn (arW 1 jN) (Np (Nn (arW 2 d2) (Np (NE 0) (Np ⇑5 Nx))) Nx))) (O9 (Pa 2 (Nn (arW 3 cK) (Np (NE 0) (Np ⇑8 (Np (Nn (arW 1 iU) (Np (NE 1) Nx)) Nx))))) (O9 (Pa 3 (Nn (arW 2 dD) (Np (NE 1) (Np (NE 2) Nx)))) (O9 (Pa 4 (Nn (arW 1 dA) (Np (Nn Na (Np (m2 ixW (NE 1) ⇑1) Nx)) Nx))) (O9 (Pa 5 (Nn (arW 2 jt) (Np (NE 1) (Np (NE 2) Nx)))) (O9 (Pa 6 (Nn (L7 NI) (Np (mTl (No [] (NB (Nn (arW 1 cF) (Np (Nn Na (Np (m2 ixW (NE 1) ⇑1) Nx)) Nx)) PQ) (tgN 0) NF (Nn (arW 3 d4) (Np (NE 4) (Np (NE 5) (Np (NE 0) Nx)))) 2)) Nx))) (O9 (Pa 7 (Nn Qf (Np (Nn Na (Np (m2 ixW (NE 1) ⇑1) Nx)) Nx))) (O9 (O4 (NB (mTl (LH (mTl (M8 (Np (NE 5) Nx))) (mTl (No [] (NB (m3 slW (NE 0) (Nz ⇑9) (Nz ⇑19)) PQ) (tgN 0) NF (Nn (arW 2 dB) (Np (NE 7) (Np (NE 0) Nx))) 2)))) PQ) (tgN 8) bB) (O7 (mC (.bl true))))))))))):=rfl
theorem xS {h:List Ob}{S P x PW TW:W}{bs:List B23}{cs:List Int}{n jg:Nat}{gk:List (List Key)}{gw:List W}{κ:List PKy}{rs:List (PKy×Int)}{le:Int}{a b c:Option W}(hP:PW=.tl (κ.map kyW))(hκ:κ.Perm (lpr n))(n6:n<6)(hp:ixW P (.int 1)=pr x)(hx:Lw h x (bs.map B23.w))(hm:bs.length=n+1)(hb: ∀b∈bs,b.e.tos.length<=6)(hc:(Qo (L0 bs)).length=cs.length)
  (eg:h[jg]?=some (.dit gk gw))(GG:GL gk gw (Mm (zsL (L0 bs) cs)))(g:RsG rs)(hle: ∃os∈itr (n+1) n [[0]],le=cs.sum - OD (Mm (zsL (L0 bs) cs)) os):
  Ok (bB [some S,some P,some (.tl (cs.map W.int)),some (.loc jg),some PW,some TW,some (.int le),some (.tup ((ev (n+1)).map W.int)),some (.tl (rs.map rwW)),a,b,c]) h λy h'=> ∃r',y=.nx r'/\(∃o a b c,r'=[some S,some P,some (.tl (cs.map W.int)),some (.loc jg),some PW,some TW,some (.int le),some (.tup ((ev (n+1)).map W.int)),o,a,b,c])/\Nw h h':=by
 unfold bB;have nh:=uu g;have nb: ∀b:Bool,neW (.bl b) (.bl b)=pr (.bl false):=λb=>by cases b<;>rfl
 have ll:=λh eg=>Ah (h:=h) (jg:=jg) (rs:=rs) n6 hκ eg GG g.1;have rr:=λh (hx:Lw h x (bs.map B23.w))=>wk (h:=h) (rs:=rs) hp hx hm ∅ ∅ hb hc g.1;have bb:=λh (hx:Lw h x (bs.map B23.w)) ne=>yK (h:=h) (rs:=rs) (cs:=cs) hp hx hm ∅ g.1 ne;rw[<-hP] at ll;rw[Jm] at rr;have gl: ∀ {α:Type} (q:M α),gd ((rs.map rwW).length<=sizeLine) q=q:=λq=>af (by rw[Fx];exact sz (by have:=g.1;omega));have sm:=jB cs;have rd:=uv (G:=Mm (zsL (L0 bs) cs)) (rs:=rs) n6;generalize Mm (zsL (L0 bs) cs)=G at *;generalize hE:ev (n+1)=E at *;obtain⟨CW,hC⟩: ∃CW,CW=W.tl (cs.map W.int):=⟨_,rfl⟩
 rw[<-hC] at rr bb sm;rw[<-hC];simp! only[aa,fq];refine aI (ll _ eg) λw h1 qq_=>?_;obtain⟨ew,N1⟩:=qq_;subst ew;simp!;refine aI (rr _ (hx.keep N1.eq)) λw h2 qq_=>?_;obtain⟨ew,N2⟩:=qq_;subst ew;have N3:=N1.trans N2;simp! only[aa,nb,nh];cases q:dc n G rs with
 |false=>
  simp!;exact ae ⟨_,rfl,⟨_,_,_,_,rfl⟩,N3⟩
 |true=>
  obtain⟨ne,top⟩:=rd q;simp! only[aa,sm,gl];refine gZ (I:=λi l h'=>h'=h2/\l=(((rs.take i).filter λr=>decide (r.1.2=E)).map (·.2)).map W.int) ⟨rfl,rfl⟩ (λ_ _ _ _=>trivial) (λi w' l h' hw I=>?_) λl h' I=>?_
  ·obtain⟨rfl,rfl⟩:=I;rw[FG] at hw;obtain⟨r,hr,rfl⟩:=FQ.mp hw;obtain⟨⟨p,s⟩,v⟩:=r;refine⟨_,rfl,?_⟩;simp! only[List.replicate,Gh,Gj,aa,eqT];rw[am hr,H0];by_cases e:s=E
   ·refine ae (.inr ⟨decide_eq_true e,ae ⟨rfl,?_⟩⟩);rw[Iy (by exact decide_eq_true e),Fz,Fz];rfl
   ·refine ae (.inl ⟨decide_eq_false e,rfl,?_⟩);rw[HI (by simp only[decide_eq_true_eq];exact e),Ia,Gd]
  ·obtain⟨rfl,rfl⟩:=I;rw[Fx,FS];simp! only[aa,oI (show (rs.filter λr=>decide (r.1.2=E)).map (·.2)≠ [] from λz=>ne (GY.mp z))];refine aI (bb _ (hx.keep N3.eq) ne) λw h3 qq_=>?_;obtain⟨ew,e3⟩:=qq_;subst ew e3;have dl: ¬le<cs.sum - NH ((rs.filter λr=>decide (r.1.2=E)).map (·.2)):=by
    obtain⟨os,ho,rfl⟩:=hle;have:=top os ho;omega
   simp! only[aa,decide_true,Gv,decide_eq_false dl];exact ae ⟨_,rfl,⟨_,_,_,_,rfl⟩,N3⟩
theorem Dn {α:Type}(l:List α):(LP l (some 9) (some 19)).length<=10:=by
 unfold LP;rw[Gk,show HT.sIx l.length 0 (some 9)=min 9 l.length from HT.sIx_nat _ _ 9,show HT.sIx l.length l.length (some 19)=min 19 l.length from HT.sIx_nat _ _ 19];omega
theorem Al (ns:List Int)(hh:List Ob):Ok (p5 [.cl (ns.map W.int)]) hh λw _=>w=.bl true:=by
 have e0:p5 [.cl (ns.map W.int)]=bd (tV [some (.cl (ns.map W.int)),none,none,none,none,none,none,none,none,none,none,none]) Mb:=rfl;rw[e0,uE];obtain⟨bx,bl,Gx,ht⟩:=yV ns (most:=5) (MM:=5) rfl ↥_ ↥_;obtain⟨ys,yl,yo⟩:=rW ns (A:=8) ↥_;obtain⟨N,hN⟩: ∃N:Int,N=(bl.length:Int):=⟨_,rfl⟩
 have gb:=E5 hN Gx;have lb:(bl.map (b23 (bl.map Bt.nm))).length=bl.length:=Fx ..;have eP:W.tup [.tl ((bxV bx).map bqW),.tl (bl.map (Bt.w (bl.map Bt.nm)))]=pgW (.tl ((bxV bx).map bqW)) (bl.map (b23 (bl.map Bt.nm))):=by unfold pgW;rw[Gg];rfl
 have m1:=Gx.g.l1;have m2:=Gx.l;have rp:=λh:List Ob=>wl (h:=h) Gx.g;rw[eP] at rp;have sS:slW (.cl (ns.map W.int)) (some 9) (some 19)=pr (.tl ((LP ns (some 9) (some 19)).map W.int)):=by
  show pr (W.tl (LP (ns.map W.int) (some 9) (some 19)))=_;rw[gy]
 have c10:=Dn ns;generalize LP ns (some 9) (some 19)=cells at *;obtain⟨SW,hS⟩: ∃SW,SW=W.cl (ns.map W.int):=⟨_,rfl⟩
 rw[<-hS] at sS ht yo;rw[<-hS];simp!;refine aI (ht hh) λw h1 qq_=>?_;obtain⟨ew,_⟩:=qq_;subst ew;simp!;refine aI (rp _) λw h2 qq_=>?_;obtain⟨ew,_⟩:=qq_;subst ew;generalize W.tl ((bxV bx).map bqW)=XW at *;generalize bl.map (b23 (bl.map Bt.nm))=bs at *;obtain⟨n,hn⟩: ∃n,bl.length=n+1:=⟨bl.length - 1,∅⟩
 rw[hn] at lb hN m2;have h6: ∀b∈bs,b.e.tos.length<=6:=λb hb=>(gb b hb).six;have hp:ixW (pgW XW bs) (.int 1)=pr (.tl (bs.map B23.w)):=ix1 ..;have eB:Na [.tl (bs.map B23.w)]=pr (.int N):=by rw[lenW_tl,Fx,lb,hN]
 have lw:(Qo (L0 bs)).length<=60:=by
  have h6': ∀e∈L0 bs,e.tos.length<=6:=λe he=>by
   obtain⟨b,hb',rfl⟩:=FW.mp he;exact h6 b hb'
  have l2:(L0 bs).length=bs.length:=by unfold L0;rw[Fx]
  have:=gN (L0 bs) h6' (L0 bs).length (Fy _);rw[FS] at this;omega
 simp!;refine rK hp (.inl rfl) ∅ h6 λh3 N3=>?_;have yo':=yo h3 ((Qo (L0 bs)).map Qn) (by rw[Fx];omega);rw[Fx] at yo';have cl:=qg ys (Qo (L0 bs)).length;generalize LL ys (Qo (L0 bs)).length=cs at *;have lg:=λh=>uX (h:=h) hp (.inl rfl) ∅ h6 cl.symm;obtain⟨κ,pκ,hs⟩:=vZ (show n<5 by omega) (F0 (Mm (zsL (L0 bs) cs)));have pp:=λh=>uA (h:=h) (m:=n+1) hp (.inl rfl) lb ∅ ∅ h6 cl.symm hs;have oo:=λh:List Ob=>mR (h:=h) hN ∅ ∅;rw[show n+1 - 1=n from rfl] at oo;have lp:=λh:List Ob=>uU (h:=h) hN ∅;have lB:=λ(h:List Ob) (rs:List (PKy×Int)) (TW:W) (jg:Nat) (gk:List (List Key)) (gw:List W) (le:Int) (a b c:Option W) eg GG g hle=>xS (h:=h) (S:=SW) (TW:=TW) (jg:=jg) (gk:=gk) (gw:=gw) (rs:=rs) (le:=le) (a:=a) (b:=b) (c:=c) rfl (yy (show n<5 by omega)).2 (show n<6 by omega) hp (.inl rfl) lb h6 cl.symm eg GG g hle;have ol:=j7 (show n+1<=6 by omega) n;have ol2:6 ^ n<=1296:=Ht ↥_ (show n<=4 by omega);have nO: ∀o∈itr (n+1) n [[0]],o.Nodup/\1<=o.length/\o.length<=100:=λo ho=>by
  obtain⟨r,e,l⟩:=fu _ _ _ ho;refine⟨(yz (show n<6 by omega) ho).1,?_,?_⟩
  ·rw[e,FH];omega
  ·rw[e,FH];omega
 have neO:itr (n+1) n [[0]]≠ []:=by
  have: ∀n,n<5->itr (n+1) n [[0]]≠ []:=⋯;exact this n ∅
 have tr:Qf [.int N]=pr (.tup ((ev (n+1)).map W.int)):=by
  show gd ((-(2 ^ 62)<=N/\N<2 ^ 62)/\N.toNat<=sizeLine) (pr (W.tup (Mw 0 N.toNat)))=_;rw[af ⟨⟨∅,∅⟩,sz ∅⟩,show N.toNat=n+1 by omega,tO]
 have lκ:1<=κ.length/\κ.length<=300:=by
  have e1:=pκ.length_eq;have e2:=(lQ (show n<6 by omega)).1;have e3:1<=(lpr n).length:=by unfold lpr;simp
  omega
 have gκ: ∀r∈κ.map (λk=>(k,F0 (Mm (zsL (L0 bs) cs)) k)),(r:PKy×Int).1.2≠ []/\r.1.2.length<=6:=λr hr=>by
  obtain⟨k,hk,rfl⟩:=FW.mp hr;have kl:=pκ.mem_iff.mp hk;refine⟨λz=>?_,tq (show n<6 by omega) kl⟩;have:=tm kl;dsimp only at z;rw[z] at this;cases this
 generalize hr0:κ.map (λk=>(k,F0 (Mm (zsL (L0 bs) cs)) k))=r0 at *;have l0:1<=r0.length/\r0.length<=300:=by rw[<-hr0,Fx];exact lκ
 have lo:=λ(h:List Ob) (c:Int)=>uV (h:=h) (c:=c) l0.1 l0.2 (λr hr=>(gκ r hr).1) (λr hr=>(gκ r hr).2);generalize pgW XW bs=PG at *;generalize Mm (zsL (L0 bs) cs)=G at *;generalize W.tl (bs.map B23.w)=BW at *;generalize W.tl ((Qo (L0 bs)).map Qn)=WW at *;generalize itr (n+1) n [[0]]=O at *;generalize W.tup ((ev (n+1)).map W.int)=EW at *;generalize W.tl ((lpq n).map kyW)=PW at *;obtain⟨TW,hT⟩: ∃TW,TW=W.tl (r0.map rwW):=⟨_,rfl⟩
 rw[<-hT] at pp lo;obtain⟨CW,hC⟩: ∃CW,CW=W.tl (cs.map W.int):=⟨_,rfl⟩
 rw[<-hC] at yo' lg pp lB;simp!;refine aI yo' λw h4 qq_=>?_;obtain⟨ew,_⟩:=qq_;rw[ew];simp!;refine aI (lg _) λw h5 qq_=>?_;obtain⟨jg,gk,gw,ew,D5,GG⟩:=qq_;subst ew;simp! only[aa,hp,eB];refine aI (lp _) λw h6' qq_=>?_;obtain⟨ew,N6⟩:=qq_;rw[ew];simp!;refine aI (pp _) λw h7 qq_=>?_;obtain⟨ew,N7⟩:=qq_;rw[ew];have eg7:=N7.get (N6.get D5.new);simp! only[aa,hp,eB];refine aI (oo _) λw h8 qq_=>?_;obtain⟨ew,e8⟩:=qq_;subst ew e8;have gO: ∀ {α:Type} (q:M α),gd ((O.map Pp).length<=sizeLine) q=q:=λq=>af (by rw[Fx];exact sz ∅);simp! only[aa,gO];refine dj (I:=λi l h'=>h'=h8/\l=((O.take i).map λo=>cs.sum - OD G o).map W.int) ⟨rfl,rfl⟩ eS (λ_ _ _ _=>trivial) (λi w l h' hw I=>?_) λl h' I=>?_
 ·obtain⟨rfl,rfl⟩:=I;rw[FG] at hw;obtain⟨o,ho,rfl⟩:=FQ.mp hw;obtain⟨n1,n2,n3⟩:=nO o (F9 ho);refine⟨_,rfl,?_⟩;simp! only[List.replicate,Gh,Gj,aa];rw[hC];refine (xR (cs:=cs) eg7 GG n1 n2 n3).imp λw h9 qz=>?_;obtain⟨ew,e9⟩:=qz;subst ew e9;refine⟨rfl,?_⟩;rw[am ho,Fz,Fz];rfl
 obtain⟨rfl,rfl⟩:=I;rw[Fx,FS];have neL:(O.map λo=>cs.sum - OD G o)≠ []:=λz=>neO (GY.mp z);have hle: ∃os∈O,NI (O.map λo=>cs.sum - OD G o)=cs.sum - OD G os:=by
  obtain⟨o,ho,e⟩:=FW.mp (lf neL).1;exact⟨o,ho,e.symm⟩
 simp! only[aa,Az neL,hp,eB,tr,sS];generalize NI (O.map λo=>cs.sum - OD G o)=le at *;have gc: ∀ {α:Type} (q:M α),gd ((cells.map W.int).length<=sizeLine) q=q:=λq=>af (by rw[Fx];exact sz ∅);have lO: ∀l:List W,Nj (.tl l)=pr l:=λ_=>rfl;simp! only[aa,LH,sS,gc];refine dj (I:=λi l h2'=> ∃rss:List (List (PKy×Int)),l=rss.map (λrs=>W.tl (rs.map rwW))/\rss.length<=i/\(∀rs∈rss,RsG rs)/\Nw h' h2') ⟨[],rfl,Fy _,λ_ h=>absurd h Ga,Nw.refl _⟩ eS (λ_ _ _ _=>trivial) (λi w l h9 hw I=>?_) λl h9 I=>?_
 ·obtain⟨rss,rfl,lr,gr,N9⟩:=I;rw[FG] at hw;obtain⟨c,hc,rfl⟩:=FQ.mp hw;refine⟨_,rfl,?_⟩;simp! only[List.replicate,Gh,Gj,aa];refine (lo _ _).imp λw h10 qz=>?_;obtain⟨⟨rs',ew,g'⟩,N10⟩:=qz;subst ew;refine⟨rss++[rs'],by rw[Fz];rfl,by rw[FE];exact Nat.succ_le_succ lr,λrs hrs=>?_,N9.trans N10⟩;rcases Gw.mp hrs with z|z
  ·exact gr rs z
  ·rw[FZ.mp z];exact g'
 obtain⟨rss,rfl,lr,gr,N9⟩:=I;rw[Fx] at lr;have ec:[TW]++rss.map (λrs=>W.tl (rs.map rwW))=(r0::rss).map λrs=>W.tl (rs.map rwW):=by rw[hT];rfl
 have g0: ∀rs∈r0::rss,RsG rs:=λrs hrs=>by
  rcases FC.mp hrs with rfl|z
  ·exact⟨F6 l0.2 ↥_,λr hr=>(gκ r hr).2⟩
  ·exact gr rs z
 have gd2: ∀ {α:Type} (q:M α),gd (0+1+(rss.map λrs=>W.tl (rs.map rwW)).length<=sizeLine) q=q:=λq=>af (by rw[Fx];exact sz ∅);simp! only[aa,lO,gd2,ec];refine cp (I:=λi ρ h10=> ∃o a b c,ρ=[some SW,some PG,some CW,some (.loc jg),some PW,some TW,some (.int le),some EW,o,a,b,c]/\Nw h' h10) ⟨_,_,_,_,rfl,N9⟩ (λ_ _ _ _=>trivial) (λi w ρ h10 hw I=>?_) λρ h10 I=>?_
 ·obtain⟨o,a,b,c,rfl,N10⟩:=I;rw[FG] at hw;obtain⟨rs,hrs,rfl⟩:=FQ.mp hw;refine⟨[some SW,some PG,some CW,some (.loc jg),some PW,some TW,some (.int le),some EW,some (.tl (rs.map rwW)),a,b,c],rfl,?_⟩;refine (lB _ rs TW jg gk gw le a b c (N10.get eg7) GG (g0 rs (F9 hrs)) hle).imp λy h11 qz=>?_;obtain⟨r',e,⟨o,a,b,c,er⟩,N11⟩:=qz;subst e er;exact⟨_,rfl,_,_,_,_,rfl,N10.trans N11⟩
 ·obtain⟨o,a,b,c,rfl,N10⟩:=I;simp!;exact ae rfl
theorem M6 (ns:List Int)(hh:List Ob): ∃h',p5 [.cl (ns.map W.int)] hh=.ok (.bl true) h':=by
 obtain⟨w,h',e,rfl⟩:=Al ns hh;exact⟨h',e⟩
end
end Q
namespace L2
open PySem PySem.Spec PyProof.Rows
theorem ln1 {α:Type}: ∀ {us:List α},us.length=1-> ∃a,us=[a]
 |[a],_=>⟨a,rfl⟩
theorem ln2 {α:Type}: ∀ {us:List α},us.length=2-> ∃a b,us=[a,b]
 |[a,b],_=>⟨a,b,rfl⟩
theorem ln3 {α:Type}: ∀ {us:List α},us.length=3-> ∃a b c,us=[a,b,c]
 |[a,b,c],_=>⟨a,b,c,rfl⟩
theorem ln4 {α:Type}: ∀ {us:List α},us.length=4-> ∃a b c d,us=[a,b,c,d]
 |[a,b,c,d],_=>⟨a,b,c,d,rfl⟩
section
variable (K:Zf)(mg:Str->Option Jx)(x:Str)(C:JG)
noncomputable def Dq (st:Ke):Prop:= ∃f fd,Fun K x x st f fd/\mg x=some (.ref f)
noncomputable def Dqm (q:Str)(st:Ke):Prop:= ∃f fd,Fun K x q st f fd/\Ld K C x f
noncomputable def Gt (zs:List Str):Prop:= ∃a,mg x=some (.ref a)/\ ∀H,SqT K H a (zs.map V.str)
noncomputable def Gi (i:Int):Prop:= ∃t,mg x=some (.int i t)
noncomputable def Gs (i:Str):Prop:= ∃t,mg x=some (.str i t)
end
section
variable {K:Zf}{mg:Str->Option Jx}{x q:Str}{st:Ke}{C f:JG}{k:Nat}{oc:Jx}{od an:Option JG}{osl:Array (Option Jx)}{kV doc pm cdv ct:Jx}{h:JD}
theorem dq (X:K.In h)(G:h.Ns J6 mg)(a:Jv K J6 x=some (some (.ref f)))(l:K.lookup f=some ⟨oc,od,.func (fnOf x x (cO st) (bE st) (ac st) .none kV doc pm an cdv ct),osl⟩)(c:codeIn K cdv x=true)(k:Ju K (.ref f)=true):Dq K mg x st:=⟨_,_,yg l c k,Jw X G a⟩
theorem dqm (a:Js K (.ref C) x=some (some (.ref f)))(i:PySem.W.isFn K (.ref f)=true)(l:K.lookup f=some ⟨oc,od,.func (fnOf x q (cO st) (bE st) (ac st) .none kV doc pm an cdv ct),osl⟩)(c:codeIn K cdv q=true)(k:Ju K (.ref f)=true):Dqm K x C q st:=⟨_,_,yg l c k,a,i,k⟩
theorem gi {i:Int}(X:K.In h)(G:h.Ns J6 mg)(a:Jv K J6 x=some (some (.int i t))):Gi mg x i:=⟨_,Jw X G a⟩
theorem gs {i:Str}(X:K.In h)(G:h.Ns J6 mg)(a:Jv K J6 x=some (some (.str i t))):Gs mg x i:=⟨_,Jw X G a⟩
theorem gn (X:K.In h)(G:h.Ns J6 mg)(a:Jv K J6 x=some none):mg x=none:=PySem.W.mg_none_of X G a
noncomputable def stx:List Jx->List Str
 |.str z _::r=>z::stx r
 |_=>[]
theorem vV: ∀ {us:List Jx},(stx us).length=us.length->Vals ((stx us).map V.str) us
 |[],_=>.nil
 |.str z t::r,e=>.cons ⟨_,rfl⟩ (vV (Hb.inj e))
theorem gt {zs:List Str}{n:Nat}(X:K.In h)(G:h.Ns J6 mg)(a:Jv K J6 x=some (some (.ref f)))(l:K.lookup f=some ⟨.type "tuple",od,.seq its n,osl⟩)(e:zs=stx its.toList/\(stx its.toList).length=its.toList.length/\its.toList.length<=64):Gt K mg x zs:=by
 obtain⟨rfl,e,e2⟩:=e;exact⟨f,Jw X G a,λH=>.inr ⟨_,_,_,l,rfl,rfl,F6 (by simpa using e2) (by unfold sizeLine;decide),vV e⟩⟩
end
section
variable {P:JB}{w:JC}{K:Zf}{mg:Str->Option Jx}{base:JD}{x q:Str}{st:Ke}{C f:JG}{fd:Ky}{k:Nat}{fn:List W->M W}{g:La->M Fl}
theorem okf (N:List Str)(m:Nat)(F:Fun K x x st f fd)(Mf:mg x=some (.ref f))
  (hb: ∀ (cdv:Jx) (A:JL) (outer:List Env) (s:JJ) (H:Hp) (E:XK),Room k (A.deeper (KD x (ac st) ↥s f cdv))->(A.deeper (KD x (ac st) ↥s f cdv)).units+1<JM->(A.deeper (KD x (ac st) ↥s f cdv)).units+64<JM->N.Nodup->JSs (LQ CX0 P w K mg base N x (ac st) f cdv A outer s H E).nox E0 (bE st) g)
  (S:Lb N (N.take m) (ac st):=by array_mem_dec)(hm:(N.take m).length=m:=by rfl)(hf:fn=OS N.length g:=by rfl)
  (hi: ∀ (kV doc pm:Jx) (an:Option JG) (cdv ct:Jx) (us:List Jx),us.length=(N.take m).length->bindArgs (fnOf x x (cO st) (bE st) (ac st) .none kV doc pm an cdv ct) ⟨us,[]⟩=pure ((N.take m).zip us):=by subst_eqs):
  CG P w K mg base (k+1) x f fd (N.take m) m fn:=
 ⟨A6 (g:=g) F S rfl hm hf λcdv A outer s H E hr=>hb cdv A outer s H E hr (A2 hr) hr.units S.nd,F.binds hi,F.kp,Mf⟩
theorem okz (N:List Str)(m:Nat)(F:Fun K x x st f fd)(Mf:mg x=some (.ref f))(h:∀ws h,fn ws h=.bad)
 (hi: ∀ (kV doc pm:Jx) (an:Option JG) (cdv ct:Jx) (us:List Jx),us.length=(N.take m).length->bindArgs (fnOf x x (cO st) (bE st) (ac st) .none kV doc pm an cdv ct) ⟨us,[]⟩=pure ((N.take m).zip us)):
 CG P w K mg base k x f fd (N.take m) m fn:=⟨Dm h,F.binds hi,F.kp,Mf⟩
theorem okm (N:List Str)(m:Nat)(F:Fun K x q st f fd)(Mf:Ld K C x f)
  (hb: ∀ (cdv:Jx) (A:JL) (outer:List Env) (s:JJ) (H:Hp) (E:XK),Room k (A.deeper (KD q (ac st) ↥s f cdv))->(A.deeper (KD q (ac st) ↥s f cdv)).units+1<JM->(A.deeper (KD q (ac st) ↥s f cdv)).units+64<JM->N.Nodup->JSs (LQ CX0 P w K mg base N q (ac st) f cdv A outer s H E).nox E0 (bE st) g)
  (S:Lb N (N.take m) (ac st))(hm:(N.take m).length=m)(hf:fn=OS N.length g)
  (hi: ∀ (kV doc pm:Jx) (an:Option JG) (cdv ct:Jx) (us:List Jx),us.length=(N.take m).length->bindArgs (fnOf x q (cO st) (bE st) (ac st) .none kV doc pm an cdv ct) ⟨us,[]⟩=pure ((N.take m).zip us)):
  CGm P w K mg base (k+1) C x f fd (N.take m) m fn:=
 ⟨A6 (g:=g) F S rfl hm hf λcdv A outer s H E hr=>hb cdv A outer s H E hr (A2 hr) hr.units S.nd,F.binds hi,Mf⟩
end
section
variable {X:Cx}{E:XK}{p pos apos:Kb}{zs:List Str}{x:Str}
noncomputable def nst:Expr->Bool
 |.Starred ..=>false
 |_=>true
theorem zd (h:nst e=true):Kd (e::es) env=(false,Ka e env)::Kd es env:=by
 cases e<;>first|rfl|cases h
noncomputable def nsl:Expr->Bool
 |.Slice ..=>false
 |_=>true
theorem D3 (h:nsl b=true):kq b:=by
 cases b<;>first|exact λ_ _=>rfl|cases h
theorem Fj {fa fb:La->M W}(h:nsl b=true)(hu:X.A.units+1<JM)(ha:JE X E a fa)(hb:JE X E b fb):JE X E (.Subscript a b pos) (m2 ixW fa fb):=EA hu ha hb (D3 h)
theorem EB {fa fb:La->M W}(h:nsl b=true)(hu:X.A.units+64<JM)(ha:JE X E a fa)(hb:JE X E b fb):JE X E (.Subscript a b pos) (m2 MI fa fb):=CV hu ha hb (D3 h)
theorem Fp {u:La->M W}{l:La->M (List W)}(h:nst e=true)(ha:JE X E e u)(hr:JA X E es l):JA X E (e::es) (Np u l):=Ag ha hr (zd h)
theorem En (h:es.all nst=true):(Kc pos (Kd es env)).any (·.1)=false:=by
 induction es with
 |nil=>exact Ce
 |cons e r ih=>rw[Hn,F7] at h;exact zI (zd h.1) (ih h.2)
noncomputable def Cm (X:Cx)(E:XK)(op:CmpOp)(f:W->W->M W):Prop:= ∃r,OpM X E r f/\OpR X (Kg op) r
theorem Fh {f:W->W->M W}{fa fb:La->M W}(h:Cm X E op f)(ha:JE X E a fa)(hb:JE X E b fb)(hm:Kh op b=false):JT X E (.Compare a [op] [b] pos) (mB (m2 f fa fb)):=h.elim λ_ h=>Ck h.2 h.1 ha hb hm
theorem Fm {f:W->W->M W}{fa fb:La->M W}(h:Cm X E op f)(ha:JE X E a fa)(hb:JE X E b fb)(hm:Kh op b=false):JE X E (.Compare a [op] [b] pos) (m2 f fa fb):=h.elim λ_ h=>C0 h.2 h.1 ha hb hm
theorem Ep {f g:W->W->M W}{fa fb fc:La->M W}(h:Cm X E op f)(h':Cm X E op' g)(ha:JE X E a fa)(hb:JE X E b fb)(hc:JE X E c fc)(hm:lastMarks [op,op'] [b,c]=false):JT X E (.Compare a [op,op'] [b,c] pos) (mB (aK f g fa fb fc)):=h.elim λ_ h=>h'.elim λ_ h'=>xt h.2 h.1 h'.2 h'.1 ha hb hc hm
noncomputable def Cr (X:Cx)(x:Str)(m:Nat)(f:List W->M W):Prop:= ∃k a d ps,CG X.prog X.w X.K X.mg X.base k x a d ps m f/\Room k X.A
theorem Fk {l:La->M (List W)}{m:Nat}{f:List W->M W}(h:Cr X x m f)(ha:JA X E0 (e::es) l)(hg:Gl X x)
  (hdb:(x==("__debug__":Str))=false)(he:(e::es).all nst=true):
  JE X E0 (.Call (.Name x p) (e::es) [] pos) (Nn (arW m f) l):=by
 obtain⟨_,_,_,_,h,hr⟩:=h;rw[Hn,F7] at he;exact EH h hr ha hg hdb (zd he.1) (En he.2)
noncomputable def Cs (X:Cx)(c x:Str)(m:Nat)(f:List W->M W):Prop:= ∃C k a d ps,Jv X.K J6 c=some (some (.ref C))/\Cls X.K C/\CGm X.prog X.w X.K X.mg X.base k C x a d ps m f/\Room k X.A
theorem Fi {c:Str}{fo:La->M W}{l:La->M (List W)}{m:Nat}{f:List W->M W}(h:Cs X c x m f)(ho:JE X E0 o fo)(ha:JA X E0 (e::es) l)
  (hst:Kd (e::es) X.env=(false,Ka e X.env)::Kd es X.env)(hpl:(Kc pos (Kd es X.env)).any (·.1)=false)
  (ht:Ka (.Call (.Attribute o x apos) (e::es) [] pos) X.env=(do
   let ov<-Ka o X.env
   Ki apos.atName
   let (f,first)<-Kj [ov] (Ku ov x pl)
   callWith pos f first (Kc pos (Kd (e::es) X.env)) (Kw pos (Kx [] X.env)))):
  JE X E0 (.Call (.Attribute o x apos) (e::es) [] pos) (Nt c x m f fo l):=by
 obtain⟨_,_,_,_,_,n,k,F,hr⟩:=h;exact CQ n k F hr ho ha hst hpl ht
theorem Ey {c:Str}{fo:La->M W}{m:Nat}{f:List W->M W}(h:Cs X c x m f)(ho:JE X E0 o fo)
  (ht:Ka (.Call (.Attribute o x apos) [] [] pos) X.env=(do
   let ov<-Ka o X.env
   Ki apos.atName
   let (f,first)<-Kj [ov] (Ku ov x pl)
   callWith pos f first (Kc pos (Kd [] X.env)) (Kw pos (Kx [] X.env)))):
  JE X E0 (.Call (.Attribute o x apos) [] [] pos) (Nt c x m f fo Nx):=by
 obtain⟨_,_,_,_,_,n,k,F,hr⟩:=h;exact z9 n k F hr ho ht
noncomputable def Fq (X:Cx)(c x:Str):Prop:= ∃C,Jv X.K J6 c=some (some (.ref C))/\Cls X.K C/\NoAttr X.K C x
theorem EG {c:Str}{fo:La->M W}(h:Fq X c x)(ho:JE X E o fo)(hb:Kv o x X.env (Ka o X.env)=Ka o X.env):JE X E (.Attribute o x pos) (m1 (Md c x) fo):=by
 obtain⟨_,n,k,a⟩:=h;exact CZ n k a ho hb
theorem Et {c:Str}{fo fv:La->M W}(h:Fq X c x)(ho:JE X E o fo)(hv:JE X E value fv)(hs:swapsWith value (some (.Attribute o x pos')) pos.line X.env=pure false):JS X E (.Assign [.Attribute o x pos'] value pos) (O3 c x fo fv):=by
 obtain⟨_,n,k,a⟩:=h;exact Ct n k a ho hv hs
noncomputable def Tq (X:Cx)(tg:Expr)(t:W->La->Option La):Prop:= ∃m gT,Ln X.K m gT t/\PG X tg gT
theorem Eu {src:La->M Sr}{t:W->La->Option La}{g:La->M Fl}(h:Tq X tg t)(hp:Km (JP X.prog X.w) X.A X.env X.xe)(hc:X.calm=true)(hi:JI X E tg iter src)(hb:JSs X E body g)
  (hs: ∀x,Ks iter X.env x=pure x):JS X E (.For tg iter body [] pos) (O4 src t g):=by
 obtain⟨_,_,ht,hg⟩:=h;exact Cp hp hc hi hg ht hb hs
theorem Er {t:W->La->Option La}{f:La->M W}(h:Tq X tg t)(he:JE X E e f)(hs:swapsWithSole [tg] e pos.line X.env=pure false)(hw:swappedStores [tg] e X.env=pure none)
  (h1:(Kl [tg] X.env).map (·.2)=[assign tg X.env]):JS X E (.Assign [tg] e pos) (Pc t f):=by
 obtain⟨_,_,ht,hg⟩:=h;exact Cl he hg ht hs hw h1
theorem E2 (hu:X.A.units+64<JM):Cm X E .Eq eqW:=⟨_,BZ hu,Ed⟩
theorem EU (hu:X.A.units+64<JM):Cm X E .NotEq neW:=⟨_,BR hu,D7⟩
theorem EV:Cm X E .Lt ltW:=⟨_,BS,D8⟩
theorem EX:Cm X E .LtE leW:=⟨_,BT,D9⟩
theorem EZ:Cm X E .Gt gtW:=⟨_,BX,Eb⟩
theorem E1:Cm X E .GtE geW:=⟨_,BY,Ec⟩
theorem EY (hu:X.A.units+1<JM):Cm X E .In inW:=⟨_,BV,Ea hu⟩
theorem ET (hu:X.A.units+1<JM):Cm X E .NotIn cy:=⟨_,uF,wQ hu⟩
theorem EF {i:Int}(hm:Gi X.mg x i)(hg:Gl X x:=by rfl)(hd:(x==("__debug__":Str))=false:=by decide):JE X E (.Name x pos) (mC (.int i)):=hm.elim λ_ hm=>j6 (w:=.int i) (v:=.int i) hg hm ⟨_,rfl⟩ (λo=>OV.mpr rfl) hd
theorem ED {i:Str}(hm:Gs X.mg x i)(hg:Gl X x:=by rfl)(hd:(x==("__debug__":Str))=false:=by decide):JE X E (.Name x pos) (mC (.str i)):=hm.elim λ_ hm=>j6 (w:=.str i) (v:=.str i) hg hm ⟨_,rfl⟩ (λo=>OY.mpr rfl) hd
theorem EC (h:Gt X.K X.mg x zs)(hg:Gl X x:=by rfl)(hd:(x==("__debug__":Str))=false:=by decide):JE X E (.Name x pos) (mC (.tup (zs.map W.str))):=by
 obtain⟨a,hm,hq⟩:=h;exact xD hm hq hg hd
end
section
variable (P:JB)(w:JC)(K:Zf)(mg:Str->Option Jx)(base:JD)(k:Nat)(C:JG)(x:Str)(m:Nat)(fn:List W->M W)
noncomputable def Cq:Prop:= ∃a d ps,CG P w K mg base k x a d ps m fn
noncomputable def Cqm:Prop:= ∃a d ps,CGm P w K mg base k C x a d ps m fn
end
section
variable {P:JB}{w:JC}{K:Zf}{mg:Str->Option Jx}{base:JD}{x q:Str}{st:Ke}{C:JG}{k:Nat}{fn:List W->M W}{g:La->M Fl}
theorem okq (N:List Str)(m:Nat)(D:Dq K mg x st)(hb: ∀ (f:JG) (cdv:Jx) (A:JL) (outer:List Env) (s:JJ) (H:Hp) (E:XK),Room k (A.deeper (KD x (ac st) ↥s f cdv))->(A.deeper (KD x (ac st) ↥s f cdv)).units+1<JM->(A.deeper (KD x (ac st) ↥s f cdv)).units+64<JM->N.Nodup->JSs (LQ CX0 P w K mg base N x (ac st) f cdv A outer s H E).nox E0 (bE st) g)
  (S:Lb N (N.take m) (ac st):=by array_mem_dec)(hm:(N.take m).length=m:=by rfl)(hf:fn=OS N.length g:=by rfl)(hi: ∀ (kV doc pm:Jx) (an:Option JG) (cdv ct:Jx) (us:List Jx),us.length=(N.take m).length->bindArgs (fnOf x x (cO st) (bE st) (ac st) .none kV doc pm an cdv ct) ⟨us,[]⟩=pure ((N.take m).zip us):=by subst_eqs):Cq P w K mg base (k+1) x m fn:=by
 obtain⟨f,_,F,M⟩:=D;exact⟨_,_,_,okf N m F M (hb f) S hm hf hi⟩
theorem NX (N:List Str)(m:Nat)(D:Dqm K x C q st)(hb: ∀ (f:JG) (cdv:Jx) (A:JL) (outer:List Env) (s:JJ) (H:Hp) (E:XK),Room k (A.deeper (KD q (ac st) ↥s f cdv))->(A.deeper (KD q (ac st) ↥s f cdv)).units+1<JM->(A.deeper (KD q (ac st) ↥s f cdv)).units+64<JM->N.Nodup->JSs (LQ CX0 P w K mg base N q (ac st) f cdv A outer s H E).nox E0 (bE st) g)
  (S:Lb N (N.take m) (ac st):=by array_mem_dec)(hm:(N.take m).length=m:=by rfl)(hf:fn=OS N.length g:=by rfl)(hi: ∀ (kV doc pm:Jx) (an:Option JG) (cdv ct:Jx) (us:List Jx),us.length=(N.take m).length->bindArgs (fnOf x q (cO st) (bE st) (ac st) .none kV doc pm an cdv ct) ⟨us,[]⟩=pure ((N.take m).zip us):=by subst_eqs):Cqm P w K mg base (k+1) C x m fn:=by
 obtain⟨f,_,F,M⟩:=D;exact⟨_,_,_,okm N m F M (hb f) S hm hf hi⟩
theorem okqz (N:List Str)(m:Nat)(D:Dq K mg x st)(h:∀ws h,fn ws h=.bad)(hi: ∀ (kV doc pm:Jx) (an:Option JG) (cdv ct:Jx) (us:List Jx),us.length=(N.take m).length->bindArgs (fnOf x x (cO st) (bE st) (ac st) .none kV doc pm an cdv ct) ⟨us,[]⟩=pure ((N.take m).zip us):=by subst_eqs):Cq P w K mg base k x m fn:=by
 obtain⟨_,_,F,M⟩:=D;exact⟨_,_,_,okz N m F M h hi⟩
end
section
variable {X:Cx}{x c:Str}{C:JG}{k m:Nat}{f:List W->M W}{p pos:Kb}
theorem cr (h:Cq X.prog X.w X.K X.mg X.base k x m f)(r:Room k X.A):Cr X x m f:=h.elim λa ⟨d,ps,h⟩=>⟨k,a,d,ps,h,r⟩
theorem cs (h:Cqm X.prog X.w X.K X.mg X.base k C x m f)(n:Jv X.K J6 c=some (some (.ref C)))(l:Cls X.K C)(r:Room k X.A):Cs X c x m f:=h.elim λa ⟨d,ps,h⟩=>⟨C,k,a,d,ps,n,l,h,r⟩
theorem Ew (h:Cqm X.prog X.w X.K X.mg X.base k C "__init__" m f)(hn:Jv X.K J6 c=some (some (.ref C)))(hk:makesIn X.K C=true)(kc:Ju X.K (.ref C)=true)(hm:X.mg c=some (.ref C))(hr:Room (k+1) X.A)(hg:Gl X c:=by rfl)(hdb:(c==("__debug__":Str))=false:=by decide):JE X E0 (.Call (.Name c p) [] [] pos) (Nr c m f Nx):=by
 obtain⟨_,_,_,h⟩:=h;exact xB ⟨hk,h.me.at_,h.me.fn,kc⟩ hn h.ok h.bi hr hm hg hdb
end
section
variable {X:Cx}{E:XK}{e a b:Expr}{es:List Expr}{s:Ke}{ss:List Ke}{o:Option Expr}{op:Operator}{kw:List KB}{c:Const}{x:Str}{pos:Kb}{f:La->M W}{u:La->M Bool}{l:La->M (List W)}{g:La->M Fl}{r:La->M Sr}{q:La->M (Option Int)}
theorem gNm (h:JE X E (.Name x pos) f):JE X E (.Name x pos) f:=h
theorem gCo {j:Nat}(h:JE X E (.Constant c j pos) f):JE X E (.Constant c j pos) f:=h
theorem gCl (h:JE X E (.Call e es kw pos) f):JE X E (.Call e es kw pos) f:=h
theorem gBi (h:JE X E (.BinOp a op b pos) f):JE X E (.BinOp a op b pos) f:=h
theorem gSu (h:JE X E (.Subscript a b pos) f):JE X E (.Subscript a b pos) f:=h
theorem gJE (h:JE X E e f):JE X E e f:=h
theorem gJT (h:JT X E e u):JT X E e u:=h
theorem gJW (h:JW X E e u):JW X E e u:=h
theorem gJA (h:JA X E es l):JA X E es l:=h
theorem gJF (h:JF X E e l):JF X E e l:=h
theorem gJS (h:JS X E s g):JS X E s g:=h
theorem gJZ (h:JSs X E ss g):JSs X E ss g:=h
theorem gJI (h:JI X E a b r):JI X E a b r:=h
theorem gJO (h:JO X E o q):JO X E o q:=h
end
end L2
namespace L2
open PySem PySem.Spec
noncomputable def Gp (K:Zf)(mg:Str->Option Jx)(x:Str)(i:Int)(ks:List Int):Prop:= ∃c d,mg x=some (.ref c)/\(∀H,SqT K H c [.ref d,.int i])/\ ∀H,SqT K H d (ks.map V.int)
theorem gp {K:Zf}{mg:Str->Option Jx}{x:Str}{i j:Int}{n n2:Nat}(X:K.In h)(G:h.Ns J6 mg)(a:Jv K J6 x=some (some (.ref f)))(l:K.lookup f=some ⟨.type "tuple",od,.seq #[.ref d,.int i t] n,sl⟩)(l2:K.lookup d=some ⟨.type "tuple",od2,.seq #[.int j t2] n2,sl2⟩):Gp K mg x i [j]:=
 ⟨f,d,Jw X G a,λH=>.inr ⟨_,_,_,l,rfl,rfl,by show 2<=sizeLine;decide,.cons rfl (.cons ⟨_,rfl⟩ .nil)⟩,λH=>.inr ⟨_,_,_,l2,rfl,rfl,by show 1<=sizeLine;decide,.cons ⟨_,rfl⟩ .nil⟩⟩
section
variable {X:Cx}{E:XK}{pos:Kb}{x:Str}
theorem EE {i:Int}(h:Gp X.K X.mg x i ks)(hg:Gl X x:=by rfl)(hd:(x==("__debug__":Str))=false:=by decide):JE X E (.Name x pos) (mC (M0 true (i,ks))):=by
 obtain⟨c,d,hm,hq,hq2⟩:=h;exact xE hm hq hq2 hg hd
theorem Du (hu:X.A.units+64<JM):Cm X E .In (Ms false):=⟨_,sX,Fu hu⟩
theorem Dr (hu:X.A.units+64<JM):Cm X E .NotIn (Ms true):=⟨_,sX,zJ hu⟩
theorem Dp (hu:X.A.units+64<JM):Cm X E .NotIn NS:=⟨_,zw,B4 hu⟩
end
end L2
namespace Q
open PySem L2 Wd
set_option hygiene false in
local macro_rules|`(tactic|and_intros)=>do
 let T (n:String)(b:List String):Lean.Term:=Lean.Syntax.mkApp (Lean.mkIdent n.toName) (b.toArray.map λb=>Lean.mkIdent b.toName);let F (s:String):Lean.MacroM (Lean.TSyntax `tactic):=do
  let a ← (s.splitOn " ").toArray.mapM λw=>match w.splitOn ":" with
   |"!"::n::b=>`(tacticSeq|exact $(T n b))
   |n::b=>`(tacticSeq|apply $(T n b))
   |_=>Lean.Macro.throwUnsupported
  `(tactic|first $[|$a]*)
 let x0 ← F "!:CY !:CH !:EI";let x1 ← F "!:C5 Fp";let x2 ← F "!:zP xu zO";let x3 ← F "Co Cn:hN Es zQ Et xv:hu uP:hu6 Er Eu !:Cu";let x4 ← F "Fh Cj Ep";let x5 ← F "xo zK AY Ch";let x6 ← F "xz rD rE CU Fk uT Ac xA zZ xy Ad zY C4 CC z0 Fi Ey Ae:hu C2 C1 Aa uS:hu6 rC Ab rB";let x7 ← F "xz rD rE C3 CP Af CD CO CK";let x8 ← F "Fj EB CJ Ev CI";let x9 ← F "xz rD rE CB Fm xC CL Ez EG !:xF";let x10 ← F "Cy Cz zX";let x11 ← F "zV Cw uR uQ";let x12 ← F "zW xx xw";let x13 ← F "zR !:zS";let x14 ← F "iN bw zT !:fZ !:zU !:zd:rfl !:En:rfl !:hu !:hu6";let x15 ← F "!:E2:hu6 !:EU:hu6 !:EV !:EX !:EZ !:E1 !:EY:hu !:ET:hu !:Du:hu6 !:Dr:hu6 !:Dp:hu6";let x16 ← F "!:Km.never !:PyProof.Rows.boot_int !:PyProof.Rows.boot_bool !:Or.inl:rfl !:Or.inr:rfl"
 `(tactic|repeat' first
 |(apply gNm;first|exact CA _|(apply EF<;>first|assumption|rfl)|(apply ED<;>first|assumption|rfl)|(apply EC<;>first|assumption|rfl)|(apply EE<;>first|assumption|rfl))
 |(apply gCo;$x0:tactic)
 |(apply gJA;$x1:tactic)
 |(apply gJZ;$x2:tactic)
 |(apply gJS;$x3:tactic)
 |(apply gJT;first|$x4:tactic|refine A1 (xo ?_ ?_)|refine A1 (AY ?_ ?_)|apply Ci)
 |(apply gJW;$x5:tactic)
 |(apply gCl;first|$x6:tactic|exact Ew (by assumption) (by assumption) (by assumption) (by assumption) (by assumption) (hr.mono ∅))
 |(apply gBi;$x7:tactic)
 |(apply gSu;$x8:tactic)
 |(apply gJE;first|$x9:tactic|exact xG _)
 |(apply gJF;$x10:tactic)
 |(apply gJI;first|$x11:tactic|apply Cv _ _|$x12:tactic)
 |(apply gJO;$x13:tactic)
 |$x14:tactic
 |assumption
 |exact dZ _
 |rfl
 |$x15:tactic
 |exact cr (by assumption) (hr.mono ∅)
 |exact cs (by assumption) (by assumption) (by assumption) (hr.mono ∅)
 |exact⟨_,by assumption,by assumption,by assumption⟩
 |exact⟨99,_,cT 99 _ ↥_,aD hN rfl (by first|exact Or.inl rfl|exact Or.inr rfl)⟩
 |exact⟨99,_,iG 99 _ ↥_,by and_intros⟩
 |exact aD hN rfl (by first|exact Or.inl rfl|exact Or.inr rfl)
 |$x16:tactic
 |exact λ_=>rfl
 |exact⟨rfl,rfl,rfl,rfl⟩
 |with_unfolding_all rfl
 |decide)
set_option hygiene false in
local macro_rules | `(tactic| ac_rfl) => `(tactic| (intro _ _ _ _ _ _ _ hr hu hu6 hN; and_intros))
noncomputable def PH (K:Zf):Sp:=λvs H Q _=> ∃ (a:JG) (ns:List Int),vs=[.ref a]/\SqL K H a (ns.map V.int)/\ns.length<=63/\ ∀H',Q (.bl true) H'
theorem pz {K:Zf}: ∀ns:List Int,Rvs K o (ns.map W.int) (ns.map V.int)
 |[]=>Rvs.nil
 |n::r=>Rvs.cons (OV.mpr rfl) (pz r)
theorem M5 {w:JC}{K:Zf}{mg:Str->Option Jx}(C:CG P w K mg base 68 "law" f fd ["script"] 1 p5):FnOk P w K mg base CX0 68 f fd ["script"] (PH K):=
 C.ok.imp λvs H Q E h=>by
  obtain⟨a,ns,rfl,sq,hn,q⟩:=h;have nl: ¬Lv ⟨λ_=>0,[],H⟩ a:=λ⟨k,b,hk,_⟩=>by simp at hk
  refine⟨⟨λ_=>0,[],H⟩,[.cl (ns.map W.int)],rfl,rfl,⟨λk b hk=>by simp at hk,λj k b c hj=>by simp at hj⟩,Rvs.cons ?_ Rvs.nil,?_⟩
  ·unfold Rv;exact⟨a,_,rfl,sq.imp (λr=>⟨r,nl⟩) id,pz ns⟩
  ·obtain⟨h',e⟩:=M6 ns [];show Ps _ _ _ (p5 [.cl (ns.map W.int)] []) Q;rw[e];intro p b _ _ _ rb;rw[OU.mp rb];exact q _
structure Fa (K:Zf)(mg:Str->Option Jx)(CS CN c_Reading:JG):Prop where
 n_Reading:Jv K J6 "Reading"=some (some (.ref c_Reading))
 D_names_in:Dq K mg "names_in" qN
 D_name_of:Dq K mg "name_of" ur
 D_number_of:Dq K mg "number_of" pc
 D_condition_of:Dq K mg "condition_of" kF
 D_form_of:Dq K mg "form_of" mK
 D_boxes_named:Dq K mg "boxes_named" md
 D_place_of:Dq K mg "place_of" qM
 D_end_by_places:Dq K mg "end_by_places" gE
 D_Reading___init__:Dqm K "__init__" c_Reading "Reading.__init__" iL
 D_Reading_in_block:Dqm K "in_block" c_Reading "Reading.in_block" iK
 D_Reading_box_names:Dqm K "box_names" c_Reading "Reading.box_names" dJ
 D_Reading_check_place:Dqm K "check_place" c_Reading "Reading.check_place" gI
 D_Reading_check_twice:Dqm K "check_twice" c_Reading "Reading.check_twice" gH
 D_Reading_check_room:Dqm K "check_room" c_Reading "Reading.check_room" gR
 D_Reading_check_boxes:Dqm K "check_boxes" c_Reading "Reading.check_boxes" gJ
 D_Reading_put_down:Dqm K "put_down" c_Reading "Reading.put_down" iJ
 D_Reading_take:Dqm K "take" c_Reading "Reading.take" kH
 D_Reading_told_program:Dqm K "told_program" c_Reading "Reading.told_program" fV
 D_read:Dq K mg "read" Bx
 D_sides_of:Dq K mg "sides_of" qL
 D_ways:Dq K mg "ways" Bv
 D_gains:Dq K mg "gains" zg
 D_block_sets:Dq K mg "block_sets" i6
 D_without:Dq K mg "without" mI
 D_pairs:Dq K mg "pairs" zf
 D_least_number:Dq K mg "least_number" gQ
 D_paper:Dq K mg "paper" sF
 D_is_right:Dq K mg "is_right" iI
 D_bound_of:Dq K mg "bound_of" kG
 D_law_cell_at:Dq K mg "_law_cell_at" ma
 D_law_numbers:Dq K mg "_law_numbers" l8
 D_law_names:Dq K mg "_law_names" ph
 D_law_word:Dq K mg "_law_word" qO
 D_law_statement:Dq K mg "_law_statement" jX
 D_law_end:Dq K mg "_law_end" ut
 D_law_text:Dq K mg "_law_text" qP
 D_law_orders:Dq K mg "_law_orders" i5
 D_law_gains:Dq K mg "_law_gains" pj
 D_law_cost:Dq K mg "_law_cost" qQ
 D_law_counted:Dq K mg "_law_counted" l9
 D_law_pairs:Dq K mg "_law_pairs" pf
 D_law_let:Dq K mg "_law_let" mJ
 D_law_other:Dq K mg "_law_other" jS
 D_law:Dq K mg "law" sG
 cl_Reading:Cls K c_Reading
 mk_Reading:makesIn K c_Reading=true
 kc_Reading:Ju K (.ref c_Reading)=true
 na_Reading_block_names:Js K (.ref c_Reading) "block_names"=some none
 na_Reading_boxes:Js K (.ref c_Reading) "boxes"=some none
 na_Reading_ended_blocks:Js K (.ref c_Reading) "ended_blocks"=some none
 na_Reading_statements:Js K (.ref c_Reading) "statements"=some none
 g_CONDITION_SIGNS:Gt K mg "CONDITION_SIGNS" ["<", "="]
 g_STATEMENTS:Gt K mg "STATEMENTS" ["put", "say", "ask"]
 g_FIRST_PAIR:Gp K mg "FIRST_PAIR" 0 [0]
 h_MOST_BLOCKS:Gi mg "MOST_BLOCKS" 10
 h_MOST_BOXES:Gi mg "MOST_BOXES" 4
 h_MOST_IN_TABLE:Gi mg "MOST_IN_TABLE" 6
 h_MOST_ROWS:Gi mg "MOST_ROWS" 120
 h_MOST_STATEMENTS:Gi mg "MOST_STATEMENTS" 8
 aS:Jv K J6 "Signs"=some (some (.ref CS))
 aN:Jv K J6 "NoRow"=some (some (.ref CN))
 xN:PySem.W.excIn K CN Ly "ValueError.__new__"=true
 aL:Gs mg "LETTERS" "abcdefghijklmnopqrstuvwxyz"
 aF:Gs mg "FIGURES" "0123456789"
 aW:Gt K mg "TAKEN_WORDS" ["box", "block", "put", "say", "ask", "go", "if", "else", "table", "stop"]
 n0:Gi mg "LONGEST_NAME" 8
 n1:Gi mg "LONGEST_NUMBER" 3
 n2:Gi mg "LONGEST_EXPRESSION" 60
 n3:Gi mg "DEEPEST_BRACKET" 5
 W_Sinit:Dqm K "__init__" CS "Signs.__init__" qS
 W_Sis_done:Dqm K "is_done" CS "Signs.is_done" qT
 W_Sstands_one_of:Dqm K "stands_one_of" CS "Signs.stands_one_of" kI
 W_Stake_sign:Dqm K "take_sign" CS "Signs.take_sign" qR
 W_Srun_of:Dqm K "run_of" CS "Signs.run_of" O8
 W_is_name:Dq K mg "is_name" j1
 W_is_number:Dq K mg "is_number" nM
 W_expression:Dq K mg "expression" O2
 W_read_terms:Dq K mg "read_terms" nL
 W_read_factors:Dq K mg "read_factors" i7
 W_read_factor:Dq K mg "read_factor" j2
 W_read_bracket:Dq K mg "read_bracket" gS
 wc:Cls K CS
 wmk:makesIn K CS=true
 wkc:Ju K (.ref CS)=true
 nW:Js K (.ref CS) "word"=some none
 nP:Js K (.ref CS) "place"=some none
 y_abs:mg "abs"=none
 y_all:mg "all"=none
 y_any:mg "any"=none
 y_enumerate:mg "enumerate"=none
 y_int:mg "int"=none
 y_len:mg "len"=none
 y_list:mg "list"=none
 y_max:mg "max"=none
 y_min:mg "min"=none
 y_range:mg "range"=none
 y_sorted:mg "sorted"=none
 y_str:mg "str"=none
 y_sum:mg "sum"=none
 y_tuple:mg "tuple"=none
 y_zip:mg "zip"=none
 m_Reading:mg "Reading"=some (.ref c_Reading)
structure Wf (P:JB)(w:JC)(K:Zf)(mg:Str->Option Jx)(base:JD):Prop where
 w1:Cq P w K mg base 1 "is_name" 1 kn
 w2:Cq P w K mg base 1 "is_number" 1 oH
 w3:Cq P w K mg base 28 "expression" 1 hZ
section
variable {P:JB}{w:JC}{K:Zf}{mg:Str->Option Jx}{base:JD}{CS CN c_Reading:JG}(S:Fa K mg CS CN c_Reading)(V:Wf P w K mg base)
include S V
theorem lU: ∀n:Nat,Cq P w K mg base (1+n) "names_in" 1 (aP n)
 |0=>okqz ["e"] 1 S.D_names_in λ_ _=>rfl
 |n+1=>by
  have:=lU n;cases S;cases V;exact okq (k:=1+n) (g:=cC (aP n)) ["e"] 1 (by assumption) (by intro _ _ _ _ _ _ _ hr hu hu6 hN;have hr:Room (1+n) _:=hr;and_intros)
theorem nq:Cq P w K mg base 2 "name_of" 1 bH:=by
 cases S;cases V;exact okq (g:=iq) ["word"] 1 (by assumption) (by ac_rfl)
theorem qk:Cq P w K mg base 2 "number_of" 1 eJ:=by
 cases S;cases V;exact okq (g:=eC) ["word"] 1 (by assumption) (by ac_rfl)
theorem lW:Cq P w K mg base 29 "condition_of" 1 c9:=by
 have:=nq S V;cases S;cases V;exact okq (g:=cZ) ["words", "sign", "left", "right"] 1 (by assumption) (by ac_rfl)
theorem vE:Cq P w K mg base 30 "form_of" 1 iB:=by
 have:=qk S V;have:=nq S V;have:=lW S V;cases S;cases V;exact okq (g:=iw) ["row", "words", "head", "many"] 1 (by assumption) (by ac_rfl;(have nd:((["word", ".0"]:List Str)++(["row", "words", "head", "many"]:List Str).map (hid ["word", ".0"])).Nodup:=by decide+kernel);exact bQ rfl (ls:=["word", ".0"]) (.of (ac mK)) (by and_intros) (λ_ _ _ _=>(aD (i:=0) nd rfl (Or.inl rfl) (.inr rfl))) (cT 2 0 ↥_) (λ_ _ _ _=>by and_intros) (λ_ _ _ _=>by and_intros) trivial)
theorem mn:Cq P w K mg base 64 "boxes_named" 1 aH:=by
 have:=lU S V 62;cases S;cases V;exact okq (g:=ak) ["form"] 1 (by assumption) (by ac_rfl)
theorem sd:Cq P w K mg base 1 "place_of" 2 cQ:=by
 cases S;cases V;exact okq (g:=gg) ["name", "block_names"] 2 (by assumption) (by ac_rfl)
theorem j0:Cq P w K mg base 2 "end_by_places" 2 bv:=by
 have:=sd S V;cases S;cases V;exact okq (g:=aG) ["end", "block_names"] 2 (by assumption) (by ac_rfl;(have nd:((["name", ".0"]:List Str)++(["end", "block_names"]:List Str).map (hid ["name", ".0"])).Nodup:=by decide+kernel);exact bQ rfl (ls:=["name", ".0"]) (.of (ac gE)) (by and_intros) (λ_ _ _ _=>(aD (i:=0) nd rfl (Or.inl rfl) (.inr rfl))) (cT 2 0 ↥_) (λ_ _ _ _=>by and_intros) (λ_ _ _ _=>by and_intros) trivial)
theorem iW:Cqm P w K mg base 1 c_Reading "__init__" 1 cj:=by
 cases S;cases V;exact NX (g:=ci) ["self"] 1 (by assumption) (by ac_rfl)
theorem d8:Cqm P w K mg base 1 c_Reading "in_block" 1 bp:=by
 cases S;cases V;exact NX (g:=bZ) ["self"] 1 (by assumption) (by ac_rfl)
theorem dL:Cqm P w K mg base 1 c_Reading "box_names" 1 bz:=by
 cases S;cases V;exact NX (g:=bR) ["self"] 1 (by assumption) (by ac_rfl;(have nd:((["name", "first", ".0"]:List Str)++(["self"]:List Str).map (hid ["name", "first", ".0"])).Nodup:=by decide+kernel);exact bQ rfl (ls:=["name", "first", ".0"]) (.of (ac dJ)) (by and_intros) (λ_ _ _ _=>(iN rfl (bw (aD (i:=0) nd rfl (Or.inl rfl) (.inr rfl)) (bw (aD (i:=1) nd rfl (Or.inl rfl) (.inr rfl)) fZ)))) (iG 3 [0,1] ↥_) (λ_ _ _ _=>by and_intros) (λ_ _ _ _=>by and_intros) trivial)
theorem gL:Cqm P w K mg base 2 c_Reading "check_place" 2 au:=by
 have:=d8 S V;cases S;cases V;exact NX (g:=az) ["self", "head"] 2 (by assumption) (by ac_rfl)
theorem gK:Cqm P w K mg base 2 c_Reading "check_twice" 2 ar:=by
 have:=dL S V;cases S;cases V;exact NX (g:=ay) ["self", "form"] 2 (by assumption) (by ac_rfl)
theorem ii:Cqm P w K mg base 1 c_Reading "check_room" 2 aw:=by
 cases S;cases V;exact NX (g:=aB) ["self", "head"] 2 (by assumption) (by ac_rfl)
theorem gM:Cqm P w K mg base 65 c_Reading "check_boxes" 2 bh:=by
 have:=dL S V;have:=mn S V;cases S;cases V;exact NX (g:=bJ) ["self", "form", "known", "name"] 2 (by assumption) (by ac_rfl)
theorem iV:Cqm P w K mg base 1 c_Reading "put_down" 2 aq:=by
 cases S;cases V;exact NX (g:=ax) ["self", "form"] 2 (by assumption) (by ac_rfl)
theorem lX:Cqm P w K mg base 66 c_Reading "take" 2 da:=by
 have:=gL S V;have:=gK S V;have:=ii S V;have:=gM S V;have:=iV S V;cases S;cases V;exact NX (g:=c8) ["self", "form"] 2 (by assumption) (by ac_rfl)
theorem gz:Cqm P w K mg base 3 c_Reading "told_program" 1 bD:=by
 have:=d8 S V;have:=j0 S V;cases S;cases V;exact NX (g:=bC) ["self", "blocks", "name", "statements", "end"] 1 (by assumption) (by ac_rfl)
theorem Dy:Cq P w K mg base 67 "read" 1 jN:=by
 have:=lX S V;have:=vE S V;have:=gz S V;have:=iW S V;cases S;cases V;exact okq (g:=oE) ["text", "rows", "reading", "row"] 1 (by assumption) (by ac_rfl)
theorem r9:Cq P w K mg base 1 "sides_of" 1 gv:=by
 cases S;cases V;exact okq (g:=gf) ["end"] 1 (by assumption) (by ac_rfl)
theorem r6:Cq P w K mg base 2 "ways" 1 iU:=by
 have:=r9 S V;cases S;cases V;exact okq (g:=oC) ["program", "told", "place", "block", "side", "behind"] 1 (by assumption) (by ac_rfl)
theorem ue:Cq P w K mg base 3 "gains" 2 iA:=by
 have:=r6 S V;cases S;cases V;exact okq (g:=ka) ["program", "counted", "gained", "way", "count", "end", "neighbours"] 2 (by assumption) (by ac_rfl)
theorem oQ:Cq P w K mg base 1 "block_sets" 1 dR:=by
 cases S;cases V;exact okq (g:=dQ) ["many", "told", "place"] 1 (by assumption) (by ac_rfl;(have nd:((["blocks", ".0"]:List Str)++(["many", "told", "place"]:List Str).map (hid ["blocks", ".0"])).Nodup:=by decide+kernel);exact bQ rfl (ls:=["blocks", ".0"]) (.of (ac i6)) (by and_intros) (λ_ _ _ _=>(aD (i:=0) nd rfl (Or.inl rfl) (.inr rfl))) (cT 2 0 ↥_) (λ_ _ _ _=>by and_intros) (λ_ _ _ _=>by and_intros) trivial)
theorem vB:Cq P w K mg base 1 "without" 2 fE:=by
 cases S;cases V;exact okq (g:=ip) ["blocks", "place"] 2 (by assumption) (by ac_rfl;(have nd:((["block", ".0"]:List Str)++(["blocks", "place"]:List Str).map (hid ["block", ".0"])).Nodup:=by decide+kernel);exact bQ rfl (ls:=["block", ".0"]) (.of (ac mI)) (by and_intros) (λ_ _ _ _=>(aD (i:=0) nd rfl (Or.inl rfl) (.inr rfl))) (cT 2 0 ↥_) (λ_ _ _ _=>by and_intros) (λ_ _ _ _=>by and_intros) trivial)
theorem ud:Cq P w K mg base 2 "pairs" 1 iz:=by
 have:=oQ S V;cases S;cases V;exact okq (g:=j9) ["many", "told", "blocks", "last"] 1 (by assumption) (by ac_rfl)
theorem ig:Cq P w K mg base 2 "least_number" 4 bg:=by
 have:=vB S V;cases S;cases V;exact okq (g:=bV) ["blocks", "last", "numbers", "gained", "rest", "lasts"] 4 (by assumption) (by ac_rfl;(have nd:((["place", ".0"]:List Str)++(["blocks", "last", "numbers", "gained", "rest", "lasts"]:List Str).map (hid ["place", ".0"])).Nodup:=by decide+kernel);exact bQ rfl (ls:=["place", ".0"]) (.of (ac gQ)) (by and_intros) (λ_ _ _ _=>(aD (i:=0) nd rfl (Or.inl rfl) (.inr rfl))) (cT 2 0 ↥_) (λ_ _ _ _=>by and_intros) (λ_ _ _ _=>by and_intros) trivial)
theorem AJ:Cq P w K mg base 4 "paper" 2 jt:=by
 have:=ue S V;have:=ud S V;have:=ig S V;cases S;cases V;exact okq (g:=j8) ["program", "counted", "gained", "numbers", "blocks", "last"] 2 (by assumption) (by ac_rfl;(have nd:((["pair", "number", ".0"]:List Str)++(["program", "counted", "gained", "numbers", "blocks", "last"]:List Str).map (hid ["pair", "number", ".0"])).Nodup:=by decide+kernel);exact bQ rfl (ls:=["pair", "number", ".0"]) (.of (ac sF)) (by and_intros) (λ_ _ _ _=>(iN rfl (bw (aD (i:=0) nd rfl (Or.inl rfl) (.inr rfl)) (bw (aD (i:=1) nd rfl (Or.inl rfl) (.inr rfl)) fZ)))) (iG 3 [0,1] ↥_) (λ_ _ _ _=>by and_intros) (λ_ _ _ _=>by and_intros) trivial)
theorem si:Cq P w K mg base 4 "is_right" 3 d5:=by
 have:=ud S V;have:=ue S V;have:=ig S V;cases S;cases V;exact okq (g:=gq) ["program", "counted", "told", "wanted", "numbers", "blocks", "last", "number", "gained"] 3 (by assumption) (by ac_rfl;(have nd:((["pair", ".0"]:List Str)++(["program", "counted", "told", "wanted", "numbers", "blocks", "last", "number", "gained"]:List Str).map (hid ["pair", ".0"])).Nodup:=by decide+kernel);exact bQ rfl (ls:=["pair", ".0"]) (.of (ac iI)) (by and_intros) (λ_ _ _ _=>(aD (i:=0) nd rfl (Or.inl rfl) (.inr rfl))) (cT 2 0 ↥_) (λ_ _ _ _=>by and_intros) (λ_ _ _ _=>by and_intros) trivial;(have nd:((["blocks", "last", ".0"]:List Str)++(["program", "counted", "told", "wanted", "numbers", "blocks", "last", "number", "gained"]:List Str).map (hid ["blocks", "last", ".0"])).Nodup:=by decide+kernel);exact bQ rfl (ls:=["blocks", "last", ".0"]) (.of (ac iI)) (by and_intros) (λ_ _ _ _=>(iN rfl (bw (aD (i:=0) nd rfl (Or.inl rfl) (.inr rfl)) (bw (aD (i:=1) nd rfl (Or.inl rfl) (.inr rfl)) fZ)))) (iG 3 [0,1] ↥_) (λ_ _ _ _=>by and_intros) (λ_ _ _ _=>by and_intros) trivial)
theorem sj:Cq P w K mg base 1 "bound_of" 3 d6:=by
 cases S;cases V;exact okq (g:=gu) ["program", "counted", "told", "everything"] 3 (by assumption) (by ac_rfl;(have nd:((["blocks", "last", "number", ".0"]:List Str)++(["program", "counted", "told", "everything"]:List Str).map (hid ["blocks", "last", "number", ".0"])).Nodup:=by decide+kernel);exact bQ rfl (ls:=["blocks", "last", "number", ".0"]) (.of (ac kG)) (by and_intros) (λ_ _ _ _=>(iN rfl (bw (aD (i:=0) nd rfl (Or.inl rfl) (.inr rfl)) (bw (aD (i:=1) nd rfl (Or.inl rfl) (.inr rfl)) (bw (aD (i:=2) nd rfl (Or.inl rfl) (.inr rfl)) fZ))))) (iG 4 [0,1,2] ↥_) (λ_ _ _ _=>by and_intros) (λ_ _ _ _=>by and_intros) trivial)
theorem iF:Cq P w K mg base 1 "_law_cell_at" 2 bG:=by
 cases S;cases V;exact okq (g:=dy) ["script", "k"] 2 (by assumption) (by ac_rfl)
theorem eW:Cq P w K mg base 1 "_law_numbers" 2 bq:=by
 cases S;cases V;exact okq (g:=dm) ["cell", "many", "found", "rest", "k", "one"] 2 (by assumption) (by ac_rfl)
theorem qr:Cq P w K mg base 1 "_law_names" 1 dC:=by
 cases S;cases V;exact okq (g:=eF) ["head", "some", "more"] 1 (by assumption) (by ac_rfl)
theorem lV:Cq P w K mg base 1 "_law_word" 1 cD:=by
 cases S;cases V;exact okq (g:=gh) ["numbers", "one", "more", "some"] 1 (by assumption) (by ac_rfl)
theorem jZ:Cq P w K mg base 2 "_law_statement" 1 bu:=by
 have:=lV S V;cases S;cases V;exact okq (g:=cM) ["numbers", "kind"] 1 (by assumption) (by ac_rfl)
theorem vD:Cq P w K mg base 2 "_law_end" 2 fJ:=by
 have:=lV S V;cases S;cases V;exact okq (g:=iu) ["numbers", "names", "one", "other", "kind", "word", "sign", "test"] 2 (by assumption) (by ac_rfl)
theorem se:Cq P w K mg base 3 "_law_text" 2 d2:=by
 have:=eW S V;have:=iF S V;have:=qr S V;have:=jZ S V;have:=vD S V;cases S;cases V;exact okq (g:=gj) ["script", "most", "head", "names", "rows", "k", "numbers"] 2 (by assumption) (by ac_rfl)
theorem jx:Cq P w K mg base 1 "_law_orders" 1 cF:=by
 cases S;cases V;exact okq (g:=dP) ["many", "found", "k", "wider", "one"] 1 (by assumption) (by ac_rfl;(have nd:((["place", ".0"]:List Str)++(["many", "found", "k", "wider", "one"]:List Str).map (hid ["place", ".0"])).Nodup:=by decide+kernel);exact bQ rfl (ls:=["place", ".0"]) (.of (ac i5)) (by and_intros) (λ_ _ _ _=>(aD (i:=0) nd rfl (Or.inl rfl) (.inr rfl))) (cT 2 0 ↥_) (λ_ _ _ _=>by and_intros) (λ_ _ _ _=>by and_intros) trivial)
theorem qt:Cq P w K mg base 3 "_law_gains" 2 dD:=by
 have:=r6 S V;cases S;cases V;exact okq (g:=eG) ["program", "counted", "gains_v", "way", "count"] 2 (by assumption) (by ac_rfl)
theorem sf:Cq P w K mg base 1 "_law_cost" 3 d4:=by
 cases S;cases V;exact okq (g:=gm) ["counted", "gains_v", "order", "saved", "k"] 3 (by assumption) (by ac_rfl)
theorem ml:Cq P w K mg base 2 "_law_counted" 3 cK:=by
 have:=eW S V;have:=iF S V;cases S;cases V;exact okq (g:=du) ["script", "at", "some", "numbers", "found", "k"] 3 (by assumption) (by ac_rfl)
theorem ql:Cq P w K mg base 2 "_law_pairs" 1 dA:=by
 have:=jx S V;cases S;cases V;exact okq (g:=eD) ["many", "found", "order", "k", "pair"] 1 (by assumption) (by ac_rfl)
theorem vC:Cq P w K mg base 1 "_law_let" 3 fH:=by
 cases S;cases V;exact okq (g:=ir) ["told", "pairs_v", "gains_v", "known", "blocks", "last", "number", "rest", "other"] 3 (by assumption) (by ac_rfl;(have nd:((["place", ".0"]:List Str)++(["told", "pairs_v", "gains_v", "known", "blocks", "last", "number", "rest", "other"]:List Str).map (hid ["place", ".0"])).Nodup:=by decide+kernel);exact bQ rfl (ls:=["place", ".0"]) (.of (ac mJ)) (by and_intros) (λ_ _ _ _=>(aD (i:=0) nd rfl (Or.inl rfl) (.inr rfl))) (cT 2 0 ↥_) (λ_ _ _ _=>by and_intros) (λ_ _ _ _=>by and_intros) trivial)
theorem qq:Cq P w K mg base 2 "_law_other" 2 dB:=by
 have:=eW S V;cases S;cases V;exact okq (g:=eE) ["told", "cell", "numbers", "at", "blocks", "last", "number", "kind", "some"] 2 (by assumption) (by ac_rfl;(have nd:((["one", "two", "more", ".0"]:List Str)++(["told", "cell", "numbers", "at", "blocks", "last", "number", "kind", "some"]:List Str).map (hid ["one", "two", "more", ".0"])).Nodup:=by decide+kernel);exact bQ rfl (ls:=["one", "two", "more", ".0"]) (.of (ac jS)) (by and_intros) (λ_ _ _ _=>(iN rfl (bw (aD (i:=0) nd rfl (Or.inl rfl) (.inr rfl)) (bw (aD (i:=1) nd rfl (Or.inl rfl) (.inr rfl)) (bw (aD (i:=2) nd rfl (Or.inl rfl) (.inr rfl)) fZ))))) (iG 4 [0,1,2] ↥_) (λ_ _ _ _=>by and_intros) (λ_ _ _ _=>by and_intros) trivial)
end
theorem all_mk {l:PySem.W.OpenLaw}{w:JC}{K:Zf}{h:JD}{mg:Str->Option Jx}{fa CS CN c_Reading:JG}(X:K.In h)(G:h.Ns J6 mg)(hfa:mg "law"=some (.ref fa))(S:Fa K mg CS CN c_Reading):
  ∃fd:Ky,(∀ (s:JJ) (v:Jx),BindsTo s fd ⟨[v],[]⟩ [("script",v)])/\ ∀base:JD,K.In base->base.Ns J6 mg->FnOk l.prog w K mg base CX0 68 fa fd ["script"] (PH K):=by
 obtain⟨_,d,FL,ML⟩:=S.D_law;cases hfa.symm.trans ML;have T:Txt K mg CS CN:=⟨S.wc,S.nW,S.nP,Jw X G S.aS,Jw X G S.aN,S.xN,S.y_len,S.y_all,S.y_int,S.aL,S.aF,S.aW,S.n0,S.n1,S.n2,S.n3⟩
 obtain⟨_,_,F_Sinit,M_Sinit⟩:=S.W_Sinit;have B_Sinit:=F_Sinit.binds (ps:=["self", "word"]) λ_ _ _ _ _ _ us hl=>by obtain⟨_,_,rfl⟩:=ln2 hl;rfl
 obtain⟨_,_,F_Sis_done,M_Sis_done⟩:=S.W_Sis_done;have B_Sis_done:=F_Sis_done.binds (ps:=["self"]) λ_ _ _ _ _ _ us hl=>by obtain⟨_,rfl⟩:=ln1 hl;rfl
 obtain⟨_,_,F_Sstands_one_of,M_Sstands_one_of⟩:=S.W_Sstands_one_of;have B_Sstands_one_of:=F_Sstands_one_of.binds (ps:=["self", "wanted"]) λ_ _ _ _ _ _ us hl=>by obtain⟨_,_,rfl⟩:=ln2 hl;rfl
 obtain⟨_,_,F_Stake_sign,M_Stake_sign⟩:=S.W_Stake_sign;have B_Stake_sign:=F_Stake_sign.binds (ps:=["self"]) λ_ _ _ _ _ _ us hl=>by obtain⟨_,rfl⟩:=ln1 hl;rfl
 obtain⟨_,_,F_Srun_of,M_Srun_of⟩:=S.W_Srun_of;have B_Srun_of:=F_Srun_of.binds (ps:=["self", "wanted"]) λ_ _ _ _ _ _ us hl=>by obtain⟨_,_,rfl⟩:=ln2 hl;rfl
 obtain⟨_,_,F_is_name,M_is_name⟩:=S.W_is_name;have B_is_name:=F_is_name.binds (ps:=["word"]) λ_ _ _ _ _ _ us hl=>by obtain⟨_,rfl⟩:=ln1 hl;rfl
 obtain⟨_,_,F_is_number,M_is_number⟩:=S.W_is_number;have B_is_number:=F_is_number.binds (ps:=["word"]) λ_ _ _ _ _ _ us hl=>by obtain⟨_,rfl⟩:=ln1 hl;rfl
 obtain⟨_,_,F_expression,M_expression⟩:=S.W_expression;have B_expression:=F_expression.binds (ps:=["word"]) λ_ _ _ _ _ _ us hl=>by obtain⟨_,rfl⟩:=ln1 hl;rfl
 obtain⟨_,_,F_read_terms,M_read_terms⟩:=S.W_read_terms;have B_read_terms:=F_read_terms.binds (ps:=["signs", "depth"]) λ_ _ _ _ _ _ us hl=>by obtain⟨_,_,rfl⟩:=ln2 hl;rfl
 obtain⟨_,_,F_read_factors,M_read_factors⟩:=S.W_read_factors;have B_read_factors:=F_read_factors.binds (ps:=["signs", "depth"]) λ_ _ _ _ _ _ us hl=>by obtain⟨_,_,rfl⟩:=ln2 hl;rfl
 obtain⟨_,_,F_read_factor,M_read_factor⟩:=S.W_read_factor;have B_read_factor:=F_read_factor.binds (ps:=["signs", "depth"]) λ_ _ _ _ _ _ us hl=>by obtain⟨_,_,rfl⟩:=ln2 hl;rfl
 obtain⟨_,_,F_read_bracket,M_read_bracket⟩:=S.W_read_bracket;have B_read_bracket:=F_read_bracket.binds (ps:=["signs", "depth"]) λ_ _ _ _ _ _ us hl=>by obtain⟨_,_,rfl⟩:=ln2 hl;rfl
 obtain⟨oc,od,kV,doc,pm,an,cdv,ct,osl,ed,lk,hcd⟩:=FL.ex;refine⟨d,λs v=>by rw[ed];exact .of_eq rfl,λbase _ _=>?_⟩;have MD:CM l.prog w K mg base CX0 1 CS "is_done" _ _ ["self"] (nH CS):=⟨zG F_Sis_done T,B_Sis_done,M_Sis_done⟩
 have MS:CM l.prog w K mg base CX0 2 CS "stands_one_of" _ _ ["self", "wanted"] (dz CS):=⟨uH F_Sstands_one_of T MD,B_Sstands_one_of,M_Sstands_one_of⟩
 have MT:CM l.prog w K mg base CX0 1 CS "take_sign" _ _ ["self"] (jC CS):=⟨zB F_Stake_sign T,B_Stake_sign,M_Stake_sign⟩
 have MR:CM l.prog w K mg base CX0 3 CS "run_of" _ _ ["self", "wanted"] (PL CS):=⟨B9 F_Srun_of T MS,B_Srun_of,M_Srun_of⟩
 have CNm:CF l.prog w K mg base CX0 1 "is_name" _ _ ["word"] kB:=⟨zD F_is_name T,B_is_name,F_is_name.kp,M_is_name⟩
 have CNu:CF l.prog w K mg base CX0 1 "is_number" _ _ ["word"] PK:=⟨Ca F_is_number T,B_is_number,F_is_number.kp,M_is_number⟩
 have RT:=sL T F_read_terms B_read_terms M_read_terms F_read_factors B_read_factors M_read_factors F_read_factor B_read_factor M_read_factor F_read_bracket B_read_bracket M_read_bracket MS MT MR CNm CNu 5 ↥_;have CE:CF l.prog w K mg base (CXx l.prog w) 28 "expression" _ _ ["word"] (qI CN):=⟨zF ↥_ F_expression T RT ⟨S.wmk,M_Sinit.at_,M_Sinit.fn,S.wkc⟩ (w5 F_Sinit T) B_Sinit MD,B_expression,F_expression.kp,M_expression⟩
 have V:Wf l.prog w K mg base:=⟨⟨_,_,_,vo CNm⟩,⟨_,_,_,yA CNu⟩,⟨_,_,_,AI CE⟩⟩
 clear T MD MS MT MR CNm CNu RT CE;have:=Dy S V;have:=se S V;have:=ml S V;have:=r6 S V;have:=qt S V;have:=ql S V;have:=AJ S V;have:=jx S V;have:=sf S V;have:=qq S V;have:=vC S V;have:=si S V;have:=sj S V;cases S;cases V;exact M5 (okf (g:=tV) ["script", "program", "counted", "gains_v", "pairs_v", "told", "least", "whole", "other", "handed", "let", "due"] 1 FL ML (by intro _ _ _ _ _ _ hr hu hu6 hN;and_intros;(have nd:((["order", ".0"]:List Str)++(["script", "program", "counted", "gains_v", "pairs_v", "told", "least", "whole", "other", "handed", "let", "due"]:List Str).map (hid ["order", ".0"])).Nodup:=by decide+kernel);exact bQ rfl (ls:=["order", ".0"]) (.of (ac sG)) (by and_intros) (λ_ _ _ _=>(aD (i:=0) nd rfl (Or.inl rfl) (.inr rfl))) (cT 2 0 ↥_) (λ_ _ _ _=>by and_intros) (λ_ _ _ _=>by and_intros) trivial;(have nd:((["cell", ".0"]:List Str)++(["script", "program", "counted", "gains_v", "pairs_v", "told", "least", "whole", "other", "handed", "let", "due"]:List Str).map (hid ["cell", ".0"])).Nodup:=by decide+kernel);exact bQ rfl (ls:=["cell", ".0"]) (.of (ac sG)) (by and_intros) (λ_ _ _ _=>(aD (i:=0) nd rfl (Or.inl rfl) (.inr rfl))) (cT 2 0 ↥_) (λ_ _ _ _=>by and_intros) (λ_ _ _ _=>by and_intros) trivial;(have nd:((["blocks", "last", "number", ".0"]:List Str)++(["script", "program", "counted", "gains_v", "pairs_v", "told", "least", "whole", "other", "handed", "let", "due"]:List Str).map (hid ["blocks", "last", "number", ".0"])).Nodup:=by decide+kernel);exact bQ rfl (ls:=["blocks", "last", "number", ".0"]) (.of (ac sG)) (by and_intros) (λ_ _ _ _=>(iN rfl (bw (aD (i:=0) nd rfl (Or.inl rfl) (.inr rfl)) (bw (aD (i:=1) nd rfl (Or.inl rfl) (.inr rfl)) (bw (aD (i:=2) nd rfl (Or.inl rfl) (.inr rfl)) fZ))))) (iG 4 [0,1,2] ↥_) (λ_ _ _ _=>by and_intros) (λ_ _ _ _=>by and_intros) trivial))
theorem walk {l:PySem.W.OpenLaw}{q:JB}{loose:List Str}{XP:(Str->Option Jx)->JD->Prop}{YP:JC->JD->Prop}{d:DefRec}{K:Params->Zf}(hn:l.most=some 63)(hdf:d.params.defaults=[])
  (hY: ∀ (w:JC) (h:JD),YP w h->(K w.params).In h)
  (F:∀ (w:JC) (mg:Str->Option Jx) (fa:JG) (h:JD),(K w.params).In h->h.Ns J6 mg->mg d.name=some (.ref fa)->
    ∃fd:Ky,(∀ (s:JJ) (u:Jx),BindsTo s fd ⟨[u],[]⟩ [("script",u)])/\ ∀base:JD,(K w.params).In base->base.Ns J6 mg->FnOk l.prog w (K w.params) mg base CX0 68 fa fd ["script"] (PH (K w.params))):
  PySem.W.WalkO q loose XP YP l.row.toRowW d [] (λf vs=>PySem.call f vs):=
 L2.walk_of (n:=63) (k:=68) (x:= "script") (CX:=λ_=>CX0) (sp:=λw=>PH (K w.params)) hn ↥_ hdf ⟨rfl,↥_,↥_⟩ hY F (λ_ _ a ns hl _ hS=>⟨a,ns,rfl,hS,hl,λ_=>rfl⟩) λ_ _ _ _ _ z=>z
theorem walk_x {loose:List Str}{XP:(Str->Option Jx)->JD->Prop}{K:Params->Zf}{n t:Nat}{run:Jx->List Jx->Sem Jx}(e:∀P,as=(K P).map (·.1))
  (W:PySem.W.WalkO q loose XP (λw h=>(K w.params).In h) r d kwd run):PySem.W.WalkX q loose XP (PySem.W.X.obsZ as) (PySem.W.X.valZ K n t) r d kwd run:=
 λw s₀ s₁ mg mb G y a o pm cd doc dV kV ho hd hcd hD hmg hg args vals bs L hpre hlay hrd hwl hlo=>
  W w s₀ s₁ mg mb G (PySem.W.InK.keeps w _ _ (PySem.W.X.z_facts e y).2.1 L.keeps) a o pm cd doc dV kV ho hd hcd hD hmg hg args vals bs hpre hlay hrd hwl hlo
end Q
namespace PySem.W.Fast
def tw14426958861719200302:=trivial
def tw7234146466411104732:=trivial
def tw279936443416988818:=trivial
def tw15591482122521235885:=trivial
def tw10983004407156515433:=trivial
def tw2080476808891809401:=trivial
def tw8065390609555570947:=trivial
def tw17700153835293767439:=trivial
def tw5515449228982258708:=trivial
def tw15309303611979433520:=trivial
def tw9420650906147193334:=trivial
def tw12109583282277191164:=trivial
def tw2206678276169375676:=trivial
def tw6852933139108584052:=trivial
def tw7997279123549063956:=trivial
def tw13979403037093671549:=trivial
def tw10661089809731823936:=trivial
def tw3601297728053774846:=trivial
def tw460644163531408632:=trivial
def tw15326463309008517400:=trivial
def tw126232814052461138:=trivial
def tw2760001845156799410:=trivial
def tw11292526484107475676:=trivial
def tw17389212505675616780:=trivial
def tw17603702006732476144:=trivial
def tw9742621715098861863:=trivial
def tw13228682145861881743:=trivial
def tw8588680553529609086:=trivial
def tw11685096751341589350:=trivial
def tw13577410569264293038:=trivial
def tw14528134551389320681:=trivial
def tw14713575787421186122:=trivial
def tw5614453715641834730:=trivial
def tw6960667571623667702:=trivial
def tw10856202597332673925:=trivial
def tw11806867730923850194:=trivial
def tw12910688278716830723:=trivial
def tw18115886600238074877:=trivial
def tw1347063832119325684:=trivial
def tw14629183154236621616:=trivial
def tw8204902077124050401:=trivial
def tw10069179110194586148:=trivial
def tw8754585751418546695:=trivial
def tw4711732692448166832:=trivial
def tw11877442900349899313:=trivial
def tw17898409063700798135:=trivial
def tw7156932820723103880:=trivial
def tw6415161631778864924:=trivial
def tw17588286134252125456:=trivial
def tw1175380881337056502:=trivial
def tw5117847270031108298:=trivial
def tw12127798532383893486:=trivial
def tw528333541950102932:=trivial
def tw12626283611861189648:=trivial
def tw3071481166052443466:=trivial
def tw483374793085790491:=trivial
def tw235504520798762333:=trivial
def tw9934947501651930376:=trivial
def tw9997471293683034640:=trivial
def tw9305881734065095843:=trivial
def tw13944701198528668462:=trivial
def tw2962450080555873180:=trivial
def tw14440073822317567918:=trivial
def tw3976944746580327170:=trivial
def tw3813593832286066872:=trivial
def tw9861153615021656901:=trivial
def tw12041146593299163374:=trivial
def tw887931521477261400:=trivial
def tw9021732226654582872:=trivial
def tw5967244679892283662:=trivial
def tw10325812604256709283:=trivial
def tw18128460634203916890:=trivial
def tw3778311252132318242:=trivial
def tw5888293967567548903:=trivial
def tw5073993893917194695:=trivial
def tw17907951315924974308:=trivial
def tw10936830162712905052:=trivial
def tw7509141977029962025:=trivial
def tw11880926691669385464:=trivial
def tw2222102376540519198:=trivial
def tw17318719474977427616:=trivial
def tw3688479512199899826:=trivial
def tw13815724798469583773:=trivial
def tw17749843644290225785:=trivial
def tw3608381756758685094:=trivial
def tw13640766202946904708:=trivial
def tw284103069442980760:=trivial
def tw8419826175028310237:=trivial
def tw13033349233338031012:=trivial
def tw18067435643931183468:=trivial
def tw14456978303236785585:=trivial
def tw10527740386491603712:=trivial
def tw18334621155342626618:=trivial
def tw12903588012621360389:=trivial
def tw2185498891088348268:=trivial
def tw8693994737738567717:=trivial
def tw18177140916800343044:=trivial
def tw17847957319529846896:=trivial
def tw16206411346863553694:=trivial
def tw8342726401253078279:=trivial
def tw1592120289055854487:=trivial
def tw14328477973751695874:=trivial
def tw10727799981176779997:=trivial
def tw13756502457677997710:=trivial
def tw14611788871066732353:=trivial
def tw271027365298470950:=trivial
def tw6755456561538968173:=trivial
def tw11594808290605049889:=trivial
def tw11026707425858314381:=trivial
def tw16816537534249692056:=trivial
def tw4061685232426240149:=trivial
def tw2158356361422084907:=trivial
def tw1364958136319738225:=trivial
def tw12610531257152210956:=trivial
def tw9025391616833078270:=trivial
def tw1000612760002913823:=trivial
def tw3174154168756113977:=trivial
def tw16347770683370722030:=trivial
def tw304122940068953412:=trivial
def tw16820200578935952460:=trivial
def tw17534239923046302127:=trivial
def tw8501057530071919029:=trivial
def tw693803463614317169:=trivial
def tw12204982021680537546:=trivial
def tw8796762592863984852:=trivial
def tw12593731443682193653:=trivial
def tw2239897924968192244:=trivial
def tw5862299566515235879:=trivial
def tw7260846138881135768:=trivial
def tw7396780932423119787:=trivial
def tw16989530141789563800:=trivial
def tw2647299429995559928:=trivial
def tw3756504394861030975:=trivial
def tw9730319243099939355:=trivial
def tw6180264668311918811:=trivial
def tw6927042705722846184:=trivial
def tw8954243142716156494:=trivial
def tw9350160755202439637:=trivial
def tw7337173948650843064:=trivial
def tw8462550419990315028:=trivial
def tw181237009527685289:=trivial
def tw15854322905258639786:=trivial
def tw10709489907790663816:=trivial
def tw12823271519909396603:=trivial
def tw18005713734601584145:=trivial
def tw13973763762110528234:=trivial
def tw4259363565883951953:=trivial
def tw15372168768833677602:=trivial
def tw17252397051340446749:=trivial
def tw10710076995592227452:=trivial
def tw8171771349872712108:=trivial
def tw11093017601086283003:=trivial
def tw4045894059200924921:=trivial
def tw4522080470577841552:=trivial
def tw2752267752915273188:=trivial
def tw15338531902838374560:=trivial
def tw13852038646905920450:=trivial
def tw5177642593136060446:=trivial
def tw9449076291798773278:=trivial
def tw6633110472911183186:=trivial
def tw941936554635100789:=trivial
def tw11731671656664357859:=trivial
def tw703741331970052708:=trivial
def tw7128246838263127924:=trivial
def tw1914080899141259265:=trivial
def tw17063250704620567137:=trivial
def tw2306001346074599665:=trivial
def tw3513411516890977373:=trivial
def tw14076506106971155275:=trivial
def tw10667559201730891882:=trivial
def tw17820327729898050234:=trivial
def tw807351377780227275:=trivial
def tw1989712778228345996:=trivial
def tw16837993939196286797:=trivial
def tw11509111958238335908:=trivial
def tw10064606065487584949:=trivial
def tw1642030575777537283:=trivial
def tw1910131764247685182:=trivial
def tw8456723660671427047:=trivial
def tw12259204573933603421:=trivial
def tw15196925778921585385:=trivial
def tw8041704479335493235:=trivial
def tw2027371704747301810:=trivial
def tw12896385198359139115:=trivial
def tw13721029563641169870:=trivial
def tw14540810932690897983:=trivial
def tw9256270404414557720:=trivial
def tw11354473851849128863:=trivial
def tw9531481361912960066:=trivial
def tw10984117832835701312:=trivial
def tw6524780382255870552:=trivial
def tw18222805354408302302:=trivial
def tw3544458477727307923:=trivial
def tw15506487273950620415:=trivial
def tw1428150085505878222:=trivial
def tw15542840014448465888:=trivial
def tw8957511877872327166:=trivial
def tw6665943328957234112:=trivial
def tw6258041481418296198:=trivial
def tw12335806939179878501:=trivial
def tw131559761371878331:=trivial
def tw6867667991617998550:=trivial
def tw12886144052918733219:=trivial
def tw12020048434526825128:=trivial
def tw622688711566606053:=trivial
def tw9592007411390815328:=trivial
def tw1788866948193773672:=trivial
def tw16627187757115034979:=trivial
def tw2773276208753653756:=trivial
def tw10751202057278667812:=trivial
def tw7739643230536947141:=trivial
def tw17472643941964482566:=trivial
def tw148129522047876808:=trivial
def tw11282168133245996285:=trivial
def tw6605236196729354818:=trivial
def tw1250694612475470684:=trivial
def tw1679242913248206144:=trivial
def tw13603111462673238695:=trivial
def tw11679474337984767621:=trivial
def tw17088542066150340300:=trivial
def tw17030500371105886396:=trivial
def tw7406947953165082077:=trivial
def tw9087231053413286306:=trivial
def tw16582699866655564776:=trivial
def tw14581586145141035250:=trivial
def tw18169487333389508881:=trivial
def tw4505073219797793961:=trivial
def tw18022774653167006316:=trivial
def tw16256022443440097067:=trivial
def tw5408601034772378833:=trivial
def tw7937052214546897680:=trivial
def tw14679784163658383067:=trivial
def tw1337974750439989073:=trivial
def tw9006212019208980038:=trivial
def tw12290356048829372728:=trivial
def tw9979756497339568270:=trivial
def tw4812617129760071037:=trivial
def tw1621519251238696424:=trivial
def tw4678970346617583873:=trivial
def tw1413703622295142050:=trivial
def tw3474390920745293744:=trivial
def tw15304174175416859442:=trivial
def tw1792482556287118839:=trivial
def tw10445294641456313080:=trivial
def tw15023530488200732648:=trivial
def tw3761578215719738693:=trivial
def tw2810069400106930414:=trivial
def tw3645441780590278938:=trivial
def tw12613782662743988498:=trivial
def tw9198858073314743945:=trivial
def tw17055584922305292107:=trivial
def tw11061842912473832590:=trivial
def tw10848849781181238257:=trivial
def tw12308337505718959165:=trivial
def tw6766528342385490938:=trivial
def tw3051667403235710165:=trivial
def tw3321274524992458002:=trivial
def tw2675184395129520394:=trivial
def tw221084338124911440:=trivial
def tw390445867234157550:=trivial
def tw8554672117901789597:=trivial
def tw17379220451141872077:=trivial
def tw16364890706121413459:=trivial
def tw11657527002019105400:=trivial
def tw2925148247964906128:=trivial
def tw11840671226695940249:=trivial
def tw11255674474933680043:=trivial
def tw2778567903425560557:=trivial
def tw10679203488581157526:=trivial
def tw3610714865288984789:=trivial
def tw14557722961464008533:=trivial
def tw17969758737367062415:=trivial
def tw5470367710091765374:=trivial
def tw5433818779082682714:=trivial
def tw4016926666498723929:=trivial
def tw13982885802510257293:=trivial
def tw1265314399254540635:=trivial
def tw5163639442549901335:=trivial
def tw508410132680360766:=trivial
def tw7634632839314859422:=trivial
def tw9921342770193178988:=trivial
def tw7060086302122687692:=trivial
def tw4326128101971781180:=trivial
def tw5186193356044712027:=trivial
def tw10248375072392594561:=trivial
def tw6489099286297852273:=trivial
def tw7706303093300178853:=trivial
def tw18402378441407263645:=trivial
def tw15479673230341025444:=trivial
def tw4249097284372025224:=trivial
def tw13822567176818440310:=trivial
def tw11353537921140200102:=trivial
def tw3359305195036368382:=trivial
def tw1649308630181934127:=trivial
def tw373750517190120280:=trivial
def tw3485266938520034999:=trivial
def tw10581634320510187817:=trivial
def tw12129766903810694899:=trivial
def tw5949735949549994959:=trivial
def tw16879646230534720986:=trivial
def tw17730320617338352003:=trivial
def tw17975705865884550455:=trivial
def tw2128408698949365919:=trivial
def tw3400650326394681576:=trivial
def tw13932806666264436996:=trivial
def tw8418495122478272502:=trivial
def tw16172090436215074625:=trivial
def tw6079762568798155233:=trivial
def tw3358465393009357888:=trivial
def tw3953067957743017602:=trivial
def tw17278809332315792111:=trivial
def tw16067033964643461649:=trivial
def tw8649515012745670619:=trivial
def tw16098810901570580371:=trivial
def tw6873718563759662394:=trivial
def tw680857482429491940:=trivial
def tw9412885715832040057:=trivial
def tw2230160815605279798:=trivial
def tw15366521170885322046:=trivial
def tw1157621166272443932:=trivial
def tw6640757053065544194:=trivial
def tw2815304954576288441:=trivial
def tw12194539518744492342:=trivial
end PySem.W.Fast
open PySem PySem.W PyProof.Rows
set_option maxRecDepth 100000 in
set_option maxHeartbeats 0 in
theorem PySem.Challenge.cw_blockfall_k47_whole_papers_let_by_holds : PySem.Challenge.rw_blockfall_k47_whole_papers_let_by.Holds := by
 w_on;o_law;z_head;(case hw=>w_witness2)
 k_fill
 refine Q.walk_x (λ_=>by kernel_rfl) (Q.walk (l:=PySem.Challenge.rw_blockfall_k47_whole_papers_let_by) rfl rfl (λw h Y=>Y) ?F)
 case F=>
  intro w mg fa h KX G hmg;apply Q.all_mk KX G hmg;constructor
  all_goals try first|(apply L2.dq KX G<;>k_is)|(apply L2.dqm<;>k_is)|(apply L2.gi KX G;k_is)|(apply L2.gs KX G;k_is)|(apply L2.gn KX G;k_is)|(apply L2.gp KX G<;>k_is)|(apply L2.gt KX G<;>first|k_is|exact⟨rfl,rfl,by decide⟩)|(apply L2.Cls.mk<;>k_is)|(apply mg_of KX G;k_is)|k_is|k_exc|rfl|kernel_rfl|decide+kernel
#print axioms PySem.Challenge.cw_blockfall_k47_whole_papers_let_by_holds
