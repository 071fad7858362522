import PyProof.Rows.All
import Wide.All
import OpenK.AllK
import Wide.FinOn
import Lean
import PyProof.EqAt
import PyProof.EqKinds
import PyProof.TupleCall
import PyProof.ZipIter
import PySem.Challenge.RW_blockfall_k49_whole_turning_counts
set_option bootstrap.genMatcherCode false
set_option genSizeOf false
set_option compiler.extract_closed false
set_option genSizeOfSpec false
set_option Elab.async false
set_option linter.all false
set_option maxRecDepth 100000
set_option maxHeartbeats 4000000
noncomputable section
open PySem.W (makesIn kitOne fnOf codeIn mg_of)
open List renaming length_map->El,mem_cons->En,mem_cons_self->Eo,length_append->Ep,map_cons->Er,length_cons->Es,map_append->Et,getElem?_eq_some_iff->Ev,getElem?_set_ne->Ew,size_toArray->Ez,mem_cons_of_mem->EA,mem_map->EB,mem_singleton->EC,getElem?_map->ED,not_mem_nil->EF,getElem?_eq_getElem->EL,take_length->EN,mem_of_getElem?->EO,append_assoc->EQ,length_singleton->ER,getElem?_append_left->ET,length_set->EU,map_nil->EV,append_nil->EX,map_map->E2,mem_append_right->E3,forIn_cons->E4,length_take->E5,mem_append->E6,nodup_cons->E8,cons_append->E9,forIn_nil->Fc,nil_append->Fd,sum_cons->Fe,length_drop->Fh,lookup_cons->Fi,all_eq_true->Fk,length_zipWith->Fm,lookup->Fn,getElem?_append_right->Fp,take_succ->Ft,any_cons->Fv,find?_cons->Fw,flatMap_cons->Fy,getElem?_set_self->FC,length_replicate->FD,replicate_succ->FE,getElem?_cons_succ->FG,map_congr_left->FH,Perm->FJ,flatten_cons->FP,range_succ->FQ,getElem?_eq_none->FR,mem_range->FW,filterMap_cons->FX,mem_append_left->FY,all_cons->F4,nodup_nil->F5,take_zero->F6,eq_nil_of_length_eq_zero->F7,drop_eq_getElem_cons->F8,zipWith->F9,getElem?_zipWith->Ga,nodup_append->Gc,mem_flatMap->Gd,filter_cons->Gf,reverse_cons->Gm,take_of_length_le->Go,zipIdx_cons->Gq,zipIdx_nil->Gr,any_eq_true->Gv,drop_eq_nil_iff->Gw,head?->Gy,head?_drop->Gz,head?_cons->GA,tail_drop->GB,map_take->GC,findIdx?_eq_some_iff_getElem->GD,ext_getElem?->GE,drop_eq_nil_of_le->GF,length_range->GH,flatMap_append->GM,mem_filter->GO,getElem_inj->GP,mem_filterMap->GQ,of_mem_zip->GT,getElem?_replicate->GU,foldl->GY,foldl_cons->GZ,Pairwise->G4,getElem?_drop->G6,getElem?_toArray->G8,range'->G9,drop_length->Hb,drop_zero->Hc,map_drop->Hd,length_pos_iff->He,getElem?_of_mem->Hf,all_map->Hh,suffix_refl->Hi,filter_eq_self->Hk,foldl_append->Hl,tail_cons->Hm,zip_cons_cons->Ho,zip_nil_right->Hq,take_sublist->Hs,drop_set_of_lt->Hw,getD_eq_getElem?_getD->Hy,filter_cons_of_neg->Hz,length_reverse->HA,getElem_toArray->HE,mem_range'_1->HF,dropWhile_suffix->HG,takeWhile_cons->HH,findIdx?_eq_none_iff->HJ,map_eq_nil_iff->HK,mem_of_mem_take->HL,getElem?_range->HM,pairwise_map->HN,zipIdx_append->HP,mem_zipIdx_iff_getElem?->HQ,filter_append->HR,range_succ_eq_map->HS
open Nat renaming le_refl->Em,le_trans->EG,zero_le->EI,ne_of_lt->EK,lt_of_lt_of_le->EM,lt_of_le_of_lt->E1,succ->Fs,le_add_right->Fx,lt_irrefl->Fz,ne_of_gt->FK,le_of_eq->FO,add_comm->FV,le_succ->FZ,le_succ_of_le->Gb,add_assoc->Gg,add_left_comm->Gh,le_of_lt->Gj,min_eq_left->GJ,pow_le_pow_right->GN,lt_succ_self->GR,add_le_add_left->G5,sub_self->Ha,mul_succ->Hj,min_self->Hn,add_sub_cancel_left->HI
open PySem.Heap renaming lt_size->Eu,get?_push_of_some->Ey,get?_push_size->EJ,size_push->E7,SameBut->Fb,MadeExcOf->G7,get?_update_self->Ht,get?_update_other->Hu
open Bool renaming false_ne_true->EE,and_eq_true->ES,false_eq_true->Ff,eq_iff_iff->Fg,not_true->Fj,eq_false_iff->FI,or_eq_false_iff->Gu,or_false->GW,false_or->G3,not_eq_true->Hg
open Option renaming map_eq_some_iff->EH,isSome_map->Gn,getD_none->GX
open Int renaming le_refl->EW,emod_nonneg->EY,emod_lt_of_pos->EZ,add_zero->FS,zero_add->Ge,mul_one->Gk,toNat_natCast->GV
open Array renaming length_toList->Fu,forIn_toList->FU,getElem?_eq_some_iff->Gp,append_assoc->Hr,size_append->Hv,getElem?_toList->HB,getElem?_eq_getElem->HC,toArray_toList->HD
open PySem.W renaming instObj->HU,findIn->HV,emptyDict->HW,keepIn->HX,kia_one->HY,nsIn->HZ
open PySem renaming Value->H0,Builtin->H9,hashInt->Ia,Program->Ib,World->Ic,Heap->Ie,Addr->Ig,intKind->Ih,Shared->Ii,Obj->Ij,Around->Ik,cLine->Il,wpAny->Im,model->Io,wpAny_bind->Ip,wpAny_specialOf->Iq,wpAny_call_entry->Ir,wpAny_pure->Iu,wpAny_rule->Iv,wpAny_isInstance->Iw,wpAny_holding->Ix,wpAny_truthy_bool->Iy,wpAny_seqItems->Iz,sysModules->IA,tupleKind->IB,mainGlobals->IC,bootBuiltins->ID,Scope->IE,eval->IG,Pos->IH,backTo->II,starEach->IJ,Stmt->IK,wpAny_mono->IL,compareOp->IM,behindInMarks->IN,standAt->IP,holding->IQ,wpAny_execs_nil->IR,assignEach->IS,PassesOwn->IT,wpAny_passesOwn->IU,pyNext->IV,letOwnedTupleGo->IW,rawInt->IX,wpAny_pyIter_tuple->IY,foldedSetIterable->IZ,binaryOp->I0,getMethod->Ja,attributeBase->Jb,backToKw->Jc,keywordEach->Jd,FuncData->Je,codeAny_mono->Jf,wpAny_Call_Name_kw->Jg,Keyword->Jh,NameKind->Ji,wpAny_field->Jk,wpAny_newObj_type->Jl,typeIs_str->Jm,sliceBounds->Jn,call_meets->Jo,atKey->Jp,tupleKind_room_in1->Jq,relabel->Jr,numAt->Js,PyData->Jt,strIterType->Ju,wpAny_pyIter_enum->Jv,IsPair->Jw,wpAny_setField_rec->Jx,wpAny_onRaise->Jy,wpAny_updateSeq_pair->Jz,wpAny_letGo->JB,argBest->JC
open PyProof.Rows renaming AllBare->IF,envOfC->Jj
namespace L2
open PySem
noncomputable abbrev PKy:=Int×List Int
noncomputable def fw (b:Bool)(v u:H0):List H0:=match b with
 |false=>[v,u]
 |true=>[u,v]
noncomputable def dH (ks:List Int):Int:=reduceHash (H9.Tuple.tupleHashOf (ks.map Ia))
def kF (b:Bool)(k:PKy):Int:=match b with
 |false=>reduceHash (H9.Tuple.tupleHashOf [Ia k.1,dH k.2])
 |true=>reduceHash (H9.Tuple.tupleHashOf [dH k.2,Ia k.1])
section
variable {prog:Ib}{w:Ic}
def IsPk (prog:Ib)(w:Ic)(b:Bool)(h:Ie)(k:PKy)(a:Ig):Prop:=
 ∃o items n c v,h.get? a=some o/\o.cls=.type "tuple"/\o.data=.seq items n/\IsTupleKey (Ih prog w) h k.2 c/\H0.isInt k.1 v=true/\items.toList=fw b v (.ref c)
theorem IsPk.typeIs {b:Bool}{s:Ii}{k:PKy}{a:Ig}(x:IsPk prog w b s.heap k a):s.TypeIs (.ref a) "tuple":=let ⟨o,_,_,_,_,ho,hc,_⟩:=x;⟨o,ho,hc⟩
theorem IsPk.inj {b:Bool}{h:Ie}{a:Ig}{x y:PKy}(hx:IsPk prog w b h x a)(hy:IsPk prog w b h y a):x=y:=by
 obtain⟨o,items,n,c,v,ho,_,hd,hk,hv,hi⟩:=hx
 obtain⟨o',items',n',c',v',ho',_,hd',hk',hv',hi'⟩:=hy
 obtain rfl:o=o':=Option.some.inj (ho.symm.trans ho')
 rw[hd] at hd'
 injection hd' with h1 _
 subst h1
 rw[hi] at hi'
 have e:v=v'/\c=c':=by
  cases b with
  |false=>injection hi' with e1 e2;injection e2 with e2 _;injection e2 with e2;exact⟨e1,e2⟩
  |true=>injection hi' with e1 e2;injection e2 with e2 _;injection e1 with e1;exact⟨e2,e1⟩
 obtain⟨rfl,rfl⟩:=e
 exact Prod.ext (H0.isInt_inj v _ _ hv hv') (hk.inj hk')
theorem IsPk.keeps {b:Bool}{h h':Ie}{k:PKy}{a d:Ig}{o:Ij}{es ep}(x:IsPk prog w b h k a)(ho:h.get? d=some o)(hd:o.data=.dict es ep)(hs:Fb d h h'):IsPk prog w b h' k a:=by
 obtain⟨o',items,n,c,v,ho',hc,hd',hk,hv,hi⟩:=x
 have hne:a≠d:=by
  rintro rfl
  obtain rfl:o'=o:=Option.some.inj (ho'.symm.trans ho)
  rw[hd] at hd';exact nomatch hd'
 exact⟨o',items,n,c,v,(hs.2 a hne).trans ho',hc,hd',hk.keeps ho hd hs,hv,hi⟩
variable {A:Ik}{E:H0->Ii->Prop}{s:Ii}
theorem jI {b:Bool}{k:PKy}{a:Ig}{Q:Int->Ii->Prop}(hu:A.units+1<Il)(hk:IsPk prog w b s.heap k a)(h:Q (kF b k) {s with toks:=s.toks+(k.2.length+3)}):
  Im (Io prog w) A (pyHash (.ref a)) Q E s:=by
 have hT:=hk.typeIs
 obtain⟨o,items,n,c,v,ho,_,hd,hk,hv,hi⟩:=hk
 obtain⟨i,ks⟩:=k
 unfold pyHash
 first|unfold pyHashByItsType|skip
 first|refine Ip (wpAny_cRoomFor_or (.inr (Nat.lt_of_succ_lt hu)) ?_)|skip
 refine Ip (Iq hT F.slot_tuple_hash.lookup ?_)
 show Im _ _ (if (some (H0.builtin "tuple.__hash__")==some H0.none)=true then _ else _) Q E s
 rw[if_neg (by rw[beq_builtin_none];exact EE)]
 refine Ip (Iq hT F.slot_tuple_hash.lookup ?_)
 show Im _ _ (callSpecialIfBoundUnlessNone? (.ref a) "__hash__" _>>=_) Q E s
 refine Ip (wpAny_callSpecialIfBoundUnlessNone?_slot hT F.slot_tuple_hash (Ir F.slot_tuple_hash hT F.entry_tuple_hash ?_ (F.args_tuple_hash_1 _)))
 show Im _ _ (H9.Tuple.tupleItemsOf (.ref a)>>=_) _ _ s
 refine Ip (wpAny_tupleItemsOf ho hd ?_)
 refine Ip ?_
 rw[<-FU,hi]
 cases b with
 |false=>
  unfold fw
  simp only[E4,Fc]
  refine Ip (Ip ((Ih prog w).pyHash (k:=i) hv ?_))
  refine Iu (Ip (Ip (wpAny_pyHash_tuple (knd:=Ih prog w) hu hk ?_)))
  refine Iu (Iu ?_)
  show Im _ _ (retInt (H9.Tuple.tupleHashOf [Ia i,dH ks])) _ _ _
  refine wpAny_ret_mkInt ?_
  show Im _ _ (if (decide (-(2:Int) ^ 63<=H9.Tuple.tupleHashOf [Ia i,dH ks]) && decide (H9.Tuple.tupleHashOf [Ia i,dH ks]<2 ^ 63))=true then _ else _) Q E _
  unfold kF reduceHash at h
  by_cases hr:(decide (-(2:Int) ^ 63<=H9.Tuple.tupleHashOf [Ia i,dH ks]) && decide (H9.Tuple.tupleHashOf [Ia i,dH ks]<2 ^ 63))=true
  ·rw[if_pos hr]
   simp only at h
   rw[if_pos hr] at h
   exact Iu (by simpa [Gg,FV,Gh] using h)
  ·rw[if_neg hr]
   simp only at h
   rw[if_neg hr] at h
   exact Ip (Iv (Iu (by simpa [Gg,FV,Gh] using h)))
 |true=>
  unfold fw
  simp only[E4,Fc]
  refine Ip (Ip (wpAny_pyHash_tuple (knd:=Ih prog w) hu hk ?_))
  refine Iu (Ip (Ip ((Ih prog w).pyHash (k:=i) hv ?_)))
  refine Iu (Iu ?_)
  show Im _ _ (retInt (H9.Tuple.tupleHashOf [dH ks,Ia i])) _ _ _
  refine wpAny_ret_mkInt ?_
  show Im _ _ (if (decide (-(2:Int) ^ 63<=H9.Tuple.tupleHashOf [dH ks,Ia i]) && decide (H9.Tuple.tupleHashOf [dH ks,Ia i]<2 ^ 63))=true then _ else _) Q E _
  unfold kF reduceHash at h
  by_cases hr:(decide (-(2:Int) ^ 63<=H9.Tuple.tupleHashOf [dH ks,Ia i]) && decide (H9.Tuple.tupleHashOf [dH ks,Ia i]<2 ^ 63))=true
  ·rw[if_pos hr]
   simp only at h
   rw[if_pos hr] at h
   exact Iu (by simpa [Gg,FV,Gh] using h)
  ·rw[if_neg hr]
   simp only at h
   rw[if_neg hr] at h
   exact Ip (Iv (Iu (by simpa [Gg,FV,Gh] using h)))
theorem qQ {b:Bool}{x y:PKy}{a c:Ig}{P:Fin->Ii->Prop}(hu:A.units<Il)(hx:IsPk prog w b s.heap x a)(hy:IsPk prog w b s.heap y c)(h:P (.done (.ret (.bool (decide (x=y))))) s):
  Im (Io prog w) A (H9.«tuple.__eq__» ⟨[.ref a,.ref c],[]⟩) P E s:=by
 have hTb:=hy.typeIs
 obtain⟨oa,xs,na,ca,va,hoa,_,hda,hka,hva,hia⟩:=hx
 obtain⟨ob,ys,nb,cb,vb,hob,_,hdb,hkb,hvb,hib⟩:=hy
 obtain⟨i,ks⟩:=x
 obtain⟨j,ls⟩:=y
 show Im _ _ (isInstance (.ref c) (.type "tuple")>>=_) _ _ s
 refine Ip (Iw hTb isSubtype_tuple_tuple ?_)
 simp only[Fj,Ff,if_false]
 refine Ip (wpAny_tupleItemsOf hoa hda ?_)
 refine Ip (wpAny_tupleItemsOf hob hdb ?_)
 refine Ip ?_
 have hsz:(xs.size==ys.size)=true:=by
  have e1:xs.size=2:=by rw[<-Fu,hia];cases b<;>rfl
  have e2:ys.size=2:=by rw[<-Fu,hib];cases b<;>rfl
  rw[e1,e2];rfl
 have dd:decide ((i,ks)=(j,ls))=(decide (i=j) && decide (ks=ls)):=by
  rw[Fg];simp
 rw[dd] at h
 rw[hia,hib]
 have ki: ∀ {A:Ik}{Q:Bool->Ii->Prop},Q (decide (i=j)) s->Im (Io prog w) A (eqBool va vb) Q E s:=fun{A Q} q=>(Ih prog w).eqBool (a:=i) (b:=j) hva hvb q
 have kt: ∀ {Q:Bool->Ii->Prop},Q (decide (ks=ls)) s->Im (Io prog w) A (eqBool (.ref ca) (.ref cb)) Q E s:=fun{Q} q=>wpAny_eqBool_tuple (knd:=Ih prog w) hu hka hkb q
 generalize decide (i=j)=b1 at *
 generalize decide (ks=ls)=b2 at *
 cases b with
 |false=>
  unfold fw
  simp only[Ho,Hq,E4,Fc]
  refine Ip (Ip (ki ?_))
  cases b1 with
  |false=>exact Ip (Iu (Iu (Iu (Iu h))))
  |true=>
   refine Iu (Ip (Ip (kt ?_)))
   cases b2 with
   |false=>exact Ip (Iu (Iu (Iu (Iu h))))
   |true=>
    refine Iu (Iu (Iu ?_))
    show P (.done (.ret (.bool (xs.size==ys.size)))) s
    rw[hsz];exact h
 |true=>
  unfold fw
  simp only[Ho,Hq,E4,Fc]
  refine Ip (Ip (kt ?_))
  cases b2 with
  |false=>rw[Bool.and_false] at h;exact Ip (Iu (Iu (Iu (Iu h))))
  |true=>
   refine Iu (Ip (Ip (ki ?_)))
   cases b1 with
   |false=>exact Ip (Iu (Iu (Iu (Iu h))))
   |true=>
    refine Iu (Iu (Iu ?_))
    show P (.done (.ret (.bool (xs.size==ys.size)))) s
    rw[hsz];exact h
theorem jJ {b:Bool}{x y:PKy}{a c:Ig}{Q:Bool->Ii->Prop}(hu:A.units+1<Il)(hx:IsPk prog w b s.heap x a)(hy:IsPk prog w b s.heap y c)(h:Q (decide (x=y)) s):
  Im (Io prog w) A (eqBool (.ref a) (.ref c)) Q E s:=by
 unfold eqBool
 try with_reducible refine Ix ?_
 show Im _ _ (if (H0.ref a==H0.ref c)=true then _ else _) Q E s
 by_cases hab:(H0.ref a==H0.ref c)=true
 ·rw[if_pos hab]
  have e:a=c:=by have:=eq_of_beq hab;injection this
  subst e
  obtain rfl:=hx.inj hy
  exact Ip (Iv (Iu (by simpa using h)))
 ·rw[if_neg hab]
  exact Ip (wpAny_richCompare_same_room (op:=.Eq) hx.typeIs hy.typeIs F.slot_tuple_eq
   (Ir F.slot_tuple_eq hx.typeIs F.entry_tuple_eq (qQ hu hx hy ⟨_,rfl,(fun e=>nomatch e),Iy h⟩) (F.args_tuple_eq_2 _ _)) (Nat.lt_of_succ_lt hu))
theorem j5 {b:Bool}{k:PKy}{a:Ig}{Q:Bool->Ii->Prop}(hk:IsPk prog w b s.heap k a)(h:Q true s):Im (Io prog w) A (eqIsQuiet 8 (.ref a)) Q E s:=by
 have hT:=hk.typeIs
 obtain⟨o,items,n,c,v,ho,_,hd,hk,hv,hi⟩:=hk
 unfold eqIsQuiet
 refine Ip (Iq hT F.slot_tuple_eq.lookup ?_)
 show Im _ _ (isInstance (.ref a) (.type "tuple")>>=_) _ _ s
 refine Ip (Iw hT isSubtype_tuple_tuple ?_)
 simp only[Fj,Ff,if_false]
 refine Ip (Iz ho hd ?_)
 refine Ip ?_
 show Im _ _ (forIn items _ _) _ _ s
 rw[<-FU,hi]
 have qv:eqIsQuiet 7 v=pure true:=eqIsQuiet_byValue _ ((Ih prog w).byValue _ _ hv)
 have hTc:=hk.typeIs
 obtain⟨oc,ic,nc,hoc,_,hdc,hic⟩:=hk
 have qc: ∀ {Q:Bool->Ii->Prop},Q true s->Im (Io prog w) A (eqIsQuiet 7 (.ref c)) Q E s:=by
  intro Q h
  unfold eqIsQuiet
  refine Ip (Iq hTc F.slot_tuple_eq.lookup ?_)
  show Im _ _ (isInstance (.ref c) (.type "tuple")>>=_) _ _ s
  refine Ip (Iw hTc isSubtype_tuple_tuple ?_)
  simp only[Fj,Ff,if_false]
  refine Ip (Iz hoc hdc ?_)
  refine Ip ?_
  show Im _ _ (forIn ic _ _) _ _ s
  rw[<-FU]
  refine wpAny_forIn_list _ (fun rest r s'=>r.1=none/\s'=s/\ ∀v∈rest,carriedByValue v=true) _ ?_ ?_ _ _ ⟨rfl,rfl,hic.byValue⟩
  ·rintro v rest r s' ⟨hr,rfl,hall⟩
   rw[eqIsQuiet_byValue _ (hall v Eo)]
   refine Ip (Iu ?_)
   simp only[Fj,Ff,if_false]
   exact Iu ⟨rfl,rfl,fun u hu'=>hall u (EA _ hu')⟩
  ·rintro⟨r1,r2⟩ s' ⟨hr,rfl,_⟩
   simp only at hr
   subst hr
   exact Iu h
 cases b with
 |false=>
  unfold fw
  simp only[E4,Fc]
  refine Ip ?_
  rw[qv]
  refine Ip (Iu ?_)
  simp only[Fj,Ff,if_false]
  refine Iu (Ip (Ip (qc ?_)))
  simp only[Fj,Ff,if_false]
  exact Iu (Iu (Iu h))
 |true=>
  unfold fw
  simp only[E4,Fc]
  refine Ip (Ip (qc ?_))
  simp only[Fj,Ff,if_false]
  refine Iu (Ip ?_)
  rw[qv]
  refine Ip (Iu ?_)
  simp only[Fj,Ff,if_false]
  exact Iu (Iu (Iu h))
def qR (prog:Ib)(w:Ic)(b:Bool):HeapKind prog w PKy where
 is:=IsPk prog w b
 hash:=kF b
 draws:=fun k=>k.2.length+3
 room:=fun A=>A.units+1<Il
 inj:=fun hx hy=>hx.inj hy
 keeps:=fun x ho hd hs=>x.keeps ho hd hs
 pyHash:=fun hu hk h=>jI hu hk h
 eqBool:=fun hu hx hy h=>jJ hu hx hy h
 quiet:=fun hk h=>j5 hk h
end
end L2
namespace L2
open PySem PySem.Spec PyProof.Rows
noncomputable abbrev Key:=Sum Int Str
def LD:Key->H0->Bool
 |.inl k,v=>H0.isInt k v
 |.inr x,v=>H0.isStrOf x v
def keyH (w:Ic):Key->Int
 |.inl k=>Ia k
 |.inr x=>hashStr w x
theorem bQ: ∀ {k:Key}{v:H0},LD k v=true->(∃i t,k=Sum.inl i/\v=H0.int i t)\/(∃x t,k=Sum.inr x/\v=H0.str x t)
 |.inl i,v,h=>by
  obtain⟨t,e⟩:=H0.isInt_shape (k:=i) (v:=v) h
  exact .inl ⟨i,t,rfl,e⟩
 |.inr x,v,h=>by
  obtain⟨t,e⟩:=H0.isStrOf_shape (x:=x) (v:=v) h
  exact .inr ⟨x,t,rfl,e⟩
theorem uF (i:Int)(t:Tok):LD (.inl i) (.int i t)=true:=by simp [LD,H0.isInt]
theorem uE (x:Str)(t:Tok):LD (.inr x) (.str x t)=true:=by simp [LD,H0.isStrOf]
theorem Cc (a b:Int):decide ((Sum.inl a:Key)=Sum.inl b)=(a==b):=by
 by_cases e:a=b
 ·subst e;simp
 ·have h: ¬(Sum.inl a:Key)=Sum.inl b:=fun q=>e (Sum.inl.inj q)
  rw[decide_eq_false h]
  exact (beq_eq_false_iff_ne.mpr e).symm
theorem B9 (a b:Str):decide ((Sum.inr a:Key)=Sum.inr b)=decide (a=b):=by
 by_cases e:a=b
 ·subst e;simp
 ·have h: ¬(Sum.inr a:Key)=Sum.inr b:=fun q=>e (Sum.inr.inj q)
  rw[decide_eq_false h,decide_eq_false e]
theorem Cb (a:Int)(b:Str):decide ((Sum.inl a:Key)=Sum.inr b)=false:=decide_eq_false (fun q=>nomatch q)
theorem Ca (a:Str)(b:Int):decide ((Sum.inr a:Key)=Sum.inl b)=false:=decide_eq_false (fun q=>nomatch q)
def bZ (prog:Ib)(w:Ic):PySem.KeyKind prog w Key where
 is:=LD
 hash:=keyH w
 inj:=fun v a b ha hb=>by
  rcases bQ ha with⟨i,t,rfl,rfl⟩|⟨x,t,rfl,rfl⟩
  ·rcases bQ hb with⟨j,u,rfl,e⟩|⟨y,u,rfl,e⟩
   ·injection e with e1 _;rw[e1]
   ·exact nomatch e
  ·rcases bQ hb with⟨j,u,rfl,e⟩|⟨y,u,rfl,e⟩
   ·exact nomatch e
   ·injection e with e1 _;rw[e1]
 byValue:=fun k v h=>by
  rcases bQ h with⟨i,t,rfl,rfl⟩|⟨x,t,rfl,rfl⟩<;>rfl
 pyHash:=fun hv h=>by
  rcases bQ hv with⟨i,t,rfl,rfl⟩|⟨x,t,rfl,rfl⟩
  ·exact wpAny_pyHash_int h
  ·exact wpAny_pyHash_str h
 eqBool:=fun hu hv h=>by
  rcases bQ hu with⟨i,t,rfl,rfl⟩|⟨x,t,rfl,rfl⟩
  ·rcases bQ hv with⟨j,u,rfl,rfl⟩|⟨y,u,rfl,rfl⟩
   ·rw[Cc] at h;exact wpAny_eqBool_int h
   ·rw[Cb] at h;exact SeqAt.EqAt.int_str i t y u _ _ _ _ h
  ·rcases bQ hv with⟨j,u,rfl,rfl⟩|⟨y,u,rfl,rfl⟩
   ·rw[Ca] at h;exact SeqAt.EqAt.str_int x t j u _ _ _ _ h
   ·rw[B9] at h;exact wpAny_eqBool_str h
 «strs»:=fun k x t v h=>by
  rcases bQ h with⟨i,u,rfl,e⟩|⟨y,u,rfl,e⟩
  ·exact nomatch e
  ·injection e with e1 _
   subst e1
   cases v<;>rfl
theorem pf (prog:Ib)(w:Ic)(i:Int)(t:Tok):(bZ prog w).is (.inl i) (.int i t)=true:=uF i t
theorem pc (prog:Ib)(w:Ic)(x:Str)(t:Tok):(bZ prog w).is (.inr x) (.str x t)=true:=uE x t
section
inductive V where
 |non|bl (b:Bool)|int (i:Int)|str (x:Str)|byt (b:Array UInt8)|flt (b:UInt64)|ref (a:Ig)|ty (n:String)
 deriving DecidableEq
noncomputable def RelV:V->H0->Prop
 |.non,u=>u=H0.none
 |.bl b,u=>u=H0.bool b
 |.int i,u=> ∃t,u=H0.int i t
 |.str x,u=> ∃t,u=H0.str x t
 |.byt b,u=> ∃t,u=H0.bytes b t
 |.flt b,u=> ∃t,u=H0.float b t
 |.ref a,u=>u=H0.ref a
 |.ty n,u=>u=H0.type n
noncomputable abbrev Vals:List V->List H0->Prop:=Paired RelV
theorem Vals.length {xs:List V}{us:List H0}(r:Vals xs us):xs.length=us.length:=Paired.length r
theorem Vals.get: ∀ {xs:List V}{us:List H0}{i:Nat}{x:V},Vals xs us->xs[i]?=some x-> ∃u,us[i]?=some u/\RelV x u
 |_,_,_,_,.nil,e=>by simp at e
 |_,_,0,_,.cons r _,e=>by simp at e;subst e;exact⟨_,rfl,r⟩
 |_,_,i+1,x,.cons _ t,e=>by
  obtain⟨u,h1,h2⟩:=Vals.get (i:=i) (x:=x) t (by simpa using e)
  exact⟨u,by simpa using h1,h2⟩
theorem Vals.set {x:V}{u:H0}(r:RelV x u): ∀ {xs:List V}{us:List H0} (i:Nat),Vals xs us->Vals (xs.set i x) (us.set i u)
 |_,_,_,.nil=>.nil
 |_,_,0,.cons _ t=>.cons r t
 |_,_,i+1,.cons q t=>.cons q (Vals.set r i t)
theorem Vals.append: ∀ {xs ys:List V}{us ws:List H0},Vals xs us->Vals ys ws->Vals (xs++ys) (us++ws)
 |_,_,_,_,.nil,s=>s
 |_,_,_,_,.cons r t,s=>.cons r (Vals.append t s)
theorem Vals.take: ∀ {xs:List V}{us:List H0} (n:Nat),Vals xs us->Vals (xs.take n) (us.take n)
 |_,_,0,_=>.nil
 |_,_,_+1,.nil=>.nil
 |_,_,n+1,.cons r t=>.cons r (Vals.take n t)
theorem Vals.drop: ∀ {xs:List V}{us:List H0} (n:Nat),Vals xs us->Vals (xs.drop n) (us.drop n)
 |_,_,0,r=>r
 |_,_,_+1,.nil=>.nil
 |_,_,n+1,.cons _ t=>Vals.drop n t
def RelO:Option V->Option H0->Prop
 |some v,some u=>RelV v u
 |none,none=>True
 |_,_=>False
def KV {κ:Type}:List (κ×V)->List (κ×H0)->Prop:=Paired fun (p:κ×V) (q:κ×H0)=>p.1=q.1/\RelV p.2 q.2
def kV:Key->V
 |.inl i=>.int i
 |.inr x=>.str x
inductive HO where
 |lst (xs:List V)
 |tup (xs:List V)
 |dK (kvs:List (Key×V))|dT (kvs:List (List Key×V))|dN (b:Bool)(xs:List (PKy×Ig×V))(ep:Nat)
 |set (S:Int->Bool)(n:Nat)
 |ins (C dx:Ig)(fs:List (Str×V))
 |own (x:Ig)
 |xd (fs:List (Str×V))
 |met (f x:Ig)
 |rng (lo hi:Int)
 |frz (o:Ij)(u:HO)
 |tbl (ps:Array H0)
 |ext (φ:Ie->Prop)
noncomputable abbrev Hp:=Ig->Option HO
def upd (H:Hp)(a:Ig)(o:HO):Hp:=fun b=>if b=a then some o else H b
theorem aq {H:Hp}{a:Ig}{o:HO}:upd H a o a=some o:=by unfold upd;rw[if_pos rfl]
theorem af {H:Hp}{a b:Ig}{o:HO}(h:b≠a):upd H a o b=H b:=by unfold upd;rw[if_neg h]
theorem Dl {H:Hp}{a b:Ig}{o u:HO}(h:H a=some o)(h':H b=some u)(d:o≠u):a≠b:=by
 intro e;subst e;rw[h] at h';exact d (Option.some.inj h')
theorem ba {H:Hp}{a b:Ig}{o:HO}(h:H a=some o)(h':H b=none):a≠b:=by
 intro e;subst e;rw[h] at h';cases h'
noncomputable def IsTupD (h:Ie)(a:Ig)(its:Array H0):Prop:=IsTup h a its/\ ∃o,h.get? a=some o/\o.dict=none
theorem IsTupD.new (h:Ie)(its:Array H0):IsTupD (h.push {cls:=.type "tuple",data:=.seq its}) h.objs.size its:=⟨IsTup.new _ _,_,EJ _ rfl,rfl⟩
section
variable (P:Ib)(w:Ic)
def ObjOk (H:Hp)(h:Ie)(a:Ig):HO->Prop
 |.lst xs=>xs.length<=sizeLine/\ ∃ (its:List H0) (n:Nat),Vals xs its/\h.get? a=some {cls:=.type "list",data:=.seq its.toArray n}
 |.tup xs=>xs.length<=sizeLine/\ ∃its:List H0,Vals xs its/\IsTupD h a its.toArray
 |.dK kvs=>kvs.length<=sizeLine/\(a==IA)=false/\ ∃vs,KV kvs vs/\h.DictOf (bZ P w) a vs
 |.dT kvs=>kvs.length<=sizeLine/\(a==IA)=false/\ ∃xs:List (List Key×Ig×H0),
  Paired (fun (p:List Key×V) (q:List Key×Ig×H0)=>p.1=q.1/\H q.2.1=some (.tup (p.1.map kV))/\RelV p.2 q.2.2) kvs xs/\
  ∃o es ep,h.get? a=some o/\o.ExactDict/\o.data=.dict es ep/\es.toList=xs.map (entryOfKey (IB (bZ P w)))/\(xs.map (·.1)).Nodup
 |.dN b xs ep=>xs.length<=sizeLine/\(a==IA)=false/\ ∃ys:List (PKy×Ig×H0),Paired (fun (p:PKy×Ig×V) (q:PKy×Ig×H0)=>p.1=q.1/\p.2.1=q.2.1/\RelV p.2.2 q.2.2) xs ys/\
  ∃o es,h.get? a=some o/\o.ExactDict/\o.data=.dict es ep/\es.toList=ys.map (fun y=>(⟨kF b y.1,.ref y.2.1,y.2.2⟩:DictEntry))/\(ys.map (·.1)).Nodup
 |.set S n=>h.SetOf (Ih P w) a S n
 |.ins C dx fs=>H dx=some (.own a)/\fs.length<=1000/\dx≠a/\h.get? a=some (HU C dx)/\
  ∃mA,h.Ns1 dx mA/\(∀f,RelO (fs.lookup f) (mA f))/\PySem.Within mA (fs.map (·.1))
 |.own _=> ∃o,h.get? a=some o
 |.xd fs=> ∃mA,h.Ns1 a mA/\ ∀f,RelO (fs.lookup f) (mA f)
 |.rng lo hi=> ∃t u v,h.get? a=some {cls:=.type "range",data:=.fields #[.int lo t,.int hi u,.int 1 v]}
 |.frz o u=>h.get? a=some o/\ObjOk H h a u
 |.tbl ps=>h.get? a=some {cls:=.none,data:=.fields ps}
 |.met f x=>h.get? a=some (PySem.W.methodObj (.ref f) (.ref x))
 |.ext φ=>φ h/\(∃o,h.get? a=some o)/\ ∀h1 h2:Ie,φ h1->(∀o,h1.get? a=some o->h2.get? a=some o)->φ h2
def HOk (H:Hp)(h:Ie):Prop:= ∀a o,H a=some o->ObjOk P w H h a o
end
section
variable {P:Ib}{w:Ic}{H H':Hp}{h h':Ie}{a:Ig}{o:HO}
theorem ObjOk.lt (x:ObjOk P w H h a o):a<h.objs.size:=by
 cases o with
 |lst xs=>obtain⟨_,_,_,_,e⟩:=x;exact Eu e
 |tup xs=>obtain⟨_,_,_,p⟩:=x;exact p.1.lt
 |dK kvs=>obtain⟨_,_,_,_,o,_,_,e,_⟩:=x;exact Eu e
 |dT kvs=>obtain⟨_,_,_,_,o,_,_,e,_⟩:=x;exact Eu e
 |dN b xs ep=>obtain⟨_,_,_,_,o,_,e,_⟩:=x;exact Eu e
 |set S n=>obtain⟨o,_,_,_,e,_⟩:=x;exact Eu e
 |ins C dx fs=>obtain⟨_,_,_,e,_⟩:=x;exact Eu e
 |own y=>obtain⟨_,e⟩:=x;exact Eu e
 |xd fs=>obtain⟨_,⟨_,_,_,e,_⟩,_⟩:=x;exact Eu e
 |rng lo hi=>obtain⟨_,_,_,e⟩:=x;exact Eu e
 |frz ob u=>obtain⟨e,_⟩:=x;exact Eu e
 |tbl ps=>exact Eu (show h.get? a=some _ from x)
 |met f y=>exact Eu (show h.get? a=some _ from x)
 |ext φ=>obtain⟨_,⟨_,e⟩,_⟩:=x;exact Eu e
theorem Paired.mapP {α β:Type}{F G:α->β->Prop}: ∀ {l₁:List α}{l₂:List β},Paired F l₁ l₂->(∀a b,F a b->G a b)->Paired G l₁ l₂
 |_,_,.nil,_=>.nil
 |_,_,.cons r t,f=>.cons (f _ _ r) (Paired.mapP t f)
theorem ObjOk.stay (x:ObjOk P w H h a o)(k:∀b u,(b=a\/H b=some (.own a))->h.get? b=some u->h'.get? b=some u)
  (ho: ∀b,H b=some (.own a)->H' b=some (.own a))(ht: ∀b xs,H b=some (.tup xs)->H' b=some (.tup xs)):ObjOk P w H' h' a o:=by
 induction o with
 |lst xs=>obtain⟨z,its,n,r,e⟩:=x;exact⟨z,its,n,r,k _ _ (.inl rfl) e⟩
 |tup xs=>obtain⟨z,its,r,⟨ob,e,c⟩,o2,e2,c2⟩:=x;exact⟨z,its,r,⟨ob,k _ _ (.inl rfl) e,c⟩,o2,k _ _ (.inl rfl) e2,c2⟩
 |dK kvs=>obtain⟨z,y,vs,r,ob,es,ep,e,c⟩:=x;exact⟨z,y,vs,r,ob,es,ep,k _ _ (.inl rfl) e,c⟩
 |dT kvs=>
  obtain⟨z,y,xs,r,ob,es,ep,e,c⟩:=x
  exact⟨z,y,xs,Paired.mapP r fun p q z=>⟨z.1,ht _ _ z.2.1,z.2.2⟩,ob,es,ep,k _ _ (.inl rfl) e,c⟩
 |dN b xs ep=>obtain⟨z,y,ys,r,ob,es,e,c⟩:=x;exact⟨z,y,ys,r,ob,es,k _ _ (.inl rfl) e,c⟩
 |set S n=>obtain⟨ob,es,ep,t,e,c⟩:=x;exact⟨ob,es,ep,t,k _ _ (.inl rfl) e,c⟩
 |ins C dx fs=>
  obtain⟨d,z,ne,e,mA,⟨od,es,ep,e2,c⟩,r⟩:=x
  exact⟨ho _ d,z,ne,k _ _ (.inl rfl) e,mA,⟨od,es,ep,k _ _ (.inr d) e2,c⟩,r⟩
 |own y=>obtain⟨ob,e⟩:=x;exact⟨ob,k _ _ (.inl rfl) e⟩
 |xd fs=>obtain⟨mA,⟨od,es,ep,e,c⟩,r⟩:=x;exact⟨mA,⟨od,es,ep,k _ _ (.inl rfl) e,c⟩,r⟩
 |rng lo hi=>obtain⟨t,u,v,e⟩:=x;exact⟨t,u,v,k _ _ (.inl rfl) e⟩
 |frz ob u ih=>obtain⟨e,q⟩:=x;exact⟨k _ _ (.inl rfl) e,ih q⟩
 |tbl ps=>
  have e:h.get? a=some {cls:=.none,data:=.fields ps}:=x
  show h'.get? a=some {cls:=.none,data:=.fields ps}
  exact k a _ (.inl rfl) e
 |met f y=>
  have e:h.get? a=some (PySem.W.methodObj (.ref f) (.ref y)):=x
  show h'.get? a=some (PySem.W.methodObj (.ref f) (.ref y))
  exact k a _ (.inl rfl) e
 |ext φ=>obtain⟨p,⟨o,e⟩,st⟩:=x;exact⟨st _ _ p fun o q=>k _ _ (.inl rfl) q,⟨o,k _ _ (.inl rfl) e⟩,st⟩
theorem HOk.lt (x:HOk P w H h)(e:H a=some o):a<h.objs.size:=(x a o e).lt
theorem HOk.fresh (x:HOk P w H h)(e:h.objs.size<=a):H a=none:=by
 cases q:H a with
 |none=>rfl
 |some u=>exact absurd (EM (x.lt q) e) (Fz _)
theorem HOk.kept (x:HOk P w H h)(k:∀b u,h.get? b=some u->h'.get? b=some u):HOk P w H h':=fun a o e=>
 (x a o e).stay (fun b u _ q=>k b u q) (fun _ q=>q) fun _ _ q=>q
theorem HOk.laid (x:HOk P w H h)(k:∀b u,h.get? b=some u->h'.get? b=some u)(hp:h.objs.size<=a)(new:ObjOk P w (upd H a o) h' a o):HOk P w (upd H a o) h':=fun b u e=>by
 have hn:=x.fresh hp
 by_cases hb:b=a
 ·subst hb;rw[aq] at e;cases e;exact new
 ·rw[af hb] at e
  exact (x b u e).stay (fun c v _ q=>k c v q) (fun c q=>by rw[af (ba q hn)];exact q) fun c xs q=>by rw[af (ba q hn)];exact q
end
def Rd (H:Hp)(a:Ig)(u:HO):Prop:=H a=some u\/ ∃o,H a=some (.frz o u)
theorem Rd.ok {P:Ib}{w:Ic}{H:Hp}{h:Ie}{a:Ig}{u:HO}(r:Rd H a u)(x:HOk P w H h):ObjOk P w H h a u:=by
 rcases r with r|⟨o,r⟩
 ·exact x a u r
 ·obtain⟨_,q⟩:=x a _ r
  exact q
noncomputable def Mut:Option HO->Prop
 |some (.lst _)=>True
 |some (.dK _)=>True
 |some (.dT _)=>True
 |some (.dN _ _ _)=>True
 |some (.set _ _)=>True
 |some (.ins _ _ _)=>True
 |some (.ext _)=>True
 |_=>False
section
variable {P:Ib}{w:Ic}{H:Hp}{h h':Ie}{x e:Ig}{o':HO}
theorem HOk.write (ok:HOk P w H h)(mu:Mut (H x))(he:e=x\/H e=some (.own x))(k:∀b u,b≠e->h.get? b=some u->h'.get? b=some u)(heo: ∃u,h'.get? e=some u)
  (new:ObjOk P w (upd H x o') h' x o'):HOk P w (upd H x o') h':=fun b u q=>by
 have nown: ∀c y,H c=some (.own y)->c≠x:=fun c y r z=>by subst z;rw[r] at mu;exact mu
 have ntup: ∀c xs,H c=some (.tup xs)->c≠x:=fun c xs r z=>by subst z;rw[r] at mu;exact mu
 by_cases hb:b=x
 ·subst hb;rw[aq] at q;cases q;exact new
 ·rw[af hb] at q
  by_cases hbe:b=e
  ·have q':H b=some (.own x):=by
    rcases he with z|z
    ·exact absurd (hbe.trans z) hb
    ·rw[hbe];exact z
   rw[q] at q';cases q'
   obtain⟨v,hv⟩:=heo
   exact⟨v,by rw[hbe];exact hv⟩
  ·refine (ok b u q).stay (fun c v hc r=>k c v ?_ r) (fun c r=>by rw[af (nown c b r)];exact r) fun c xs r=>by rw[af (ntup c xs r)];exact r
   rcases hc with rfl|hc
   ·exact hbe
   ·rintro rfl
    rcases he with z|z
    ·exact nown c b hc z
    ·rw[hc] at z;cases z;exact hb rfl
end
structure Un (fs ex:List Ig)(H H':Hp)(h h':Ie):Prop where
 keep: ∀b o,h.get? b=some o->H b=none->b ∉ fs->b ∉ ex->h'.get? b=some o
 slot: ∀b o,h.get? b=some o->H b=none->b∈fs->b ∉ ex-> ∃sl,h'.get? b=some {o with slots:=sl}
 free: ∀b o,h.get? b=some o->H b=none->b ∉ ex->H' b=none
 there: ∀b o,h.get? b=some o->b ∉ ex-> ∃o',h'.get? b=some o'
 tups: ∀b xs,H b=some (.tup xs)->H' b=some (.tup xs)
 frzs: ∀b o u,H b=some (.frz o u)->H' b=some (.frz o u)
 tbls: ∀b ps,H b=some (.tbl ps)-> ∃more,H' b=some (.tbl (ps++more))
section
variable {fs fs' ex ex':List Ig}{H H1 H2:Hp}{h h1 h2 h':Ie}{a x e:Ig}{o:HO}
theorem Un.any (u:Un fs ex H H1 h h1){b:Ig}{ob:Ij}(q:h.get? b=some ob)(n:H b=none)(hx:b ∉ ex): ∃sl,h1.get? b=some {ob with slots:=sl}:=by
 by_cases hb:b∈fs
 ·exact u.slot b ob q n hb hx
 ·exact⟨ob.slots,u.keep b ob q n hb hx⟩
theorem Un.kept (k:∀b u,h.get? b=some u->h'.get? b=some u):Un fs ex H H h h':=
 ⟨fun b ob q _ _ _=>k b ob q,fun b ob q _ _ _=>⟨ob.slots,k b ob q⟩,fun _ _ _ n _=>n,fun b ob q _=>⟨ob,k b ob q⟩,fun _ _ q=>q,fun _ _ _ q=>q,fun _ ps q=>⟨#[],by rw[q];simp⟩⟩
theorem Un.refl:Un fs ex H H h h:=Un.kept fun _ _ q=>q
theorem Un.laid (k:∀b u,h.get? b=some u->h'.get? b=some u)(hp:h.objs.size<=a)(hn:H a=none):Un fs ex H (upd H a o) h h' where
 keep:=fun b u q _ _ _=>k b u q
 slot:=fun b u q _ _ _=>⟨u.slots,k b u q⟩
 free:=fun b u q n _=>by rw[af (EK (EM (Eu q) hp))];exact n
 there:=fun b u q _=>⟨u,k b u q⟩
 tups:=fun b xs q=>by rw[af (ba q hn)];exact q
 frzs:=fun b u xs q=>by rw[af (ba q hn)];exact q
 tbls:=fun b ps q=>⟨#[],by rw[af (ba q hn),q];simp⟩
theorem Un.write (mu:Mut (H x))(he:e=x\/H e=some (.own x))(k:∀b u,b≠e->h.get? b=some u->h'.get? b=some u)(heo: ∃u,h'.get? e=some u):Un fs ex H (upd H x o) h h':=by
 have hx: ∀b,H b=none->b≠x:=fun b n z=>by subst z;rw[n] at mu;exact mu
 have hb: ∀b,H b=none->b≠e:=fun b n z=>by
  subst z
  rcases he with r|r
  ·exact hx b n r
  ·rw[n] at r;cases r
 have hm: ∀b u,H b=some u-> ¬Mut (some u)->b≠x:=fun b u q nm z=>by subst z;rw[q] at mu;exact nm mu
 refine⟨fun b u q n _ _=>k b u (hb b n) q,fun b u q n _ _=>⟨u.slots,k b u (hb b n) q⟩,fun b u q n _=>by rw[af (hx b n)];exact n,fun b u q _=>?_,
  fun b xs q=>by rw[af (hm b _ q fun z=>z)];exact q,fun b u xs q=>by rw[af (hm b _ q fun z=>z)];exact q,fun b ps q=>⟨#[],by rw[af (hm b _ q fun z=>z),q];simp⟩⟩
 by_cases hbe:b=e
 ·subst hbe;exact heo
 ·exact⟨u,k b u hbe q⟩
end
def trk (h:Ie)(H:Hp):List Ig:=(List.range h.objs.size).filter fun a=>(H a).isSome
def K4 (h:Ie)(H:Hp):Ie:=PySem.W.hideAll h (trk h H)
theorem uN (h:Ie)(H:Hp):(K4 h H).objs.size=h.objs.size:=PySem.W.hideAll_size _ _
theorem xc {h:Ie}{H:Hp}{b:Ig}{o:Ij}(e:h.get? b=some o)(n:H b=none):(K4 h H).get? b=some o:=
 PySem.W.hideAll_get _ e fun hm=>by
  have q:(H b).isSome=true:=(GO.mp hm).2
  rw[n] at q;simp at q
theorem yS {h:Ie}{H:Hp}{b:Ig}{o:Ij}(e:(K4 h H).get? b=some o):h.get? b=some o/\H b=none:=by
 have e':h.get? b=some o:=PySem.W.of_hideAll (trk h H) e
 refine⟨e',?_⟩
 cases q:H b with
 |none=>rfl
 |some x=>
  have hm:b∈trk h H:=GO.mpr ⟨FW.mpr (Eu e'),by simp [q]⟩
  have z:(K4 h H).get? b=none:=PySem.W.hideAll_none (trk h H) hm
  rw[z] at e;cases e
noncomputable def zW (g h:Ie)(L:Ig):List (Ig×Ij):=(List.range h.objs.size).filterMap fun a=>if a=L\/(g.get? a).isSome=true then none else (h.get? a).map fun o=>(a,o)
def rest (g h:Ie)(L d:Ig):List (Ig×Ij):=(zW g h L).filter fun p=>decide (p.1≠d)
end
section
structure Mod (K:PySem.W.Frag)(mg:Str->Option H0)(base:Ie):Prop where
 kin:K.In base
 glob:base.Ns IC mg
 blt: ∃mb,base.Ns builtinsNs mb/\ ∀x:Str,x≠ "__name__"->mb x=ID x
 nolimit:base.NoLimit
structure Cx where
 prog:Ib
 w:Ic
 K:PySem.W.Frag
 mg:Str->Option H0
 base:Ie
 A:Ik
 N:List Str
 s₀:Ii
 H₀:Hp
 env:Env
 outer:List Env
 stack:List Env
 ex:List Ig
 fn:Str->Bool
 calm:Bool
 pn:List (Ig×Ij)
 xe:H0->Ii->Prop
noncomputable def frs (l:List Env):List Ig:=l.filterMap (·.frame)
noncomputable abbrev Cx.fs (X:Cx):List Ig:=frs X.outer
noncomputable def Vis (sc:IE)(x:Str):Prop:=sc.names.lookup x=some .local \/sc.names.lookup x=some .cell\/sc.names.lookup x=some .free
noncomputable def Loc (sc:IE)(x:Str):Prop:=sc.names.lookup x=some .local \/sc.names.lookup x=some .cell
noncomputable def Look (env:Env)(h:Ie)(m:Str->Option H0)(x:Str)(u:H0):Prop:=
 (env.kindOf x=some .local /\m x=some u)\/((env.kindOf x=some .cell\/env.kindOf x=some .free)/\ ∃c,env.cells.lookup x=some c/\h.IsCell c (some u))
structure Cx.Ok (X:Cx):Prop where
 mod:Mod X.K X.mg X.base
 kind:X.env.scope.kind=.function
 glob:X.env.globals=IC
 blt:X.env.builtins=builtinsNs
 above:X.s₀.heap.objs.size<=X.env.locals
 inj: ∀x y c,X.env.cells.lookup x=some c->X.env.cells.lookup y=some c->x=y
 has: ∀x,(X.env.kindOf x=some .cell\/X.env.kindOf x=some .free)-> ∃c,X.env.cells.lookup x=some c
 cab: ∀x c,X.fn x=true->X.env.cells.lookup x=some c->X.s₀.heap.objs.size<=c
 hd:X.calm=true->X.A.handled=none
 frames:X.A.frames=some X.stack
 stk:X.stack=X.outer\/(X.stack=X.env::X.outer/\X.env.frame=some X.env.locals)
 exf: ∀b∈X.ex,b≠X.env.locals/\ ∀x c,X.env.cells.lookup x=some c->c≠b
 bs: ∀b o,X.base.get? b=some o->X.s₀.heap.get? b=some o/\X.H₀ b=none
 bsz:X.base.objs.size<=X.s₀.heap.objs.size
 noex: ∀b o,X.base.get? b=some o->b ∉ X.ex
 exfs: ∀b∈X.ex,b ∉ X.fs
 funs:X.s₀.heap.FunFrames X.base X.outer
 frf: ∀b∈X.fs,X.H₀ b=none
structure Inv (X:Cx)(pins:List (Ig×Ij))(σ:List (Option V))(H:Hp)(s:Ii):Prop where
 ok:X.Ok
 os:s.os=X.s₀.os
 bare:IF s.gens
 base:Un X.fs X.ex X.H₀ H X.s₀.heap s.heap
 loc: ∃m,s.heap.Ns X.env.locals m/\ ∀ (i:Nat) (x:Str) (v:V),X.N[i]?=some x->σ[i]?=some (some v)->Vis X.env.scope x-> ∃u,RelV v u/\Look X.env s.heap m x u
 cell: ∀x c,X.env.cells.lookup x=some c-> ∃v,s.heap.IsCell c v
 free:H X.env.locals=none
 freeC: ∀x c,X.env.cells.lookup x=some c->H c=none
 pin: ∀p∈X.pn++pins,s.heap.get? p.1=some p.2/\H p.1=none/\p.1≠X.env.locals/\p.1 ∉ X.fs/\ ∀v,p.2.data≠.cell v
 hok:HOk X.prog X.w H s.heap
 len:σ.length=X.N.length
section
variable {X:Cx}{pins:List (Ig×Ij)}{σ:List (Option V)}{H H':Hp}{s:Ii}{h':Ie}
theorem Cx.Ok.nofr (ok:X.Ok){b:Ig}{o:Ij}(e:X.base.get? b=some o):b ∉ X.fs:=fun hb=>by
 have:=(ok.funs.mem hb).1
 rw[e] at this;cases this
theorem Inv.bs (I:Inv X pins σ H s): ∀b o,X.base.get? b=some o->s.heap.get? b=some o/\H b=none:=fun b o e=>
 ⟨I.base.keep b o (I.ok.bs b o e).1 (I.ok.bs b o e).2 (I.ok.nofr e) (I.ok.noex b o e),I.base.free b o (I.ok.bs b o e).1 (I.ok.bs b o e).2 (I.ok.noex b o e)⟩
theorem Inv.bk (I:Inv X pins σ H s): ∀b o,X.base.get? b=some o->s.heap.get? b=some o:=fun b o e=>(I.bs b o e).1
theorem Inv.mod (I:Inv X pins σ H s):Mod X.K X.mg X.base:=I.ok.mod
theorem Inv.kIn (I:Inv X pins σ H s):X.K.In s.heap:=I.ok.mod.kin.keeps I.bk
theorem Inv.fr (I:Inv X pins σ H s): ∃m,Fr X.base X.env.locals s.heap m:=
 let ⟨m,hn,_⟩:=I.loc
 ⟨m,hn,I.bk,EG I.ok.bsz I.ok.above⟩
theorem Inv.lt (I:Inv X pins σ H s):X.env.locals<s.heap.objs.size:=let ⟨_,hn,_⟩:=I.loc;hn.lt
theorem Inv.sz (I:Inv X pins σ H s):X.s₀.heap.objs.size<=s.heap.objs.size:=EG I.ok.above (Gj I.lt)
theorem Inv.nofs (I:Inv X pins σ H s){a:Ig}(h:s.heap.objs.size<=a):a ∉ X.fs:=fun hb=>by
 obtain⟨_,o,ho,_⟩:=I.ok.funs.mem hb
 exact absurd (EM (Eu ho) (EG I.sz h)) (Fz _)
theorem Inv.cne (I:Inv X pins σ H s): ∀x c,X.env.cells.lookup x=some c->c≠X.env.locals:=fun x c e z=>by
 obtain⟨v,o,ho,hd⟩:=I.cell x c e
 obtain⟨m,⟨o',es,ep,ho',hd',_⟩,_⟩:=I.loc
 rw[z,ho'] at ho;cases ho;rw[hd'] at hd;cases hd
theorem Inv.funs (I:Inv X pins σ H s):s.heap.FunFrames X.base X.outer:=by
 have all: ∀ (l:List Env),(∀b∈frs l,b∈X.fs)->X.s₀.heap.FunFrames X.base l->s.heap.FunFrames X.base l:=by
  intro l
  induction l with
  |nil=>intro _ _;trivial
  |cons env r ih=>
   intro hs hl
   obtain⟨hk,⟨L,o,hf,hn,ho,hd⟩,hr⟩:=hl
   have hL:L∈X.fs:=hs L (by unfold frs;rw[FX,hf];exact Eo)
   obtain⟨sl,e⟩:=I.base.slot L o ho (I.ok.frf L hL) hL fun z=>I.ok.exfs L z hL
   exact⟨hk,⟨L,_,hf,hn,e,hd⟩,ih (fun b hb=>hs b (by unfold frs;rw[FX,hf];exact EA _ hb)) hr⟩
 exact all X.outer (fun _ hb=>hb) I.ok.funs
theorem Inv.stack (I:Inv X pins σ H s):s.heap.FunFrames X.base X.stack:=by
 rcases I.ok.stk with e|⟨e,hf⟩
 ·rw[e];exact I.funs
 ·rw[e]
  obtain⟨m,hn,_⟩:=I.loc
  refine .cons (by rw[I.ok.kind];decide) hf hn ?_ I.funs
  exact Ie.get?_none_of_le (EG I.ok.bsz I.ok.above)
theorem Inv.stkSub (I:Inv X pins σ H s): ∀b∈frs X.stack,b∈X.env.locals::X.fs:=fun b hb=>by
 rcases I.ok.stk with e|⟨e,hf⟩
 ·rw[e] at hb;exact EA _ hb
 ·rw[e] at hb
  unfold frs at hb
  rw[FX,hf] at hb
  exact hb
theorem Inv.stkFree (I:Inv X pins σ H s): ∀b∈frs X.stack,H b=none:=fun b hb=>by
 rcases En.mp (I.stkSub b hb) with e|hb
 ·rw[e];exact I.free
 ·obtain⟨_,o,ho,_⟩:=I.ok.funs.mem hb
  exact I.base.free b o ho (I.ok.frf b hb) fun z=>I.ok.exfs b z hb
theorem Inv.step {g':Array GenState}{t':Nat}{d':Drawn}{ch:List Ig}(I:Inv X pins σ H s)
  (hch: ∀b∈ch,(b∈X.ex\/X.s₀.heap.objs.size<=b)/\b≠X.env.locals/\(∀x c,X.env.cells.lookup x=some c->c≠b)/\ ∀p∈X.pn++pins,p.1≠b)
  (keep: ∀b o,b≠X.env.locals->b ∉ X.fs->b ∉ ch->s.heap.get? b=some o->H b=none->h'.get? b=some o)
  (slot: ∀b o,b≠X.env.locals->b∈X.fs->b ∉ ch->s.heap.get? b=some o->H b=none-> ∃sl,h'.get? b=some {o with slots:=sl})(free: ∀b o,b ∉ ch->s.heap.get? b=some o->H b=none->H' b=none)
  (there: ∀b o,b ∉ ch->s.heap.get? b=some o-> ∃o',h'.get? b=some o')
  (tups: ∀b xs,H b=some (.tup xs)->H' b=some (.tup xs))(frzs: ∀b o u,H b=some (.frz o u)->H' b=some (.frz o u))(tbls: ∀b ps,H b=some (.tbl ps)-> ∃more,H' b=some (.tbl (ps++more)))
  (ns: ∀m,s.heap.Ns X.env.locals m->h'.Ns X.env.locals m)(hok:HOk X.prog X.w H' h')(hg:IF g'):
  Inv X pins σ H' {s with heap:=h',gens:=g',drawn:=d',toks:=t'}:=by
 have neL: ∀b o,X.s₀.heap.get? b=some o->b≠X.env.locals:=fun b o e=>EK (EM (Eu e) I.ok.above)
 have neC: ∀b o,X.s₀.heap.get? b=some o->b ∉ X.ex->b ∉ ch:=fun b o e hx hb=>by
  rcases (hch b hb).1 with z|z
  ·exact hx z
  ·exact absurd (EM (Eu e) z) (Fz _)
 have cellK: ∀x c,X.env.cells.lookup x=some c-> ∀v,s.heap.IsCell c v->h'.IsCell c v:=fun x c e v ⟨o,ho,hd⟩=>by
  have nch:c ∉ ch:=fun z=>(hch c z).2.2.1 x c e rfl
  by_cases hc:c∈X.fs
  ·obtain⟨sl,q⟩:=slot c o (I.cne x c e) hc nch ho (I.freeC x c e)
   exact⟨_,q,hd⟩
  ·exact⟨o,keep c o (I.cne x c e) hc nch ho (I.freeC x c e),hd⟩
 refine⟨I.ok,I.os,hg,⟨fun b o e n hb hx=>?_,fun b o e n hb hx=>?_,fun b o e n hx=>?_,fun b o e hx=>?_,fun b xs e=>tups b xs (I.base.tups b xs e),fun b o xs e=>frzs b o xs (I.base.frzs b o xs e),fun b ps e=>?_⟩,?_,fun x c e=>?_,?_,fun x c e=>?_,fun p hp=>?_,hok,I.len⟩
 ·exact keep b o (neL b o e) hb (neC b o e hx) (I.base.keep b o e n hb hx) (I.base.free b o e n hx)
 ·obtain⟨sl,e1⟩:=I.base.slot b o e n hb hx
  obtain⟨sl',e2⟩:=slot b _ (neL b o e) hb (neC b o e hx) e1 (I.base.free b o e n hx)
  exact⟨sl',e2⟩
 ·obtain⟨o',e1⟩:=I.base.there b o e hx
  exact free b o' (neC b o e hx) e1 (I.base.free b o e n hx)
 ·obtain⟨o',e1⟩:=I.base.there b o e hx
  exact there b o' (neC b o e hx) e1
 ·obtain⟨m1,e1⟩:=I.base.tbls b ps e
  obtain⟨m2,e2⟩:=tbls b _ e1
  exact⟨m1++m2,by rw[e2,Hr]⟩
 ·obtain⟨m,hn,hl⟩:=I.loc
  refine⟨m,ns m hn,fun i x v e1 e2 e3=>?_⟩
  obtain⟨u,r,l⟩:=hl i x v e1 e2 e3
  refine⟨u,r,?_⟩
  rcases l with l|⟨k,c,e,z⟩
  ·exact .inl l
  ·exact .inr ⟨k,c,e,cellK x c e _ z⟩
 ·obtain⟨v,z⟩:=I.cell x c e
  exact⟨v,cellK x c e v z⟩
 ·obtain⟨m,⟨o,_,_,ho,_⟩,_⟩:=I.loc
  exact free _ o (fun z=>(hch _ z).2.1 rfl) ho I.free
 ·obtain⟨v,o,ho,hd⟩:=I.cell x c e
  exact free c o (fun z=>(hch c z).2.2.1 x c e rfl) ho (I.freeC x c e)
 ·obtain⟨e,n,ne,nf,d⟩:=I.pin p hp
  have nch:p.1 ∉ ch:=fun z=>(hch p.1 z).2.2.2 p hp rfl
  exact⟨keep p.1 p.2 ne nf nch e n,free p.1 p.2 nch e n,ne,nf,d⟩
theorem Inv.un {t':Nat}(I:Inv X pins σ H s)(u:Un X.fs [] H H' s.heap h')(hok:HOk X.prog X.w H' h'):Inv X pins σ H' {s with heap:=h',toks:=t'}:=by
 obtain⟨m,⟨o,es,ep,ho,r⟩,_⟩:=id I.loc
 obtain⟨sl,hL⟩:=u.any ho I.free (by simp)
 exact I.step (g':=s.gens) (d':=s.drawn) (ch:=[]) (fun _ z=>nomatch z) (fun b o _ hb _ e n=>u.keep b o e n hb (by simp)) (fun b o _ hb _ e n=>u.slot b o e n hb (by simp)) (fun b o _ e n=>u.free b o e n (by simp)) (fun b o _ e=>u.there b o e (by simp)) u.tups u.frzs u.tbls (fun m' hm=>by
  obtain⟨o',es',ep',ho',r'⟩:=hm
  rw[ho] at ho';cases ho'
  exact⟨_,es',ep',hL,r'⟩) hok I.bare
theorem Inv.call {g':Array GenState}{t':Nat}{d':Drawn}{ch:List Ig}(I:Inv X pins σ H s)(u:Un (frs X.stack) ch H H' s.heap h')(hok:HOk X.prog X.w H' h')(hg:IF g')
  (hch: ∀b∈ch,(b∈X.ex\/X.s₀.heap.objs.size<=b)/\b≠X.env.locals/\(∀x c,X.env.cells.lookup x=some c->c≠b)/\ ∀p∈X.pn++pins,p.1≠b):
  Inv X pins σ H' {s with heap:=h',gens:=g',drawn:=d',toks:=t'}:=by
 obtain⟨m,⟨o,es,ep,ho,r⟩,_⟩:=id I.loc
 obtain⟨sl,hL⟩:=u.any ho I.free fun z=>(hch _ z).2.1 rfl
 exact I.step (ch:=ch) hch (fun b o hL hb hc e n=>u.keep b o e n (fun z=>(En.mp (I.stkSub b z)).elim hL hb) hc) (fun b o _ _ hc e n=>u.any e n hc) (fun b o hc e n=>u.free b o e n hc) (fun b o hc e=>u.there b o e hc) u.tups u.frzs u.tbls (fun m' hm=>by
  obtain⟨o',es',ep',ho',r'⟩:=hm
  rw[ho] at ho';cases ho'
  exact⟨_,es',ep',hL,r'⟩) hok hg
theorem Inv.turned {t':Nat}{it:Ig}(I:Inv X pins σ H s)(k:∀b o,b≠it->s.heap.get? b=some o->h'.get? b=some o)(hn:H it=none)(hL:it≠X.env.locals)
  (h1:it∈X.ex\/X.s₀.heap.objs.size<=it)(h2: ∀x c,X.env.cells.lookup x=some c->c≠it)(h3: ∀p∈X.pn++pins,p.1≠it):Inv X pins σ H {s with heap:=h',toks:=t'}:=by
 have nit: ∀b u,H b=some u->b≠it:=fun b u e z=>by rw[z,hn] at e;cases e
 refine I.step (g':=s.gens) (d':=s.drawn) (ch:=[it]) (fun b hb=>?_) (fun b o _ _ hc e _=>k b o (fun z=>hc (by simp [z])) e) (fun b o _ _ hc e _=>⟨o.slots,k b o (fun z=>hc (by simp [z])) e⟩) (fun _ _ _ _ n=>n)
  (fun b o hc e=>⟨o,k b o (fun z=>hc (by simp [z])) e⟩) (fun _ _ e=>e) (fun _ _ _ e=>e) (fun b ps e=>⟨#[],by rw[e];simp⟩) (fun m hm=>?_) (fun b u e=>?_) I.bare
 ·have e:b=it:=by simpa using hb
  subst e
  exact⟨h1,hL,h2,h3⟩
 ·obtain⟨o,es,ep,ho,r⟩:=hm
  exact⟨o,es,ep,k _ o (Ne.symm hL) ho,r⟩
 ·refine (I.hok b u e).stay (fun c v hc q=>k c v ?_ q) (fun _ q=>q) fun _ _ q=>q
  rcases hc with z|z
  ·rw[z];exact nit b u e
  ·exact nit c _ z
theorem Inv.tok (I:Inv X pins σ H s)(t:Nat):Inv X pins σ H {s with toks:=t}:=I.un (h':=s.heap) (t':=t) Un.refl I.hok
theorem Inv.kept {t':Nat}(I:Inv X pins σ H s)(k:∀b u,s.heap.get? b=some u->h'.get? b=some u):Inv X pins σ H {s with heap:=h',toks:=t'}:=I.un (Un.kept k) (I.hok.kept k)
theorem Inv.laid {a:Ig}{o:HO}{t':Nat}(I:Inv X pins σ H s)(k:∀b u,s.heap.get? b=some u->h'.get? b=some u)(hp:s.heap.objs.size<=a)(new:ObjOk X.prog X.w (upd H a o) h' a o):
 Inv X pins σ (upd H a o) {s with heap:=h',toks:=t'}:=I.un (Un.laid k hp (I.hok.fresh hp)) (I.hok.laid k hp new)
theorem Inv.write {x e:Ig}{o:HO}{t':Nat}(I:Inv X pins σ H s)(mu:Mut (H x))(he:e=x\/H e=some (.own x))(k:∀b u,b≠e->s.heap.get? b=some u->h'.get? b=some u)(heo: ∃u,h'.get? e=some u)
 (new:ObjOk X.prog X.w (upd H x o) h' x o):Inv X pins σ (upd H x o) {s with heap:=h',toks:=t'}:=I.un (Un.write mu he k heo) (I.hok.write mu he k heo new)
theorem Inv.weak {σ':List (Option V)}(I:Inv X pins σ H s)(hl:σ'.length=σ.length)(w:∀ (i:Nat) v,σ'[i]?=some (some v)->σ[i]?=some (some v)):Inv X pins σ' H s:=
 ⟨I.ok,I.os,I.bare,I.base,let ⟨m,hn,hl'⟩:=I.loc;⟨m,hn,fun i x v e1 e2 e3=>hl' i x v e1 (w i v e2) e3⟩,I.cell,I.free,I.freeC,I.pin,I.hok,hl.trans I.len⟩
theorem Inv.pins_of {pins':List (Ig×Ij)}(I:Inv X pins σ H s)(h:∀p∈pins',s.heap.get? p.1=some p.2/\H p.1=none/\p.1≠X.env.locals/\p.1 ∉ X.fs/\ ∀v,p.2.data≠.cell v):Inv X pins' σ H s:=
 ⟨I.ok,I.os,I.bare,I.base,I.loc,I.cell,I.free,I.freeC,fun p hp=>(E6.mp hp).elim (fun z=>I.pin p (FY _ z)) (h p),I.hok,I.len⟩
theorem o9 {N:List Str}(hN:N.Nodup){i j:Nat}{x:Str}(a:N[i]?=some x)(b:N[j]?=some x):i=j:=by
 obtain⟨h1,e1⟩:=Ev.mp a
 obtain⟨h2,e2⟩:=Ev.mp b
 exact (GP hN).mp (e1.trans e2.symm)
theorem tX {M:Model}{A:Ik}{E:H0->Ii->Prop}{i:Nat}{x:Str}{v:V}{u:H0}{Q:Unit->Ii->Prop}(I:Inv X pins σ H s)(hN:X.N.Nodup)(hi:X.N[i]?=some x)(hx:Loc X.env.scope x)(r:RelV v u)
  (h:∀s',Inv X pins (σ.set i (some v)) H s'->(∃a,Fb a s.heap s'.heap/\(a=X.env.locals\/X.env.cells.lookup x=some a))->Q () s')(hf:X.fn x=true\/X.env.scope.names.lookup x=some .local :=by first|exact .inl rfl|exact .inr rfl|assumption):Im M A (storeName X.env x u) Q E s:=by
 obtain⟨m,hn,hl⟩:=id I.loc
 have hcls:(X.env.scope.kind==.class||(X.env.scope.kind==.module && X.env.locals !=X.env.globals))=false:=by rw[I.ok.kind];rfl
 have hiσ:i<σ.length:=by rw[I.len];exact (Ev.mp hi).1
 have cne:=I.cne
 have tracked: ∀ {a:Ig}{h':Ie},(∃o,s.heap.get? a=some o/\H a=none)->Fb a s.heap h'->HOk X.prog X.w H h':=fun{a h'} ha hs b ob e=>by
  obtain⟨_,_,hfree⟩:=ha
  refine (I.hok b ob e).stay (fun c w' hc q=>(hs.2 c ?_).trans q) (fun _ q=>q) fun _ _ q=>q
  rintro rfl
  rcases hc with rfl|hc
  ·rw[hfree] at e;cases e
  ·rw[hfree] at hc;cases hc
 rcases hx with hk|hk
 ·refine wpAny_storeName_local hk hn (fun h' hn' hs=>?_) hcls
  obtain⟨oL,_,_,hoL,_⟩:=id hn
  refine h _ ⟨I.ok,I.os,I.bare,⟨fun b o e n hb hx=>?_,fun b o e n hb hx=>?_,I.base.free,fun b o e hx=>?_,I.base.tups,I.base.frzs,I.base.tbls⟩,⟨_,hn',fun j y v' e1 e2 e3=>?_⟩,fun y c e=>?_,I.free,I.freeC,fun p hp=>?_,tracked ⟨oL,hoL,I.free⟩ hs,by simpa using I.len⟩ ⟨_,hs,.inl rfl⟩
  ·exact (hs.2 b (EK (EM (Eu e) I.ok.above))).trans (I.base.keep b o e n hb hx)
  ·obtain⟨sl,e1⟩:=I.base.slot b o e n hb hx
   exact⟨sl,(hs.2 b (EK (EM (Eu e) I.ok.above))).trans e1⟩
  ·obtain⟨o',e1⟩:=I.base.there b o e hx
   exact⟨o',(hs.2 b (EK (EM (Eu e) I.ok.above))).trans e1⟩
  ·by_cases hj:j=i
   ·subst hj
    rw[hi] at e1;cases e1
    rw[FC hiσ] at e2
    cases e2
    exact⟨u,r,.inl ⟨hk,by simp⟩⟩
   ·rw[Ew (Ne.symm hj)] at e2
    obtain⟨u',r',q⟩:=hl j y v' e1 e2 e3
    refine⟨u',r',?_⟩
    rcases q with⟨k,e⟩|⟨k,c,e,z⟩
    ·refine .inl ⟨k,?_⟩
     have:y≠x:=fun e=>hj (o9 hN e1 (e▸hi))
     simp [this,e]
    ·exact .inr ⟨k,c,e,z.sameBut hs (cne y c e)⟩
  ·obtain⟨w',z⟩:=I.cell y c e
   exact⟨w',z.sameBut hs (cne y c e)⟩
  ·obtain⟨e,n,ne,nf,d⟩:=I.pin p hp
   exact⟨(hs.2 p.1 ne).trans e,n,ne,nf,d⟩
 ·have hfn:X.fn x=true:=by
   rcases hf with z|z
   ·exact z
   ·rw[z] at hk;cases hk
  obtain⟨c,hc⟩:=I.ok.has x (.inl hk)
  obtain⟨w',z⟩:=I.cell x c hc
  refine wpAny_storeName_cell I.ok.kind hk hc z (fun h' hc' hs=>?_)
  obtain⟨oc,hoc,hocd⟩:=id z
  refine h {s with heap:=h'} ⟨I.ok,I.os,I.bare,⟨fun b o e n hb hx=>?_,fun b o e n hb hx=>?_,I.base.free,fun b o e hx=>?_,I.base.tups,I.base.frzs,I.base.tbls⟩,⟨m,hn.sameBut hs (Ne.symm (cne x c hc)),fun j y v' e1 e2 e3=>?_⟩,fun y c' e=>?_,I.free,I.freeC,fun p hp=>?_,tracked ⟨oc,hoc,I.freeC x c hc⟩ hs,by simpa using I.len⟩ ⟨c,hs,.inr hc⟩
  ·exact (hs.2 b (EK (EM (Eu e) (I.ok.cab x c hfn hc)))).trans (I.base.keep b o e n hb hx)
  ·obtain⟨sl,e1⟩:=I.base.slot b o e n hb hx
   exact⟨sl,(hs.2 b (EK (EM (Eu e) (I.ok.cab x c hfn hc)))).trans e1⟩
  ·obtain⟨o',e1⟩:=I.base.there b o e hx
   exact⟨o',(hs.2 b (EK (EM (Eu e) (I.ok.cab x c hfn hc)))).trans e1⟩
  ·by_cases hj:j=i
   ·subst hj
    rw[hi] at e1;cases e1
    rw[FC hiσ] at e2
    cases e2
    exact⟨u,r,.inr ⟨.inl hk,c,hc,hc'⟩⟩
   ·rw[Ew (Ne.symm hj)] at e2
    obtain⟨u',r',q⟩:=hl j y v' e1 e2 e3
    refine⟨u',r',?_⟩
    rcases q with q|⟨k,c',e,z'⟩
    ·exact .inl q
    ·refine .inr ⟨k,c',e,z'.sameBut hs ?_⟩
     rintro rfl
     exact hj (o9 hN e1 (I.ok.inj _ _ _ e hc▸hi))
  ·by_cases hcc:c'=c
   ·subst hcc;exact⟨_,hc'⟩
   ·obtain⟨w2,z2⟩:=I.cell y c' e
    exact⟨w2,z2.sameBut hs hcc⟩
  ·obtain⟨e,n,ne,nf,d⟩:=I.pin p hp
   refine⟨(hs.2 p.1 ?_).trans e,n,ne,nf,d⟩
   intro q
   rw[q,hoc] at e
   have q':oc=p.2:=Option.some.inj e
   exact d w' (by rw[<-q'];exact hocd)
theorem oC {M:Model}{A:Ik}{E:H0->Ii->Prop}{i:Nat}{x:Str}{v:V}{u:H0}{Q:Unit->Ii->Prop}(I:Inv X pins σ H s)(hN:X.N.Nodup)(hi:X.N[i]?=some x)(hx:Loc X.env.scope x)(r:RelV v u)
  (h:∀s',Inv X pins (σ.set i (some v)) H s'->Q () s')(hf:X.fn x=true\/X.env.scope.names.lookup x=some .local :=by first|exact .inl rfl|exact .inr rfl|assumption):Im M A (storeName X.env x u) Q E s:=
 tX I hN hi hx r (fun s' I' _=>h s' I') hf
theorem Inv.call' {s':Ii}{ch:List Ig}(I:Inv X pins σ H s)(ho:s'.os=s.os)(u:Un (frs X.stack) ch H H' s.heap s'.heap)(hok:HOk X.prog X.w H' s'.heap)(hg:IF s'.gens)
  (hch: ∀b∈ch,(b∈X.ex\/X.s₀.heap.objs.size<=b)/\b≠X.env.locals/\(∀x c,X.env.cells.lookup x=some c->c≠b)/\ ∀p∈X.pn++pins,p.1≠b):Inv X pins σ H' s':=by
 obtain⟨h',g',d',t',o'⟩:=s'
 have e:o'=s.os:=ho
 subst e
 exact I.call (g':=g') (t':=t') (d':=d') u hok hg hch
end
noncomputable abbrev XK:=H0->Option Ig->Hp->Prop
noncomputable abbrev St:=List (Option V)
noncomputable abbrev VK:=V->Hp->Prop
noncomputable abbrev TE:=St->Hp->VK->Prop
noncomputable abbrev TT:=St->Hp->(Bool->Hp->Prop)->Prop
noncomputable abbrev TA:=St->Hp->(List V->Hp->Prop)->Prop
structure JN where
 nx:St->Hp->Prop
 rt:VK
 bk:St->Hp->Prop:=fun _ _=>False
 ct:St->Hp->Prop:=fun _ _=>False
noncomputable abbrev TS:=JN->St->Hp->Prop
def EP (X:Cx)(pins:List (Ig×Ij))(σ:St)(Q:VK)(u:H0)(s':Ii):Prop:= ∃v H',Inv X pins σ H' s'/\RelV v u/\Q v H'
def TP (X:Cx)(pins:List (Ig×Ij))(σ:St)(Q:Bool->Hp->Prop)(b:Bool)(s':Ii):Prop:= ∃H',Inv X pins σ H' s'/\Q b H'
def AP (X:Cx)(pins:List (Ig×Ij))(σ:St)(Q:List V->Hp->Prop)(us:List H0)(s':Ii):Prop:= ∃vs H',Inv X pins σ H' s'/\Vals vs us/\Q vs H'
def SP (X:Cx)(pins:List (Ig×Ij))(D:JN)(f:Flow)(s':Ii):Prop:=
 match f with
 |.next=> ∃σ' H',Inv X pins σ' H' s'/\D.nx σ' H'
 |.brk=> ∃σ' H',Inv X pins σ' H' s'/\D.bk σ' H'
 |.cont=> ∃σ' H',Inv X pins σ' H' s'/\D.ct σ' H'
 |.ret u=> ∃v σ' H',Inv X pins σ' H' s'/\RelV v u/\D.rt v H'
def PE (X:Cx)(e:Expr)(t:TE):Prop:=
 ∀ (pins:List (Ig×Ij)) (s:Ii) (σ:St) (H:Hp) (Q:VK),Inv X pins σ H s->t σ H Q->Im (Io X.prog X.w) X.A (IG e X.env) (EP X pins σ Q) X.xe s
def PT (X:Cx)(e:Expr)(t:TT):Prop:=
 ∀ (pins:List (Ig×Ij)) (s:Ii) (σ:St) (H:Hp) (Q:Bool->Hp->Prop),Inv X pins σ H s->t σ H Q->Im (Io X.prog X.w) X.A (isTrue e X.env (IG e X.env)) (TP X pins σ Q) X.xe s
def PW (X:Cx)(e:Expr)(t:TT):Prop:=
 ∀ (whole:Sem H0) (pins:List (Ig×Ij)) (s:Ii) (σ:St) (H:Hp) (Q:Bool->Hp->Prop),Inv X pins σ H s->t σ H Q->Im (Io X.prog X.w) X.A (isTrue e X.env whole) (TP X pins σ Q) X.xe s
theorem PW.pt {X:Cx}{e:Expr}{t:TT}(h:PW X e t):PT X e t:=h _
def PA (X:Cx)(es:List Expr)(t:TA):Prop:=
 ∀ (pos:IH) (pins:List (Ig×Ij)) (s:Ii) (σ:St) (H:Hp) (Q:List V->Hp->Prop),Inv X pins σ H s->t σ H Q->Im (Io X.prog X.w) X.A (spliced (II pos (IJ es X.env))) (AP X pins σ Q) X.xe s
def PS (X:Cx)(st:IK)(t:TS):Prop:=
 ∀ (pins:List (Ig×Ij)) (s:Ii) (σ:St) (H:Hp) (D:JN),Inv X pins σ H s->t D σ H->Im (Io X.prog X.w) X.A (exec st X.env) (SP X pins D) X.xe s
def PSs (X:Cx)(st:List IK)(t:TS):Prop:=
 ∀ (pins:List (Ig×Ij)) (s:Ii) (σ:St) (H:Hp) (D:JN),Inv X pins σ H s->t D σ H->Im (Io X.prog X.w) X.A (execs st X.env) (SP X pins D) X.xe s
theorem thn {α:Type}{t:Sem α}{Q Q':α->Ii->Prop}{M:Model}{A:Ik}{E:H0->Ii->Prop}{s:Ii}(h:Im M A t Q E s)(hQ: ∀a s,Q a s->Q' a s):Im M A t Q' E s:=IL h hQ fun _ _ x=>x
end
section
section
variable {X:Cx}
theorem bin {a b:Expr}{ta tb:TE}(ha:PE X a ta)(hb:PE X b tb){pins:List (Ig×Ij)}{s:Ii}{σ:St}{H:Hp}{R:V->V->Hp->Prop}(I:Inv X pins σ H s)(h:ta σ H fun x H1=>tb σ H1 fun y H2=>R x y H2)
  {α:Type}{Q:α->Ii->Prop}{f:H0->H0->Sem α}
  (hf: ∀v u s2 x y H2,Inv X pins σ H2 s2->RelV x v->RelV y u->R x y H2->Im (Io X.prog X.w) X.A (f v u) Q X.xe s2):
  Im (Io X.prog X.w) X.A (IG a X.env) (fun v s₁=>Im (Io X.prog X.w) X.A (IG b X.env) (fun u s₂=>Im (Io X.prog X.w) X.A (f v u) Q X.xe s₂) X.xe s₁) X.xe s:=by
 refine thn (ha pins s σ H _ I h) fun v s1 qz=>?_
 obtain⟨x,H1,I1,r1,q1⟩:=qz
 refine thn (hb pins s1 σ H1 _ I1 q1) fun u s2 qz=>?_
 obtain⟨y,H2,I2,r2,q2⟩:=qz
 exact hf v u s2 x y H2 I2 r1 r2 q2
def OD (i:Nat):TE:=fun σ H Q=> ∃v,σ[i]?=some (some v)/\Q v H
def tC (v:V):TE:=fun _ H Q=>Q v H
theorem AU {i:Nat}{x:Str}{pos:IH}(hN:X.N[i]?=some x)(hv:Vis X.env.scope x)(hd:(x==("__debug__":Str))=false:=by decide)(hcd:(x==("__classdict__":Str))=false:=by decide):PE X (.Name x pos) (OD i):=by
 intro pins s σ H Q I h
 obtain⟨v,e,h⟩:=h
 obtain⟨m,hn,hl⟩:=I.loc
 obtain⟨u,r,l⟩:=hl i x v hN e hv
 have fin:EP X pins σ Q u s:=⟨v,H,I,r,h⟩
 rcases l with⟨hk,hm⟩|⟨hk,c,hc,hcell⟩
 ·exact wpAny_Name (wpAny_loadName_local I.ok.kind hk hn hm fin) hd
 ·rcases hk with hk|hk
  ·exact wpAny_Name (wpAny_loadName_cell I.ok.kind hk hc hcell fin) hd
  ·exact wpAny_Name (wpAny_loadName_free I.ok.kind hk hc hcell fin hcd) hd
theorem M4 {i j pos}:PE X (.Constant (.int i) j pos) (tC (.int i)):=fun _ _ _ H _ I h=>wpAny_Constant_int ⟨.int i,H,I.tok _,⟨_,rfl⟩,h⟩
theorem M1 {b j pos}:PE X (.Constant (.bool b) j pos) (tC (.bl b)):=fun _ _ _ H _ I h=>Constant_bool ⟨.bl b,H,I,rfl,h⟩
theorem M7 {j pos}:PE X (.Constant .none j pos) (tC .non):=fun _ _ _ H _ I h=>Constant_none ⟨.non,H,I,rfl,h⟩
theorem M8 {x j pos}:PE X (.Constant (.str x) j pos) (tC (.str x)):=fun _ _ _ H _ I h=>Calls.Constant_str ⟨.str x,H,I.tok _,⟨_,rfl⟩,h⟩
noncomputable def Gl (X:Cx)(x:Str):Prop:=X.env.kindOf x=some .globalImplicit
theorem iX {E:H0->Ii->Prop}{pins:List (Ig×Ij)}{s:Ii}{σ:St}{H:Hp}{x:Str}{u:H0}{pos:IH}{Q:H0->Ii->Prop}(I:Inv X pins σ H s)(hg:Gl X x)(hm:X.mg x=some u)(h:Q u s)
  (hd:(x==("__debug__":Str))=false:=by decide):Im (Io X.prog X.w) X.A (IG (.Name x pos) X.env) Q E s:=
 Calls.Name_function_global I.ok.kind hg (Calls.loadGlobal_global (by rw[I.ok.glob];exact I.mod.glob.keeps I.bk) hm h) hd
theorem d6 {E:H0->Ii->Prop}{pins:List (Ig×Ij)}{s:Ii}{σ:St}{H:Hp}{x:Str}{u:H0}{pos:IH}{Q:H0->Ii->Prop}(I:Inv X pins σ H s)(hg:Gl X x)(hm:X.mg x=none)(hv:ID x=some u)(h:Q u s)
  (hn:x≠ "__name__":=by decide)(hd:(x==("__debug__":Str))=false:=by decide):Im (Io X.prog X.w) X.A (IG (.Name x pos) X.env) Q E s:=by
 obtain⟨mb,h1,h2⟩:=I.mod.blt
 exact Calls.Name_function_global I.ok.kind hg (Calls.loadGlobal_builtin (by rw[I.ok.glob];exact I.mod.glob.keeps I.bk) hm (by rw[I.ok.blt];exact h1.keeps I.bk) ((h2 x hn).trans hv) h) hd
theorem c8 {x:Str}{v:V}{u:H0}{pos:IH}(hg:Gl X x)(hm:X.mg x=some u)(r:RelV v u)(hd:(x==("__debug__":Str))=false:=by decide):PE X (.Name x pos) (tC v):=
 fun _ _ _ H _ I h=>iX I hg hm ⟨v,H,I,r,h⟩ hd
theorem yC {x:Str}{v:V}{u:H0}{pos:IH}(hg:Gl X x)(hm:X.mg x=none)(hv:ID x=some u)(r:RelV v u)(hn:x≠ "__name__":=by decide)(hd:(x==("__debug__":Str))=false:=by decide):PE X (.Name x pos) (tC v):=
 fun _ _ _ H _ I h=>d6 I hg hm hv ⟨v,H,I,r,h⟩ hn hd
variable {a b:Expr}{ta tb:TE}{pos:IH}
def PC (X:Cx)(op:CmpOp)(a b:Expr)(t:TE):Prop:=
 ∀ (pins:List (Ig×Ij)) (s:Ii) (σ:St) (H:Hp) (Q:VK),Inv X pins σ H s->t σ H Q->
   Im (Io X.prog X.w) X.A (IG a X.env) (fun v s₁=>Im (Io X.prog X.w) X.A (IG b X.env) (fun u s₂=>Im (Io X.prog X.w) X.A (IM op v u) (EP X pins σ Q) X.xe s₂) X.xe s₁) X.xe s
def tB (t:TE):TT:=fun σ H Q=>t σ H fun x H1=> ∃c,x=.bl c/\Q c H1
theorem D9 {op:CmpOp}{t:TE}(h:PC X op a b t)(h1:IN op b=false:=by first|exact nobehind _ (by decide) (by decide)|rfl):PT X (.Compare a [op] [b] pos) (tB t):=by
 intro pins s σ H Q I hw
 refine wpAny_isTrue_Compare1 (thn (h pins s σ H _ I hw) fun v s1 h1=>thn h1 fun u s2 h2=>thn h2 fun c s3 qz=>?_) h1
 obtain⟨x,H1,I1,r1,q1⟩:=qz
 obtain⟨d,rfl,q⟩:=q1
 cases r1
 exact Iy ⟨H1,I1,q⟩
theorem fu {e:Expr}{t:TE}(h:PE X e t)(he: ∀whole,isTrue e X.env whole=(do let v<-whole;IP e.pos;IQ [v] (truthy v)):=by intro _;rfl):PT X e (tB t):=by
 intro pins s σ H Q I hw
 refine isTrue_plain (thn (h pins s σ H _ I hw) fun v s1 qz=>?_) (he _)
 obtain⟨x,H1,I1,r1,q1⟩:=qz
 obtain⟨d,rfl,q⟩:=q1
 cases r1
 exact Iy ⟨H1,I1,q⟩
variable {tA tB':TT}{rest:List Expr}
def tAnd (t u:TT):TT:=fun σ H Q=>t σ H fun c H1=>if c=true then u σ H1 Q else Q false H1
def tOr (t u:TT):TT:=fun σ H Q=>t σ H fun c H1=>if c=true then Q true H1 else u σ H1 Q
def tNot (t:TT):TT:=fun σ H Q=>t σ H fun c H1=>Q (!c) H1
theorem sj (ha:PT X a tA):PW X (.BoolOp .And [a] pos) tA:=by
 intro wh pins s σ H Q I h
 refine isTrue_and (thn (ha pins s σ H Q I h) fun c s1 e=>?_)
 cases c with
 |true=>exact isTrue_and_nil e
 |false=>exact e
theorem qL (ha:PT X a tA):PW X (.BoolOp .Or [a] pos) tA:=by
 intro wh pins s σ H Q I h
 refine isTrue_or (thn (ha pins s σ H Q I h) fun c s1 e=>?_)
 cases c with
 |false=>exact isTrue_or_nil e
 |true=>exact e
theorem vO (ha:PT X a tA)(hb:PW X (.BoolOp .And (b::rest) pos) tB'):PW X (.BoolOp .And (a::b::rest) pos) (tAnd tA tB'):=by
 intro wh pins s σ H Q I h
 refine isTrue_and (thn (ha pins s σ H _ I h) fun c s1 qz=>?_)
 obtain⟨H1,I1,q1⟩:=qz
 cases c with
 |true=>exact hb wh pins s1 σ H1 Q I1 q1
 |false=>exact⟨H1,I1,q1⟩
theorem vN (ha:PT X a tA)(hb:PW X (.BoolOp .Or (b::rest) pos) tB'):PW X (.BoolOp .Or (a::b::rest) pos) (tOr tA tB'):=by
 intro wh pins s σ H Q I h
 refine isTrue_or (thn (ha pins s σ H _ I h) fun c s1 qz=>?_)
 obtain⟨H1,I1,q1⟩:=qz
 cases c with
 |true=>exact⟨H1,I1,q1⟩
 |false=>exact hb wh pins s1 σ H1 Q I1 q1
theorem qM (ha:PT X a tA):PT X (.UnaryOp .Not a pos) (tNot tA):=by
 intro pins s σ H Q I h
 exact isTrue_not (ha pins s σ H (fun c H1=>Q (!c) H1) I h)
def tAndV (ta tb:TE):TE:=fun σ H Q=>ta σ H fun x H1=> ∃c,x=.bl c/\if c=true then tb σ H1 Q else Q (.bl false) H1
def tNotV (ta:TE):TE:=fun σ H Q=>ta σ H fun x H1=> ∃c,x=.bl c/\Q (.bl (!c)) H1
theorem qT {op}{t:TE}(h:PE X a t):PE X (.BoolOp op [a] pos) t:=fun pins s σ H Q I hw=>BoolOp_one (h pins s σ H Q I hw)
theorem qU (ha:PE X a ta)(hb:PE X (.BoolOp .And (b::rest) pos) tb):PE X (.BoolOp .And (a::b::rest) pos) (tAndV ta tb):=by
 intro pins s σ H Q I h
 refine BoolOp_and (thn (ha pins s σ H _ I h) fun v s1 qz=>?_)
 obtain⟨x,H1,I1,r1,q1⟩:=qz
 obtain⟨c,rfl,q1⟩:=q1
 cases r1
 refine Iy ?_
 cases c with
 |true=>exact hb pins s1 σ H1 Q I1 q1
 |false=>exact⟨.bl false,H1,I1,rfl,q1⟩
theorem AW (ha:PE X a ta):PE X (.UnaryOp .Not a pos) (tNotV ta):=by
 intro pins s σ H Q I h
 refine UnaryOp_ (thn (ha pins s σ H _ I h) fun v s1 qz=>?_)
 obtain⟨x,H1,I1,r1,q1⟩:=qz
 obtain⟨c,rfl,q1⟩:=q1
 cases r1
 exact not_of (Iy ⟨.bl (!c),H1,I1,rfl,q1⟩)
def tIf (t:TT)(ta tb:TE):TE:=fun σ H Q=>t σ H fun c H1=>if c=true then ta σ H1 Q else tb σ H1 Q
theorem vY {c:Expr}(hc:PT X c tA)(ha:PE X a ta)(hb:PE X b tb):PE X (.IfExp c a b pos) (tIf tA ta tb):=by
 intro pins s σ H Q I h
 refine wpAny_IfExp (thn (hc pins s σ H _ I h) fun d s1 qz=>?_)
 obtain⟨H1,I1,q1⟩:=qz
 cases d with
 |true=>exact ha pins s1 σ H1 Q I1 q1
 |false=>exact hb pins s1 σ H1 Q I1 q1
end
end
section
def SqL (K:PySem.W.Frag)(H:Hp)(a:Ig)(xs:List V):Prop:=
 Rd H a (.lst xs)\/
  ∃ (o:Ij) (its:Array H0) (n:Nat),K.lookup a=some o/\o.cls=.type "list"/\o.dict=none/\o.data=.seq its n/\its.size<=sizeLine/\Vals xs its.toList
def SqT (K:PySem.W.Frag)(H:Hp)(a:Ig)(xs:List V):Prop:=
 Rd H a (.tup xs)\/
  ∃ (o:Ij) (its:Array H0) (n:Nat),K.lookup a=some o/\o.cls=.type "tuple"/\o.data=.seq its n/\its.size<=sizeLine/\Vals xs its.toList
noncomputable def absV:H0->Option V
 |.none=>some .non
 |.bool b=>some (.bl b)
 |.int i _=>some (.int i)
 |.str x _=>some (.str x)
 |.bytes b _=>some (.byt b)
 |.float b _=>some (.flt b)
 |.ref a=>some (.ref a)
 |.type n=>some (.ty n)
 |_=>none
theorem RelV.abs {x:V}{u:H0}(r:RelV x u):absV u=some x:=by
 cases x with
 |non=>cases r;rfl
 |bl _=>cases r;rfl
 |int _=>obtain⟨t,rfl⟩:=r;rfl
 |str _=>obtain⟨t,rfl⟩:=r;rfl
 |byt _=>obtain⟨t,rfl⟩:=r;rfl
 |flt _=>obtain⟨t,rfl⟩:=r;rfl
 |ref _=>cases r;rfl
 |ty _=>cases r;rfl
theorem RelV.inj {x y:V}{u:H0}(r:RelV x u)(q:RelV y u):x=y:=Option.some.inj (r.abs.symm.trans q.abs)
theorem Vals.inj: ∀ {xs ys:List V}{us:List H0},Vals xs us->Vals ys us->xs=ys
 :=by
 intro xs ys us h
 induction h generalizing ys with
 |nil=>intro g;cases g;rfl
 |cons r t ih=>
  intro g
  cases g with
  |cons r' t'=>rw[r.inj r',ih t']
section
variable {X:Cx}{pins:List (Ig×Ij)}{σ:St}{H:Hp}{s:Ii}{a:Ig}{xs ys:List V}
theorem SqL.of {K:PySem.W.Frag}(h:H a=some (.lst xs)):SqL K H a xs:=.inl (.inl h)
theorem SqT.of {K:PySem.W.Frag}(h:H a=some (.tup xs)):SqT K H a xs:=.inl (.inl h)
theorem Inv.list (I:Inv X pins σ H s)(h:SqL X.K H a xs): ∃its:List H0,Vals xs its/\PlainL s.heap a its.toArray/\xs.length<=sizeLine:=by
 rcases h with h|⟨o,its,n,hk,hc,hd,hs,hz,r⟩
 ·obtain⟨z,its,n,r,e⟩:=h.ok I.hok
  exact⟨its,r,⟨_,n,e,rfl,rfl,rfl⟩,z⟩
 ·refine⟨its.toList,r,⟨o,n,I.kIn a o hk,hc,hd,by simpa using hs⟩,?_⟩
  have e:=r.length
  simp only[Fu] at e
  omega
theorem Inv.tuple (I:Inv X pins σ H s)(h:SqT X.K H a xs): ∃its:List H0,Vals xs its/\IsTup s.heap a its.toArray/\xs.length<=sizeLine:=by
 rcases h with h|⟨o,its,n,hk,hc,hs,hz,r⟩
 ·obtain⟨z,its,r,p⟩:=h.ok I.hok
  exact⟨its,r,p.1,z⟩
 ·refine⟨its.toList,r,⟨o,I.kIn a o hk,hc,n,by simpa using hs⟩,?_⟩
  have e:=r.length
  simp only[Fu] at e
  omega
theorem Inv.list_inj (I:Inv X pins σ H s)(h:SqL X.K H a xs)(h':SqL X.K H a ys):xs=ys:=by
 obtain⟨its,r,⟨o,n,e,_,_,d⟩,_⟩:=I.list h
 obtain⟨its',r',⟨o',n',e',_,_,d'⟩,_⟩:=I.list h'
 rw[e] at e';cases e'
 rw[d] at d'
 injection d' with d1 _
 have:its=its':=by simpa using congrArg Array.toList d1
 subst this
 exact r.inj r'
theorem Inv.tuple_inj (I:Inv X pins σ H s)(h:SqT X.K H a xs)(h':SqT X.K H a ys):xs=ys:=by
 obtain⟨its,r,⟨o,e,_,n,d⟩,_⟩:=I.tuple h
 obtain⟨its',r',⟨o',e',_,n',d'⟩,_⟩:=I.tuple h'
 rw[e] at e';cases e'
 rw[d] at d'
 injection d' with d1 _
 have:its=its':=by simpa using congrArg Array.toList d1
 subst this
 exact r.inj r'
end
noncomputable abbrev Cx.wish (X:Cx)(E:H0->Ii->Prop):Cx:={X with xe:=E}
noncomputable abbrev Cx.nox (X:Cx):Cx:=X.wish fun _ _=>False
theorem Cx.Ok.wish {X:Cx}(ok:X.Ok)(E:H0->Ii->Prop):(X.wish E).Ok:=
 ⟨ok.mod,ok.kind,ok.glob,ok.blt,ok.above,ok.inj,ok.has,ok.cab,ok.hd,ok.frames,ok.stk,ok.exf,ok.bs,ok.bsz,ok.noex,ok.exfs,ok.funs,ok.frf⟩
theorem Cx.Ok.unwish {X:Cx}{E:H0->Ii->Prop}(ok:(X.wish E).Ok):X.Ok:=
 ⟨ok.mod,ok.kind,ok.glob,ok.blt,ok.above,ok.inj,ok.has,ok.cab,ok.hd,ok.frames,ok.stk,ok.exf,ok.bs,ok.bsz,ok.noex,ok.exfs,ok.funs,ok.frf⟩
section
variable {X:Cx}{pins:List (Ig×Ij)}{σ:St}{H:Hp}{s:Ii}{E:H0->Ii->Prop}
theorem Inv.wish (I:Inv X pins σ H s)(E:H0->Ii->Prop):Inv (X.wish E) pins σ H s:=⟨I.ok.wish E,I.os,I.bare,I.base,I.loc,I.cell,I.free,I.freeC,I.pin,I.hok,I.len⟩
theorem Inv.unwish (I:Inv (X.wish E) pins σ H s):Inv X pins σ H s:=⟨I.ok.unwish,I.os,I.bare,I.base,I.loc,I.cell,I.free,I.freeC,I.pin,I.hok,I.len⟩
theorem SP.unwish {D:JN}{f:Flow}{s':Ii}(h:SP (X.wish E) pins D f s'):SP X pins D f s':=by
 cases f with
 |next=>obtain⟨σ',H',I,q⟩:=h;exact⟨σ',H',I.unwish,q⟩
 |brk=>obtain⟨σ',H',I,q⟩:=h;exact⟨σ',H',I.unwish,q⟩
 |cont=>obtain⟨σ',H',I,q⟩:=h;exact⟨σ',H',I.unwish,q⟩
 |ret u=>obtain⟨v,σ',H',I,r,q⟩:=h;exact⟨v,σ',H',I.unwish,r,q⟩
theorem PSs.nox {st:List IK}{t:TS}(h:PSs X.nox st t):PSs X st t:=fun pins s σ H D I hw=>
 IL (h pins s σ H D (I.wish _) hw) (fun _ _ q=>q.unwish) fun _ _ z=>False.elim z
end
section
variable {X:Cx}{st:IK}{rest:List IK}{t u:TS}{e:Expr}{te:TE}{pos:IH}
def tNext:TS:=fun D σ H=>D.nx σ H
def tSeq (t u:TS):TS:=fun D σ H=>t {D with nx:=u D} σ H
theorem Nc:PSs X [] tNext:=fun _ _ σ H _ I h=>IR ⟨σ,H,I,h⟩
theorem ax (h1:PS X st t)(h2:PSs X rest u):PSs X (st::rest) (tSeq t u):=by
 intro pins s σ H D I h
 refine wpAny_execs_cons (thn (h1 pins s σ H {D with nx:=u D} I h) fun f s1 q=>?_)
 cases f with
 |next=>
  obtain⟨σ',H',I',q⟩:=q
  exact h2 pins s1 σ' H' D I' q
 |ret v=>exact q
 |brk=>exact q
 |cont=>exact q
theorem aJ (h1:PS X st t):PSs X [st] t:=by
 intro pins s σ H D I h
 refine wpAny_execs_cons (thn (h1 pins s σ H D I h) fun f s1 q=>?_)
 cases f with
 |next=>exact IR q
 |ret v=>exact q
 |brk=>exact q
 |cont=>exact q
theorem Inv.quiet {pins:List (Ig×Ij)}{σ:St}{H:Hp}{s:Ii}(I:Inv X pins σ H s):interactive X.env=false:=by simp [interactive,I.ok.kind]
def tDrop (te:TE):TS:=fun D σ H=>te σ H fun _ H1=>D.nx σ H1
theorem mZ (he:PE X e te)(hs:swapsWith e none pos.line X.env=pure false:=by rfl):PS X (.Expr e pos) (tDrop te):=by
 intro pins s σ H D I h
 exact wpAny_Expr_any (thn (he pins s σ H _ I h) fun v s1 ⟨x,H1,I1,r1,q1⟩=>⟨σ,H1,I1,q1⟩) I.quiet hs
def tRet (te:TE):TS:=fun D σ H=>te σ H D.rt
theorem cC (he:PE X e te):PS X (.Return (some e) pos) (tRet te):=by
 intro pins s σ H D I h
 exact wpAny_Return_some (thn (he pins s σ H _ I h) fun v s1 ⟨x,H1,I1,r1,q1⟩=>⟨x,σ,H1,I1,r1,q1⟩)
def tIfS (c:TT)(t u:TS):TS:=fun D σ H=>c σ H fun b H1=>if b=true then t D σ H1 else u D σ H1
theorem gg {c:Expr}{a b:List IK}{tc:TT}(hc:PT X c tc)(ha:PSs X a t)(hb:PSs X b u):PS X (.If c a b pos) (tIfS tc t u):=by
 intro pins s σ H D I h
 refine wpAny_If (thn (hc pins s σ H _ I h) fun d s1 qz=>?_)
 obtain⟨H1,I1,q1⟩:=qz
 cases d with
 |true=>exact ha pins s1 σ H1 D I1 q1
 |false=>exact hb pins s1 σ H1 D I1 q1
def Au:TS:=fun _ _ _=>False
theorem ub {sts:List IK}:PSs X sts Au:=fun _ _ _ _ _ _ h=>h.elim
end
noncomputable abbrev TG:=V->St->Hp->(St->Hp->Prop)->Prop
noncomputable abbrev TGs:=List V->St->Hp->(St->Hp->Prop)->Prop
def PG (X:Cx)(target:Expr)(t:TG):Prop:=
 ∀ (pins:List (Ig×Ij)) (s:Ii) (σ:St) (H:Hp) (v:V) (u:H0) (Q:St->Hp->Prop),Inv X pins σ H s->RelV v u->t v σ H Q->
   Im (Io X.prog X.w) X.A (assign target X.env u) (fun _ s'=> ∃σ' H',Inv X pins σ' H' s'/\Q σ' H') X.xe s
def PGs (X:Cx)(ts:List Expr)(t:TGs):Prop:=
 ∀ (pins:List (Ig×Ij)) (s:Ii) (σ:St) (H:Hp) (vs:List V) (us:List H0) (Q:St->Hp->Prop),Inv X pins σ H s->Vals vs us->t vs σ H Q->
   Im (Io X.prog X.w) X.A (assignInOrder ((IS ts X.env).map (·.2)) us) (fun _ s'=> ∃σ' H',Inv X pins σ' H' s'/\Q σ' H') X.xe s
noncomputable abbrev J5:=V->V->V->Hp->(Hp->Prop)->Prop
def PSet (X:Cx)(t:J5):Prop:=
 ∀ (pins:List (Ig×Ij)) (s:Ii) (σ:St) (H:Hp) (o i v:V) (ov iv u:H0) (Q:Hp->Prop),Inv X pins σ H s->RelV o ov->RelV i iv->RelV v u->t o i v H Q->
   Im (Io X.prog X.w) X.A (setItem ov iv u) (fun _ s'=> ∃H',Inv X pins σ H' s'/\Q H') X.xe s
section
variable {X:Cx}{pos:IH}
def K1 (i:Nat):TG:=fun v σ H Q=>Q (σ.set i (some v)) H
theorem bY {i:Nat}{x:Str}(hN:X.N.Nodup)(hi:X.N[i]?=some x)(hx:Loc X.env.scope x)(hf:X.fn x=true\/X.env.scope.names.lookup x=some .local :=by first|exact .inl rfl|exact .inr rfl|assumption):PG X (.Name x pos) (K1 i):=by
 intro pins s σ H v u Q I r h
 exact wpAny_assign_Name (oC I hN hi hx r (fun s' I'=>⟨_,H,I',h⟩) hf)
def gNil:TGs:=fun vs σ H Q=>vs=[]/\Q σ H
def K0 (t:TG)(u:TGs):TGs:=fun vs σ H Q=> ∃v r,vs=v::r/\t v σ H fun σ' H'=>u r σ' H' Q
theorem nk:PGs X [] gNil:=by
 intro pins s σ H vs us Q I r h
 obtain⟨e,h⟩:=h
 subst e
 cases r
 exact assignInOrder_nil ⟨σ,H,I,h⟩
theorem gA {e:Expr}{es:List Expr}{t:TG}{u:TGs}(h1:PG X e t)(h2:PGs X es u)
  (hs:(IS (e::es) X.env).map (·.2)=assign e X.env::(IS es X.env).map (·.2):=by rfl):PGs X (e::es) (K0 t u):=by
 intro pins s σ H vs us Q I r h
 obtain⟨v,vr,e1,h⟩:=h
 subst e1
 cases r with
 |cons r rr=>
  rw[hs]
  refine assignInOrder_cons (thn (h1 pins s σ H _ _ _ I r h) fun _ s1 qz=>?_)
  obtain⟨σ1,H1,I1,q1⟩:=qz
  exact h2 pins s1 σ1 H1 _ _ Q I1 rr q1
def gTup (K:PySem.W.Frag)(n:Nat)(t:TGs):TG:=fun v σ H Q=> ∃a xs,v=.ref a/\SqT K H a xs/\xs.length=n/\t xs σ H Q
theorem qS {es:List Expr}{k:Nat}{t:TGs}{n:Nat}(hc:X.calm=true)(h:PGs X es t)
  (hn:(IS es X.env).length=n:=by rfl)(hst:(IS es X.env).findIdx? (·.1)=none:=by rfl):PG X (.Tuple es k pos) (gTup X.K n t):=by
 intro pins s σ H v u Q I r hw
 obtain⟨a,xs,e1,hq,hl,hw⟩:=hw
 subst e1
 cases r
 obtain⟨its,rv,ht,hz⟩:=I.tuple hq
 refine assign_Tuple_tuple (I.ok.hd hc) ht (by simp [hn,<-hl,rv.length]) hst fun h' hx=>?_
 have I1:Inv X pins σ H {s with heap:=h'}:=I.kept (t':=s.toks) fun b o e=>hx b o (EK (Eu e)) e
 exact h pins _ σ H xs _ Q I1 (by simpa using rv) hw
def gSub (to ti:TE)(t:J5):TG:=fun v σ H Q=>to σ H fun o H1=>ti σ H1 fun i H2=>t o i v H2 fun H3=>Q σ H3
theorem vW {o i:Expr}{to ti:TE}{t:J5}(ho:PE X o to)(hi:PE X i ti)(hs:PSet X t)
  (ha: ∀v,assign (.Subscript o i pos) X.env v=(do
   let ov<-IQ [v] (IG o X.env)
   let iv<-IQ [v,ov] (IG i X.env)
   IP pos
   IQ [v,ov,iv] (setItem ov iv v)
   release [v,ov,iv] []):=by intro _;rfl):PG X (.Subscript o i pos) (gSub to ti t):=by
 intro pins s σ H v u Q I r h
 rw[ha]
 refine Ip (Ix (thn (ho pins s σ H _ I h) fun ov s1 qz=>?_))
 obtain⟨x,H1,I1,r1,q1⟩:=qz
 refine Ip (Ix (thn (hi pins s1 σ H1 _ I1 q1) fun iv s2 qz=>?_))
 obtain⟨y,H2,I2,r2,q2⟩:=qz
 refine Ip (wpAny_standAt (Ip (Ix (thn (hs pins s2 σ H2 x y v ov iv u _ I2 r1 r2 r q2) fun _ s3 qz=>?_))))
 obtain⟨H3,I3,q3⟩:=qz
 exact wpAny_release ⟨σ,H3,I3,q3⟩
def tAsg (te:TE)(g:TG):TS:=fun D σ H=>te σ H fun x H1=>g x σ H1 D.nx
theorem vQ {tg e:Expr}{te:TE}{g:TG}(he:PE X e te)(hg:PG X tg g)(hs:swapsWithSole [tg] e pos.line X.env=pure false:=by rfl)(hw:swappedStores [tg] e X.env=pure none:=by rfl)
  (h1:(IS [tg] X.env).map (·.2)=[assign tg X.env]:=by rfl):PS X (.Assign [tg] e pos) (tAsg te g):=by
 intro pins s σ H D I h
 refine wpAny_Assign_stores (thn (he pins s σ H _ I h) fun v s1 qz=>?_) hs hw
 obtain⟨x,H1,I1,r1,q1⟩:=qz
 rw[h1]
 exact thn (hg pins s1 σ H1 x v _ I1 r1 q1) fun _ s2 q=>q
theorem dj {i:Nat}{x:Str}{e:Expr}{te:TE}{pos':IH}(hN:X.N.Nodup)(hi:X.N[i]?=some x)(hx:Loc X.env.scope x)(he:PE X e te)(hs:swapsWith e (some (.Name x pos')) pos.line X.env=pure false:=by rfl)(hf:X.fn x=true\/X.env.scope.names.lookup x=some .local :=by first|exact .inl rfl|exact .inr rfl|assumption):
  PS X (.Assign [.Name x pos'] e pos) (tAsg te (K1 i)):=by
 intro pins s σ H D I h
 refine wpAny_Assign_Name (thn (he pins s σ H _ I h) fun v s1 qz=>?_) hs
 obtain⟨y,H1,I1,r1,q1⟩:=qz
 exact oC I1 hN hi hx r1 (fun s2 I2=>⟨_,H1,I2,q1⟩) hf
end
section
variable {X:Cx}{pos:IH}
def Aq (c:TT)(tb:TS):TS:=fun D σ H=> ∃W:Nat->St->Hp->Prop,(∃m,W m σ H)/\ ∀m σ H,W m σ H->
 c σ H fun b H1=>if b=true then∃N:St->Hp->Prop,(∀σ' H',N σ' H'-> ∃m',m'<m/\W m' σ' H')/\tb {D with nx:=N,ct:=N,bk:=D.nx} σ H1 else D.nx σ H1
theorem kC {c:Expr}{body:List IK}{tc:TT}{tb:TS}(hp:IT (Io X.prog X.w) X.A X.env X.xe)(hc:PT X c tc)(hb:PSs X body tb):PS X (.While c body [] pos) (Aq tc tb):=by
 intro pins s σ H D I h
 obtain⟨W,⟨m0,w0⟩,turn⟩:=h
 refine wpAny_While (codeAny_whileLoop (fun n s'=> ∃σ' H',Inv X pins σ' H' s'/\W n σ' H') ?_ m0 ⟨σ,H,I,w0⟩)
 rintro n s1 ⟨σ1,H1,I1,w1⟩
 refine IU hp (thn (hc pins s1 σ1 H1 _ I1 (turn n σ1 H1 w1)) fun b s2 qz=>?_)
 obtain⟨H2,I2,q2⟩:=qz
 cases b with
 |true=>
  obtain⟨N,hN,q2⟩:=q2
  rw[if_pos rfl]
  refine IU hp (thn (hb pins s2 σ1 H2 _ I2 q2) fun f s3 q3=>?_)
  cases f with
  |next=>
   obtain⟨σ3,H3,I3,n3⟩:=q3
   obtain⟨m',hm,w3⟩:=hN σ3 H3 n3
   exact⟨m',hm,σ3,H3,I3,w3⟩
  |cont=>
   obtain⟨σ3,H3,I3,n3⟩:=q3
   obtain⟨m',hm,w3⟩:=hN σ3 H3 n3
   exact⟨m',hm,σ3,H3,I3,w3⟩
  |brk=>exact q3
  |ret v=>exact q3
 |false=>
  rw[if_neg EE]
  exact IR ⟨σ1,H2,I2,q2⟩
end
structure It where
 go:Nat->Hp->Prop
 yld:Nat->Hp->V->Hp->Prop
 stop:Nat->Hp->Prop
def JV (X:Cx)(pins:List (Ig×Ij))(H:Hp)(b:Ig):Prop:=
 H b=none/\b≠X.env.locals/\b ∉ X.fs/\(b∈X.ex\/X.s₀.heap.objs.size<=b)/\(∀x c,X.env.cells.lookup x=some c->c≠b)/\ ∀p∈X.pn++pins,p.1≠b
theorem Inv.fpOk {X:Cx}{pins:List (Ig×Ij)}{σ:St}{H H':Hp}{s:Ii}{b:Ig}(I:Inv X pins σ H s)(hb:s.heap.objs.size<=b)(hn:H' b=none):JV X pins H' b:=by
 refine⟨hn,FK (EM I.lt hb),I.nofs hb,.inr (EG I.sz hb),fun x c e z=>?_,fun p hp z=>?_⟩
 ·obtain⟨v,q⟩:=I.cell x c e
  exact absurd (EM q.lt (by rw[z];exact hb)) (Fz _)
 ·exact absurd (EM (Eu (I.pin p hp).1) (by rw[z];exact hb)) (Fz _)
structure J7 (P:Ib)(w:Ic)(K:PySem.W.Frag)(tg:Expr)(J:It)(fp:List Ig)(it:Ig)(tn:Nat->Ie->Prop):Prop where
 mem:it∈fp
 obj: ∀i h,tn i h-> ∀b∈fp,∃o,h.get? b=some o/\ ∀v,o.data≠.cell v
 keep: ∀i h h',tn i h->(∀b∈fp,∀o,h.get? b=some o->h'.get? b=some o)->tn i h'
 item: ∀ (X:Cx),X.prog=P->X.w=w->X.K=K->X.calm=true-> ∀ (i:Nat) (pins:List (Ig×Ij)) (s:Ii) (σ:St) (H:Hp) (E:H0->Ii->Prop),Inv X pins σ H s->(∀b∈fp,JV X pins H b)->tn i s.heap->J.go i H->
  Im (Io P w) X.A (IV (.ref it)) (fun r s1=> ∃u,r=some u/\
   Im (Io P w) X.A (IW tg (.ref it) u) (fun _ s2=> ∃x H',Inv X pins σ H' s2/\RelV x u/\J.yld i H x H'/\tn (i+1) s2.heap/\ ∀b∈fp,H' b=none) E s1) E s
 done: ∀ (X:Cx),X.prog=P->X.w=w->X.K=K->X.calm=true-> ∀ (i:Nat) (pins:List (Ig×Ij)) (s:Ii) (σ:St) (H:Hp) (E:H0->Ii->Prop),Inv X pins σ H s->(∀b∈fp,JV X pins H b)->tn i s.heap->J.stop i H->
  Im (Io P w) X.A (IV (.ref it)) (fun r s1=>r=none/\Inv X pins σ H s1) E s
 self: ∀ (A:Ik) (i:Nat) (s:Ii) (Q:H0->Ii->Prop) (E:H0->Ii->Prop),tn i s.heap->Q (.ref it) s->Im (Io P w) A (pyIter (.ref it)) Q E s
noncomputable abbrev TI:=St->Hp->(It->Hp->Prop)->Prop
def PIE (X:Cx)(pins:List (Ig×Ij))(σ:St)(tg:Expr)(R:It->Hp->Prop)(itv:H0)(s2:Ii):Prop:=
 ∃ (it:Ig) (fp:List Ig) (tn:Nat->Ie->Prop) (J:It) (H':Hp),itv=.ref it/\Inv X pins σ H' s2/\J7 X.prog X.w X.K tg J fp it tn/\tn 0 s2.heap/\(∀b∈fp,JV X pins H' b)/\R J H'
def PI (X:Cx)(tg iter:Expr)(wi:TI):Prop:=
 ∀ (pins:List (Ig×Ij)) (s:Ii) (σ:St) (H:Hp) (R:It->Hp->Prop),Inv X pins σ H s->wi σ H R->
   Im (Io X.prog X.w) X.A (IG iter X.env) (fun v s1=>Im (Io X.prog X.w) X.A (pyIter v) (PIE X pins σ tg R) X.xe s1) X.xe s
theorem sO {M:Model}{A:Ik}{E:H0->Ii->Prop}{s:Ii}{tg:Expr}{it:Ig}{u:H0}{o:Ij}{n:String}{vs:Array H0}{Q:Unit->Ii->Prop}(ho:s.heap.get? it=some o)(hc:o.cls=.type n)(hd:o.data=.fields vs)
  (hn:["enumerate", "zip", "dict_itemiterator", "dict_reverseitemiterator", "odict_iterator", "itertools.zip_longest", "itertools.pairwise"].contains n=false)(hQ:Q () s):Im M A (IW tg (.ref it) u) Q E s:=by
 unfold IW
 cases tg<;>first
  |exact Iu hQ
  |(cases u<;>first
   |exact Iu hQ
   |(refine Ip (wpAny_load ho ?_)
     rw[hc,hd]
     show Im M A (if (["enumerate", "zip", "dict_itemiterator", "dict_reverseitemiterator", "odict_iterator", "itertools.zip_longest", "itertools.pairwise"].contains n && vs[0]?==some (IX _))=true then _ else _) Q E s
     rw[if_neg (by intro h;rw[hn,Bool.false_and] at h;cases h)]
     exact Iu hQ))
def Itl (K:PySem.W.Frag)(a:Ig):It:=
 ⟨fun i H=> ∃xs x,SqL K H a xs/\xs[i]?=some x,fun i H x H'=>H'=H/\ ∀xs,SqL K H a xs->xs[i]?=some x,fun i H=> ∃xs,SqL K H a xs/\xs.length<=i⟩
def Itt (K:PySem.W.Frag)(a:Ig):It:=
 ⟨fun i H=> ∃xs x,SqT K H a xs/\xs[i]?=some x,fun i H x H'=>H'=H/\ ∀xs,SqT K H a xs->xs[i]?=some x,fun i H=> ∃xs,SqT K H a xs/\xs.length<=i⟩
noncomputable def Itr (lo:Int)(n:Nat):It:=⟨fun i _=>i<n,fun i H x H'=>H'=H/\x=.int (lo+i),fun i _=>n<=i⟩
theorem tR {P:Ib}{w:Ic}{K:PySem.W.Frag}{tg:Expr}(a it:Ig):J7 P w K tg (Itl K a) [it] it (fun i h=>h.IsListIter it a i) where
 mem:=by simp
 obj:=fun i h st b hb=>by
  have e:b=it:=by simpa using hb
  subst e
  obtain⟨o,e,c,d⟩:=st
  exact⟨o,e,fun v z=>by rw[d] at z;cases z⟩
 keep:=fun i h h' st k=>st.at fun o e=>k it (by simp) o e
 item:=by
  intro X hP hw hK hc i pins s σ H E I hf st hg
  subst hP hw hK
  obtain⟨xs,x,hq,hx⟩:=hg
  obtain⟨its,rv,p,hz⟩:=I.list hq
  obtain⟨u,hu,ru⟩:=rv.get hx
  obtain⟨f0,f1,f2,f3,f4,f5⟩:=hf it (by simp)
  refine wpAny_pyNext_list_item st p.isList (x:=u) (by simpa using hu) fun h' st' sb=>?_
  have I1:Inv X pins σ H {s with heap:=h'}:=I.turned (t':=s.toks) (fun b o hb e=>(sb.2 b hb).trans e) f0 f1 f3 f4 f5
  obtain⟨o,e,c,d⟩:=id st'
  exact⟨u,rfl,sO (s:={s with heap:=h'}) e c d (by decide) ⟨x,H,I1,ru,⟨rfl,fun ys hy=>by rw[I.list_inj hy hq];exact hx⟩,st',fun b hb=>(hf b hb).1⟩⟩
 done:=by
  intro X hP hw hK hc i pins s σ H E I hf st hg
  subst hP hw hK
  obtain⟨xs,hq,hx⟩:=hg
  obtain⟨its,rv,p,hz⟩:=I.list hq
  obtain⟨f0,f1,f2,f3,f4,f5⟩:=hf it (by simp)
  have hl:=rv.length
  exact wpAny_pyNext_list_end (I.ok.hd hc) st p.isList (by simp;omega) fun h' eb=>⟨rfl,I.turned (t':=s.toks) (fun b o hb e=>eb b o hb e) f0 f1 f3 f4 f5⟩
 self:=fun _ _ _ _ _ st h=>wpAny_pyIter_listiter st h
theorem qk {P:Ib}{w:Ic}{K:PySem.W.Frag}{tg:Expr}(a it:Ig):J7 P w K tg (Itt K a) [it] it (fun i h=>h.IsTupleIter it a i) where
 mem:=by simp
 obj:=fun i h st b hb=>by
  have e:b=it:=by simpa using hb
  subst e
  obtain⟨o,e,c,d⟩:=st
  exact⟨o,e,fun v z=>by rw[d] at z;cases z⟩
 keep:=fun i h h' st k=>st.at fun o e=>k it (by simp) o e
 item:=by
  intro X hP hw hK hc i pins s σ H E I hf st hg
  subst hP hw hK
  obtain⟨xs,x,hq,hx⟩:=hg
  obtain⟨its,rv,p,hz⟩:=I.tuple hq
  obtain⟨u,hu,ru⟩:=rv.get hx
  obtain⟨f0,f1,f2,f3,f4,f5⟩:=hf it (by simp)
  refine wpAny_pyNext_tuple_item st (show s.heap.IsTuple a its.toArray from p) (x:=u) (by simpa using hu) fun h' st' sb=>?_
  have I1:Inv X pins σ H {s with heap:=h'}:=I.turned (t':=s.toks) (fun b o hb e=>(sb.2 b hb).trans e) f0 f1 f3 f4 f5
  obtain⟨o,e,c,d⟩:=id st'
  exact⟨u,rfl,sO (s:={s with heap:=h'}) e c d (by decide) ⟨x,H,I1,ru,⟨rfl,fun ys hy=>by rw[I.tuple_inj hy hq];exact hx⟩,st',fun b hb=>(hf b hb).1⟩⟩
 done:=by
  intro X hP hw hK hc i pins s σ H E I hf st hg
  subst hP hw hK
  obtain⟨xs,hq,hx⟩:=hg
  obtain⟨its,rv,p,hz⟩:=I.tuple hq
  obtain⟨f0,f1,f2,f3,f4,f5⟩:=hf it (by simp)
  have hl:=rv.length
  exact wpAny_pyNext_tuple_end (I.ok.hd hc) st (show s.heap.IsTuple a its.toArray from p) (by simp;omega) fun h' eb=>⟨rfl,I.turned (t':=s.toks) (fun b o hb e=>eb b o hb e) f0 f1 f3 f4 f5⟩
 self:=fun _ _ _ _ _ st h=>wpAny_pyIter_tupleiter st h
theorem ql {P:Ib}{w:Ic}{K:PySem.W.Frag}{tg:Expr}(it:Ig)(lo:Int)(n:Nat):J7 P w K tg (Itr lo n) [it] it (fun i h=>IsRangeIter h it (lo+(i:Nat) * 1) ((n:Int) - (i:Nat)) 1) where
 mem:=by simp
 obj:=fun i h st b hb=>by
  have e:b=it:=by simpa using hb
  subst e
  exact⟨_,st,fun v z=>by
   have z':Data.fields _=Data.cell v:=z
   cases z'⟩
 keep:=fun i h h' st k=>k it (by simp) _ st
 item:=by
  intro X hP hw hK hc i pins s σ H E I hf st hg
  subst hP hw hK
  obtain⟨f0,f1,f2,f3,f4,f5⟩:=hf it (by simp)
  have W:=Walks.range (prog:=X.prog) (w:=X.w) (I.ok.hd hc) it lo 1 n
  refine W.item i s _ _ hg st fun v h' tk hv st' kk=>?_
  obtain⟨t,rfl⟩:=hv
  have I1:Inv X pins σ H {s with heap:=h',toks:=tk}:=I.turned (fun b o hb e=>kk b o (by simpa using hb) e) f0 f1 f3 f4 f5
  refine⟨_,rfl,sO (s:={s with heap:=h',toks:=tk}) (n:= "range_iterator") st' rfl rfl (by decide) ⟨.int (lo+i),H,I1,⟨t,?_⟩,⟨rfl,rfl⟩,st',fun b hb=>(hf b hb).1⟩⟩
  rw[Gk]
 done:=by
  intro X hP hw hK hc i pins s σ H E I hf st hg
  subst hP hw hK
  obtain⟨f0,f1,f2,f3,f4,f5⟩:=hf it (by simp)
  exact wpAny_pyNext_range_end (I.ok.hd hc) st (by have:n<=i:=hg;omega) fun h' eb=>⟨rfl,I.turned (t':=s.toks) (fun b o hb e=>eb b o hb e) f0 f1 f3 f4 f5⟩
 self:=fun _ _ _ _ _ st h=>wpAny_pyIter_rangeiter st h
end
section
section
variable {X:Cx}{tg:Expr}
def iList (K:PySem.W.Frag)(tl:TE):TI:=fun σ H R=>tl σ H fun x H1=> ∃a,x=.ref a/\(∃xs,SqL K H1 a xs)/\R (Itl K a) H1
def iTup (K:PySem.W.Frag)(tl:TE):TI:=fun σ H R=>tl σ H fun x H1=> ∃a,x=.ref a/\(∃xs,SqT K H1 a xs)/\R (Itt K a) H1
theorem yz {l:Expr}{tl:TE}(hl:PE X l tl):PI X tg l (iList X.K tl):=by
 intro pins s σ H R I h
 refine thn (hl pins s σ H _ I h) fun v s1 qz=>?_
 obtain⟨x,H1,I1,r1,q1⟩:=qz
 obtain⟨a,e,⟨xs,hq⟩,q⟩:=q1
 subst e
 cases r1
 obtain⟨its,rv,p,hz⟩:=I1.list hq
 refine wpAny_pyIter_list p.isList ?_
 refine⟨s1.heap.objs.size,[s1.heap.objs.size],_,_,H1,rfl,I1.kept (t':=s1.toks) fun b o e=>Ey _ e,tR a _,⟨_,EJ _ rfl,rfl,rfl⟩,fun b hb=>?_,q⟩
 have e:b=s1.heap.objs.size:=by simpa using hb
 subst e
 exact I1.fpOk (Em _) (I1.hok.fresh (Em _))
theorem AT {l:Expr}{tl:TE}(hl:PE X l tl):PI X tg l (iTup X.K tl):=by
 intro pins s σ H R I h
 refine thn (hl pins s σ H _ I h) fun v s1 qz=>?_
 obtain⟨x,H1,I1,r1,q1⟩:=qz
 obtain⟨a,e,⟨xs,hq⟩,q⟩:=q1
 subst e
 cases r1
 obtain⟨its,rv,p,hz⟩:=I1.tuple hq
 refine IY (show s1.heap.IsTuple a its.toArray from p) ?_
 refine⟨s1.heap.objs.size,[s1.heap.objs.size],_,_,H1,rfl,I1.kept (t':=s1.toks) fun b o e=>Ey _ e,qk a _,⟨_,EJ _ rfl,rfl,rfl⟩,fun b hb=>?_,q⟩
 have e:b=s1.heap.objs.size:=by simpa using hb
 subst e
 exact I1.fpOk (Em _) (I1.hok.fresh (Em _))
theorem oT {pins:List (Ig×Ij)}{σ:St}{H:Hp}{s:Ii}{R:It->Hp->Prop}{E:H0->Ii->Prop}{lo hi:Int}{t u v:Tok}{tk:Nat}(I:Inv X pins σ H s)(h1: -(2 ^ 62)<=lo)(h2:lo<2 ^ 62)(h3: -(2 ^ 62)<=hi)(h4:hi<2 ^ 62)
  (q:R (Itr lo (hi - lo).toNat) H):Im (Io X.prog X.w) X.A (pyIter (.ref s.heap.objs.size)) (PIE X pins σ tg R) E {s with heap:=s.heap.push {cls:=.type "range",data:=.fields #[.int lo t,.int hi u,.int 1 v]},toks:=tk}:=by
 refine wpAny_pyIter_range (IsRange.new ..) (small_one h1 h2 h3 h4) ?_
 have I1:Inv X pins σ H {s with heap:=s.heap.push {cls:=.type "range",data:=.fields #[.int lo t,.int hi u,.int 1 v]},toks:=tk}:=I.kept fun b o e=>Ey _ e
 refine⟨(s.heap.push {cls:=.type "range",data:=.fields #[.int lo t,.int hi u,.int 1 v]}).objs.size,[(s.heap.push {cls:=.type "range",data:=.fields #[.int lo t,.int hi u,.int 1 v]}).objs.size],_,_,H,rfl,
  I1.kept (t':=tk) fun b o e=>Ey _ e,ql _ lo (hi - lo).toNat,?_,fun b hb=>?_,q⟩
 ·have e1:lo+((0:Nat):Int) * 1=lo:=by simp
  have e2:(((hi - lo).toNat:Nat):Int) - ((0:Nat):Int)=H9.Range.rangeSize lo hi 1:=by rw[rangeSize_one];split<;>omega
  show IsRangeIter _ _ (lo+((0:Nat):Int) * 1) ((((hi - lo).toNat:Nat):Int) - ((0:Nat):Int)) 1
  rw[e1,e2]
  exact EJ _ rfl
 ·have e:b=(s.heap.push {cls:=.type "range",data:=.fields #[.int lo t,.int hi u,.int 1 v]}).objs.size:=by simpa using hb
  subst e
  exact I1.fpOk (Em _) (I1.hok.fresh (Em _))
def iRng1 (ta:TA):TI:=fun σ H R=>ta σ H fun vs H1=> ∃j:Int,vs=[.int j]/\ -(2 ^ 62)<=j/\j<2 ^ 62/\R (Itr 0 j.toNat) H1
def iRng2 (ta:TA):TI:=fun σ H R=>ta σ H fun vs H1=> ∃i j:Int,vs=[.int i,.int j]/\(-(2 ^ 62)<=i/\i<2 ^ 62/\ -(2 ^ 62)<=j/\j<2 ^ 62)/\R (Itr i (j - i).toNat) H1
theorem ue {a:Expr}{ta:TA}{p pos:IH}(hg:Gl X "range")(hm:X.mg "range"=none)(ha:PA X [a] ta)(hs:IJ [a] X.env=[(false,IG a X.env)]:=by rfl):PI X tg (.Call (.Name "range" p) [a] [] pos) (iRng1 ta):=by
 intro pins s σ H R I h
 refine Call_ (d6 I hg hm boot_range (PyProof.Rows.callWith_type1 (thn (ha pos pins s σ H _ I h) fun us s1 qz=>?_) hs rfl))
 obtain⟨vs,H1,I1,r1,q1⟩:=qz
 obtain⟨j,e,q1,q2,q⟩:=q1
 subst e
 cases r1 with
 |cons r rr=>
  cases rr
  obtain⟨t,rfl⟩:=r
  exact call_range_1 (oT I1 (by omega) (by omega) q1 q2 (by simpa using q))
theorem ud {a b:Expr}{ta:TA}{p pos:IH}(hg:Gl X "range")(hm:X.mg "range"=none)(ha:PA X [a,b] ta)(hs:IJ [a,b] X.env=[(false,IG a X.env),(false,IG b X.env)]:=by rfl)(hs2:IJ [b] X.env=[(false,IG b X.env)]:=by rfl):
  PI X tg (.Call (.Name "range" p) [a,b] [] pos) (iRng2 ta):=by
 intro pins s σ H R I h
 refine Call_ (d6 I hg hm boot_range (PyProof.Rows.callWith_type1 (thn (ha pos pins s σ H _ I h) fun us s1 qz=>?_) (by rw[hs,hs2]) (by rw[hs2];rfl)))
 obtain⟨vs,H1,I1,r1,q1⟩:=qz
 obtain⟨i,j,e,⟨q1,q2,q3,q4⟩,q⟩:=q1
 subst e
 cases r1 with
 |cons r rr=>
  cases rr with
  |cons r' rr=>
   cases rr
   obtain⟨t,rfl⟩:=r
   obtain⟨t',rfl⟩:=r'
   exact call_range_2 (oT I1 q1 q2 q3 q4 q)
def tFor (wi:TI)(g:TG)(tb:TS):TS:=fun D σ H=>wi σ H fun J H1=> ∃W:Nat->Nat->St->Hp->Prop,(∃m,W 0 m σ H1)/\ ∀i m σ H,W i m σ H->
 (J.stop i H/\D.nx σ H)\/(J.go i H/\ ∃N:St->Hp->Prop,(∀σ' H',N σ' H'-> ∃m',m'<m/\W (i+1) m' σ' H')/\ ∀x H',J.yld i H x H'->g x σ H' fun σ2 H2=>tb {D with nx:=N,ct:=N,bk:=D.nx} σ2 H2)
noncomputable def kG (fp:List Ig)(h:Ie):List (Ig×Ij):=fp.filterMap fun b=>(h.get? b).map fun o=>(b,o)
theorem ir {fp:List Ig}{h:Ie}{b:Ig}{o:Ij}(hb:b∈fp)(e:h.get? b=some o):(b,o)∈kG fp h:=GQ.mpr ⟨b,hb,by rw[e];rfl⟩
theorem ul {fp:List Ig}{h:Ie}{p:Ig×Ij}(hp:p∈kG fp h):p.1∈fp/\h.get? p.1=some p.2:=by
 obtain⟨b,hb,e⟩:=GQ.mp hp
 cases q:h.get? b with
 |none=>rw[q] at e;cases e
 |some o=>
  rw[q] at e
  have e':(b,o)=p:=Option.some.inj e
  subst e'
  exact⟨hb,q⟩
theorem Inv.pinned {pins:List (Ig×Ij)}{σ:St}{H:Hp}{s:Ii}{fp:List Ig}(I:Inv X pins σ H s)(hf: ∀b∈fp,JV X pins H b)(ho: ∀b∈fp,∃o,s.heap.get? b=some o/\ ∀v,o.data≠.cell v):Inv X (pins++kG fp s.heap) σ H s:=
 I.pins_of fun p hp=>(E6.mp hp).elim (fun z=>I.pin p (E3 _ z)) fun z=>by
  obtain⟨hb,e⟩:=ul z
  obtain⟨f0,f1,f2,_⟩:=hf p.1 hb
  obtain⟨o,e',d⟩:=ho p.1 hb
  rw[e] at e';cases e'
  exact⟨e,f0,f1,f2,d⟩
theorem Inv.unpinned {pins pl:List (Ig×Ij)}{σ:St}{H:Hp}{s:Ii}(I:Inv X (pins++pl) σ H s):Inv X pins σ H s:=I.pins_of fun p hp=>I.pin p (E3 _ (FY _ hp))
theorem AO {iter:Expr}{body:List IK}{wi:TI}{g:TG}{tb:TS}{pos:IH}(hp:IT (Io X.prog X.w) X.A X.env X.xe)(hc:X.calm=true)(hi:PI X tg iter wi)(hg:PG X tg g)(hb:PSs X body tb)
  (hs: ∀x,IZ iter X.env x=pure x:=by intro _;rfl):PS X (.For tg iter body [] pos) (tFor wi g tb):=by
 intro pins s σ H D I h
 refine wpAny_For (thn (hi pins s σ H _ I h) fun v s1 h1=>thn h1 fun itv s2 h2=>?_) hs
 obtain⟨it,fp,tn,J,H2,e,I2,T,st2,f2,W,⟨m0,w0⟩,turn⟩:=h2
 subst e
 have stat: ∀ {H':Hp},(∀b∈fp,H' b=none)-> ∀b∈fp,JV X pins H' b:=fun hn b hb=>⟨hn b hb,(f2 b hb).2⟩
 refine codeAny_forLoop_any (fun n s'=> ∃i σ' H',Inv X pins σ' H' s'/\tn i s'.heap/\(∀b∈fp,H' b=none)/\W i n σ' H') ?_ m0 ⟨0,σ,H2,I2,st2,fun b hb=>(f2 b hb).1,w0⟩
 rintro n s3 ⟨i,σ3,H3,I3,st3,fr3,w3⟩
 rcases turn i n σ3 H3 w3 with⟨stop,qn⟩|⟨go,N,hN,step⟩
 ·refine IU hp (thn (T.done X rfl rfl rfl hc i pins s3 σ3 H3 X.xe I3 (stat fr3) st3 stop) fun r s4 qz=>?_)
  obtain⟨hr,I4⟩:=qz
  subst hr
  exact IR ⟨σ3,H3,I4,qn⟩
 ·refine IU hp (thn (T.item X rfl rfl rfl hc i pins s3 σ3 H3 X.xe I3 (stat fr3) st3 go) fun r s4 qz=>?_)
  obtain⟨u,hr,h4⟩:=qz
  subst hr
  refine IU hp (thn h4 fun _ s5 qz=>?_)
  obtain⟨x,H5,I5,r5,y5,st5,fr5⟩:=qz
  have I5':=I5.pinned (stat fr5) (T.obj _ _ st5)
  refine IU hp (thn (hg _ s5 σ3 H5 x u _ I5' r5 (step x H5 y5)) fun _ s6 qz=>?_)
  obtain⟨σ6,H6,I6,q6⟩:=qz
  refine IU hp (thn (hb _ s6 σ6 H6 _ I6 q6) fun f s7 q7=>?_)
  have again: ∀ {σ7:St}{H7:Hp},Inv X (pins++kG fp s5.heap) σ7 H7 s7->N σ7 H7-> ∃m,m<n/\ ∃i σ' H',Inv X pins σ' H' s7/\tn i s7.heap/\(∀b∈fp,H' b=none)/\W i m σ' H':=fun{σ7 H7} I7 n7=>by
   obtain⟨m',hm,w7⟩:=hN σ7 H7 n7
   refine⟨m',hm,i+1,σ7,H7,I7.unpinned,T.keep _ _ _ st5 fun b hb o e=>(I7.pin (b,o) (E3 _ (E3 _ (ir hb e)))).1,fun b hb=>?_,w7⟩
   obtain⟨o,e,d⟩:=T.obj _ _ st5 b hb
   exact (I7.pin (b,o) (E3 _ (E3 _ (ir hb e)))).2.1
  cases f with
  |next=>obtain⟨σ7,H7,I7,n7⟩:=q7;exact again I7 n7
  |cont=>obtain⟨σ7,H7,I7,n7⟩:=q7;exact again I7 n7
  |brk=>obtain⟨σ7,H7,I7,q7⟩:=q7;exact⟨σ7,H7,I7.unpinned,q7⟩
  |ret v=>obtain⟨x7,σ7,H7,I7,r7,q7⟩:=q7;exact⟨x7,σ7,H7,I7.unpinned,r7,q7⟩
end
end
section
noncomputable abbrev R2:=V->V->Hp->VK->Prop
def OpR (X:Cx)(f:H0->H0->Sem H0)(r:R2):Prop:=
 ∀ (pins:List (Ig×Ij)) (s:Ii) (σ:St) (H:Hp) (x y:V) (v u:H0) (Q:VK),Inv X pins σ H s->RelV x v->RelV y u->r x y H Q->
   Im (Io X.prog X.w) X.A (f v u) (EP X pins σ Q) X.xe s
def UnR (X:Cx)(f:H0->Sem H0)(r:V->Hp->VK->Prop):Prop:=
 ∀ (pins:List (Ig×Ij)) (s:Ii) (σ:St) (H:Hp) (x:V) (v:H0) (Q:VK),Inv X pins σ H s->RelV x v->r x H Q->
   Im (Io X.prog X.w) X.A (f v) (EP X pins σ Q) X.xe s
def CallR (X:Cx)(f:H0)(r:List V->Hp->VK->Prop):Prop:=
 ∀ (pins:List (Ig×Ij)) (s:Ii) (σ:St) (H:Hp) (xs:List V) (us:List H0) (Q:VK),Inv X pins σ H s->Vals xs us->r xs H Q->
   Im (Io X.prog X.w) X.A (call f us) (EP X pins σ Q) X.xe s
def tOp (r:R2)(ta tb:TE):TE:=fun σ H Q=>ta σ H fun x H1=>tb σ H1 fun y H2=>r x y H2 Q
def tUn (r:V->Hp->VK->Prop)(ta:TE):TE:=fun σ H Q=>ta σ H fun x H1=>r x H1 Q
def rI (C:Int->Int->Prop)(g:Int->Int->V):R2:=fun x y H Q=> ∃i j,x=.int i/\y=.int j/\C i j/\Q (g i j) H
def rI0 (g:Int->Int->V):R2:=fun x y H Q=> ∃i j,x=.int i/\y=.int j/\Q (g i j) H
def rU (g:Int->V):V->Hp->VK->Prop:=fun x H Q=> ∃i,x=.int i/\Q (g i) H
section
variable {X:Cx}{a b c:Expr}{ta tb tc:TE}{pos:IH}
theorem Kc (ha:PE X a ta)(hb:PE X b tb){pins:List (Ig×Ij)}{s:Ii}{σ:St}{H:Hp}{R:V->V->Hp->Prop}(I:Inv X pins σ H s)
  (h:ta σ H fun x H1=>tb σ H1 fun y H2=>R x y H2){Q:H0->Ii->Prop}{f:H0->H0->Sem H0}
  (hf: ∀v u s2 x y H2,Inv X pins σ H2 s2->RelV x v->RelV y u->R x y H2->Im (Io X.prog X.w) X.A (f v u) Q X.xe s2):
  Im (Io X.prog X.w) X.A (IG a X.env) (fun v s₁=>Im (Io X.prog X.w) X.A (IG b X.env) (fun u s₂=>Im (Io X.prog X.w) X.A (f v u) Q X.xe s₂) X.xe s₁) X.xe s:=by
 refine thn (ha pins s σ H _ I h) fun v s1 qz=>?_
 obtain⟨x,H1,I1,r1,q1⟩:=qz
 refine thn (hb pins s1 σ H1 _ I1 q1) fun u s2 qz=>?_
 obtain⟨y,H2,I2,r2,q2⟩:=qz
 exact hf v u s2 x y H2 I2 r1 r2 q2
theorem sr {op:Operator}{r:R2}(ho:OpR X (I0 op) r)(ha:PE X a ta)(hb:PE X b tb):PE X (.BinOp a op b pos) (tOp r ta tb):=by
 intro pins s σ H Q I h
 exact wpAny_BinOp (Kc ha hb I h fun v u s2 x y H2 I2 rx ry q=>ho pins s2 σ H2 x y v u Q I2 rx ry q)
theorem C2 {op:UnaryOp}{r:V->Hp->VK->Prop}(ho:UnR X (unaryOp op) r)(ha:PE X a ta):PE X (.UnaryOp op a pos) (tUn r ta):=by
 intro pins s σ H Q I h
 exact UnaryOp_ (thn (ha pins s σ H _ I h) fun v s1 ⟨x,H1,I1,r1,q1⟩=>ho pins s1 σ H1 x v Q I1 r1 q1)
theorem opI {f:H0->H0->Sem H0}{C:Int->Int->Prop}{g:Int->Int->Int}
  (rule: ∀ (i j:Int) (t u:Tok) (s:Ii) (Q:H0->Ii->Prop) (E:H0->Ii->Prop),C i j->Q (.int (g i j) s.toks) {s with toks:=s.toks+1}->Im (Io X.prog X.w) X.A (f (.int i t) (.int j u)) Q E s):
  OpR X f (rI C fun i j=>.int (g i j)):=by
 intro pins s σ H x y v u Q I rx ry h
 obtain⟨i,j,rfl,rfl,hc,q⟩:=h
 obtain⟨t,rfl⟩:=rx
 obtain⟨t',rfl⟩:=ry
 exact rule i j t t' s _ _ hc ⟨.int (g i j),H,I.tok _,⟨_,rfl⟩,q⟩
theorem opI0 {f:H0->H0->Sem H0}{g:Int->Int->Int}
  (rule: ∀ (i j:Int) (t u:Tok) (s:Ii) (Q:H0->Ii->Prop) (E:H0->Ii->Prop),Q (.int (g i j) s.toks) {s with toks:=s.toks+1}->Im (Io X.prog X.w) X.A (f (.int i t) (.int j u)) Q E s):
  OpR X f (rI0 fun i j=>.int (g i j)):=by
 intro pins s σ H x y v u Q I rx ry h
 obtain⟨i,j,rfl,rfl,q⟩:=h
 obtain⟨t,rfl⟩:=rx
 obtain⟨t',rfl⟩:=ry
 exact rule i j t t' s _ _ ⟨.int (g i j),H,I.tok _,⟨_,rfl⟩,q⟩
theorem MA {f:H0->H0->Sem H0}{g:Int->Int->Bool}
  (rule: ∀ (i j:Int) (t u:Tok) (s:Ii) (Q:H0->Ii->Prop) (E:H0->Ii->Prop),Q (.bool (g i j)) s->Im (Io X.prog X.w) X.A (f (.int i t) (.int j u)) Q E s):
  OpR X f (rI0 fun i j=>.bl (g i j)):=by
 intro pins s σ H x y v u Q I rx ry h
 obtain⟨i,j,rfl,rfl,q⟩:=h
 obtain⟨t,rfl⟩:=rx
 obtain⟨t',rfl⟩:=ry
 exact rule i j t t' s _ _ ⟨.bl (g i j),H,I,rfl,q⟩
noncomputable def JH (i j:Int):Prop:=0<=j/\j<=1000000/\i.natAbs<2 ^ 64
noncomputable def CMul (i j:Int):Prop:=(-(2 ^ 64)<i/\i<2 ^ 64)\/(-(2 ^ 64)<j/\j<2 ^ 64)
theorem CMul.ok {i j:Int}(h:CMul i j):IntMulOk i j:=by
 rcases h with⟨h1,h2⟩|⟨h1,h2⟩
 ·exact .of_left (intBits_le_64 h1 h2)
 ·exact .of_right (intBits_le_64 h1 h2)
theorem MC:OpR X (I0 .Add) (rI0 fun i j=>.int (i+j)):=opI0 fun _ _ _ _ _ _ _ q=>add_int q
theorem Bb:OpR X (I0 .Sub) (rI0 fun i j=>.int (i - j)):=opI0 fun _ _ _ _ _ _ _ q=>sub_int q
theorem Bf:OpR X (I0 .Mod) (rI (fun _ j=>0<j) fun i j=>.int (i % j)):=opI fun i j _ _ _ _ _ hc q=>by
 have h1:(0:Int)<j:=hc
 exact mod_int' (by omega) (by rw[Int.fmod_eq_emod_of_nonneg i (by omega)];exact q)
theorem Bd:OpR X (I0 .Pow) (rI JH fun i j=>.int (i ^ j.toNat)):=opI fun _ _ _ _ _ _ _ hc q=>pow_int_small hc.1 hc.2.1 hc.2.2 q
theorem unI {f:H0->Sem H0}{g:Int->Int}
  (rule: ∀ (i:Int) (t:Tok) (s:Ii) (Q:H0->Ii->Prop) (E:H0->Ii->Prop),Q (.int (g i) s.toks) {s with toks:=s.toks+1}->Im (Io X.prog X.w) X.A (f (.int i t)) Q E s):
  UnR X f (rU fun i=>.int (g i)):=by
 intro pins s σ H x v Q I rx h
 obtain⟨i,rfl,q⟩:=h
 obtain⟨t,rfl⟩:=rx
 exact rule i t s _ _ ⟨.int (g i),H,I.tok _,⟨_,rfl⟩,q⟩
theorem Am:UnR X (unaryOp .USub) (rU fun i=>.int (-i)):=unI fun _ _ _ _ _ q=>neg_int q
end
noncomputable def NU:V->V->Bool
 |.non,.non=>true|.non,.int _=>true|.int _,.non=>true|.non,.bl _=>true|.bl _,.non=>true|.non,.str _=>true|.str _,.non=>true
 |.int _,.int _=>true|.bl _,.bl _=>true|.str _,.str _=>true|.byt _,.byt _=>true
 |.int _,.str _=>true|.str _,.int _=>true|.bl _,.str _=>true|.str _,.bl _=>true
 |_,_=>false
def rEq:R2:=fun x y H Q=>NU x y=true/\Q (.bl (decide (x=y))) H
def rNe:R2:=fun x y H Q=>NU x y=true/\Q (.bl (!decide (x=y))) H
theorem sU {i j:Int}:decide (V.int i=V.int j)=(i==j):=by
 rw[Fg]
 simp
theorem xw {i j:Bool}:decide (V.bl i=V.bl j)=(i==j):=by
 rw[Fg]
 simp
theorem sS {i j:Str}:decide (V.str i=V.str j)=(i==j):=by
 rw[Fg]
 simp
theorem sV {i j:Array UInt8}:decide (V.byt i=V.byt j)=(i.toList==j.toList):=by
 rw[Fg]
 cases i
 cases j
 simp
section
variable {X:Cx}{a b c:Expr}{ta tb tc:TE}{pos:IH}
theorem aG {pins:List (Ig×Ij)}{σ:St}{H:Hp}{s:Ii}{Q:VK}{k k':Bool}(I:Inv X pins σ H s)(q:Q (.bl k) H)(e:k=k'):EP X pins σ Q (.bool k') s:=by
 subst e
 exact⟨.bl k,H,I,rfl,q⟩
theorem MG:OpR X (IM .Eq) rEq:=by
 intro pins s σ H x y v u Q I rx ry h
 obtain⟨hs,q⟩:=h
 cases x with
 |non=>
  cases rx
  cases y with
  |non=>cases ry;exact PySem.EqNone.eq_none_none (aG I q (by simp))
  |bl j=>cases ry;exact PySem.EqNone.eq_none_bool (aG I q (by simp))
  |int j=>obtain⟨t',rfl⟩:=ry;exact PySem.EqNone.eq_none_int (aG I q (by simp))
  |str j=>obtain⟨t',rfl⟩:=ry;exact PySem.EqNone.eq_none_str (aG I q (by simp))
  |_=>exact absurd (show false=true from hs) EE
 |bl i=>
  cases rx
  cases y with
  |non=>cases ry;exact PySem.EqNone.eq_bool_none (aG I q (by simp))
  |bl j=>cases ry;exact eq_bool (aG I q xw)
  |str j=>obtain⟨t',rfl⟩:=ry;exact PySem.EqMixed.eq_bool_str (aG I q (by simp))
  |_=>exact absurd (show false=true from hs) EE
 |int i=>
  obtain⟨t,rfl⟩:=rx
  cases y with
  |non=>cases ry;exact PySem.EqNone.eq_int_none (aG I q (by simp))
  |int j=>obtain⟨t',rfl⟩:=ry;exact eq_int (aG I q sU)
  |str j=>obtain⟨t',rfl⟩:=ry;exact PySem.EqMixed.eq_int_str (aG I q (by simp))
  |_=>exact absurd (show false=true from hs) EE
 |str i=>
  obtain⟨t,rfl⟩:=rx
  cases y with
  |non=>cases ry;exact PySem.EqNone.eq_str_none (aG I q (by simp))
  |bl j=>cases ry;exact PySem.EqMixed.eq_str_bool (aG I q (by simp))
  |int j=>obtain⟨t',rfl⟩:=ry;exact PySem.EqMixed.eq_str_int (aG I q (by simp))
  |str j=>obtain⟨t',rfl⟩:=ry;exact eq_str (aG I q sS)
  |_=>exact absurd (show false=true from hs) EE
 |byt i=>
  obtain⟨t,rfl⟩:=rx
  cases y with
  |byt j=>obtain⟨t',rfl⟩:=ry;exact PySem.W.eq_bytes (aG I q sV)
  |_=>exact absurd (show false=true from hs) EE
 |_=>cases y<;>exact absurd (show false=true from hs) EE
theorem MN:OpR X (IM .NotEq) rNe:=by
 intro pins s σ H x y v u Q I rx ry h
 obtain⟨hs,q⟩:=h
 cases x with
 |non=>
  cases rx
  cases y with
  |non=>cases ry;exact PySem.EqNone.ne_none_none (aG I q (by simp))
  |bl j=>cases ry;exact PySem.EqNone.ne_none_bool (aG I q (by simp))
  |int j=>obtain⟨t',rfl⟩:=ry;exact PySem.EqNone.ne_none_int (aG I q (by simp))
  |str j=>obtain⟨t',rfl⟩:=ry;exact PySem.EqNone.ne_none_str (aG I q (by simp))
  |_=>exact absurd (show false=true from hs) EE
 |bl i=>
  cases rx
  cases y with
  |non=>cases ry;exact PySem.EqNone.ne_bool_none (aG I q (by simp))
  |bl j=>cases ry;exact ne_bool (aG I q (congrArg not xw))
  |str j=>obtain⟨t',rfl⟩:=ry;exact PySem.EqMixed.ne_bool_str (aG I q (by simp))
  |_=>exact absurd (show false=true from hs) EE
 |int i=>
  obtain⟨t,rfl⟩:=rx
  cases y with
  |non=>cases ry;exact PySem.EqNone.ne_int_none (aG I q (by simp))
  |int j=>obtain⟨t',rfl⟩:=ry;exact ne_int (aG I q (congrArg not sU))
  |str j=>obtain⟨t',rfl⟩:=ry;exact PySem.EqMixed.ne_int_str (aG I q (by simp))
  |_=>exact absurd (show false=true from hs) EE
 |str i=>
  obtain⟨t,rfl⟩:=rx
  cases y with
  |non=>cases ry;exact PySem.EqNone.ne_str_none (aG I q (by simp))
  |bl j=>cases ry;exact PySem.EqMixed.ne_str_bool (aG I q (by simp))
  |int j=>obtain⟨t',rfl⟩:=ry;exact PySem.EqMixed.ne_str_int (aG I q (by simp))
  |str j=>obtain⟨t',rfl⟩:=ry;exact ne_str (aG I q (congrArg not sS))
  |_=>exact absurd (show false=true from hs) EE
 |byt i=>
  obtain⟨t,rfl⟩:=rx
  cases y with
  |byt j=>obtain⟨t',rfl⟩:=ry;exact PySem.W.ne_bytes (aG I q (congrArg not sV))
  |_=>exact absurd (show false=true from hs) EE
 |_=>cases y<;>exact absurd (show false=true from hs) EE
theorem v8:OpR X (IM .Lt) (rI0 fun i j=>.bl (decide (i<j))):=MA fun _ _ _ _ _ _ _ q=>lt_int q
theorem Dd:OpR X (IM .LtE) (rI0 fun i j=>.bl (decide (i<=j))):=MA fun _ _ _ _ _ _ _ q=>le_int q
theorem ma:OpR X (IM .Gt) (rI0 fun i j=>.bl (decide (j<i))):=MA fun _ _ _ _ _ _ _ q=>gt_int q
theorem De:OpR X (IM .GtE) (rI0 fun i j=>.bl (decide (j<=i))):=MA fun _ _ _ _ _ _ _ q=>ge_int q
theorem MI:OpR X (IM .In) (fun x y H Q=> ∃i j,x=.str i/\y=.str j/\Q (.bl (!(H9.Str.occurrences j i 0 j.length 1).isEmpty)) H):=by
 intro pins s σ H x y v u Q I rx ry h
 obtain⟨i,j,rfl,rfl,q⟩:=h
 obtain⟨t,rfl⟩:=rx
 obtain⟨t',rfl⟩:=ry
 exact in_str (aG I q rfl)
theorem Bg:OpR X (IM .Is) (fun x y H Q=>y=.non/\Q (.bl (decide (x=.non))) H):=by
 intro pins s σ H x y v u Q I rx ry h
 obtain⟨rfl,q⟩:=h
 cases ry
 refine is_none_gen (aG I q ?_)
 cases x<;>first
  |(cases rx;rfl)
  |(obtain⟨t,rfl⟩:=rx;rfl)
theorem yJ:OpR X (IM .IsNot) (fun x y H Q=>y=.non/\Q (.bl (!decide (x=.non))) H):=by
 intro pins s σ H x y v u Q I rx ry h
 obtain⟨rfl,q⟩:=h
 cases ry
 refine isnot_none_gen (aG I q ?_)
 cases x<;>first
  |(cases rx;rfl)
  |(obtain⟨t,rfl⟩:=rx;rfl)
theorem OpR.or {f:H0->H0->Sem H0}{r r':R2}(h:OpR X f r)(h':OpR X f r'):OpR X f (fun x y H Q=>r x y H Q\/r' x y H Q):=by
 intro pins s σ H x y v u Q I rx ry q
 rcases q with q|q
 ·exact h pins s σ H x y v u Q I rx ry q
 ·exact h' pins s σ H x y v u Q I rx ry q
theorem d5 (b:Expr){op:CmpOp}(h:op≠.In:=by decide)(h2:op≠.NotIn:=by decide):IN op b=false:=by
 have e1:(op==CmpOp.In)=false:=by cases op<;>first|rfl|exact absurd rfl h
 have e2:(op==CmpOp.NotIn)=false:=by cases op<;>first|rfl|exact absurd rfl h2
 cases b<;>simp [IN,e1,e2]
theorem gQ {op:CmpOp}{r:R2}(ho:OpR X (IM op) r)(ha:PE X a ta)(hb:PE X b tb)(hm:IN op b=false):PE X (.Compare a [op] [b] pos) (tOp r ta tb):=by
 intro pins s σ H Q I h
 exact wpAny_Compare1 (Kc ha hb I h fun v u s2 x y H2 I2 rx ry q=>ho pins s2 σ H2 x y v u Q I2 rx ry q) hm
def OC (t:TE):TT:=fun σ H Q=>t σ H fun x H'=> ∃k,x=.bl k/\Q k H'
theorem dl {op:CmpOp}{r:R2}(ho:OpR X (IM op) r)(ha:PE X a ta)(hb:PE X b tb)(hm:IN op b=false):PT X (.Compare a [op] [b] pos) (OC (tOp r ta tb)):=by
 intro pins s σ H Q I h
 refine wpAny_isTrue_Compare1 (thn (ha pins s σ H _ I h) fun v s1 ⟨x,H1,I1,r1,q1⟩=>thn (hb pins s1 σ H1 _ I1 q1) fun u s2 ⟨y,H2,I2,r2,q2⟩=>
  thn (ho pins s2 σ H2 x y v u _ I2 r1 r2 q2) fun c s3 ⟨z,H3,I3,r3,k,e,q3⟩=>?_) hm
 subst e
 cases r3
 exact Iy ⟨H3,I3,q3⟩
def vp (r r':R2)(ta tb tc:TE):TE:=fun σ H Q=>ta σ H fun x H1=>tb σ H1 fun y H2=>r x y H2 fun z H3=> ∃k,z=.bl k/\
 (if k=true then tc σ H3 fun w' H4=>r' y w' H4 Q else Q (.bl false) H3)
theorem vP {op op':CmpOp}{r r':R2}(ho:OpR X (IM op) r)(ho':OpR X (IM op') r')(ha:PE X a ta)(hb:PE X b tb)(hc:PE X c tc)
  (hm:lastMarks [op,op'] [b,c]=false:=by with_unfolding_all rfl):PT X (.Compare a [op,op'] [b,c] pos) (OC (vp r r' ta tb tc)):=by
 intro pins s σ H Q I h
 refine isTrue_chain (thn (ha pins s σ H _ I h) fun v s1 ⟨x,H1,I1,r1,q1⟩=>test_link (thn (hb pins s1 σ H1 _ I1 q1) fun u s2 ⟨y,H2,I2,r2,q2⟩=>
  thn (ho pins s2 σ H2 x y v u _ I2 r1 r2 q2) fun d s3 ⟨z,H3,I3,r3,k,e,q3⟩=>?_)) hm
 subst e
 cases r3
 refine Iy ?_
 cases k with
 |false=>
  obtain⟨k',e',q'⟩:=q3
  cases e'
  exact ite_ff ⟨H3,I3,q'⟩
 |true=>
  refine ite_tt (test_last (thn (hc pins s3 σ H3 _ I3 q3) fun w' s4 ⟨z',H4,I4,r4,q4⟩=>thn (ho' pins s4 σ H4 y z' u w' _ I4 r2 r4 q4) fun d' s5 qz=>?_))
  obtain⟨z2,H5,I5,r5,k2,e2,q5⟩:=qz
  subst e2
  cases r5
  exact Iy ⟨H5,I5,q5⟩
theorem iu:(sizeLine:Nat)<2 ^ 63:=by rw[sizeLine_eq];decide
theorem ME:OpR X (I0 .Add) (fun x y H Q=> ∃i j,x=.str i/\y=.str j/\i.length+j.length<=sizeLine/\Q (.str (i++j)) H):=by
 intro pins s σ H x y v u Q I rx ry h
 obtain⟨i,j,rfl,rfl,hz,q⟩:=h
 obtain⟨t,rfl⟩:=rx
 obtain⟨t',rfl⟩:=ry
 exact add_str (fun t' tk=>⟨.str (i++j),H,I.tok _,⟨_,rfl⟩,q⟩) hz
theorem OS {x:V}{us:List H0}(r:Vals [x] us): ∃u,us=[u]/\RelV x u:=by
 cases r with
 |cons r1 r2=>cases r2;exact⟨_,rfl,r1⟩
theorem OT {x y:V}{us:List H0}(r:Vals [x,y] us): ∃u w',us=[u,w']/\RelV x u/\RelV y w':=by
 cases r with
 |cons r1 r2=>
  cases r2 with
  |cons r3 r4=>cases r4;exact⟨_,_,rfl,r1,r3⟩
theorem xE:CallR X (.builtin "abs") (fun xs H Q=> ∃i,xs=[.int i]/\Q (.int (if i<0 then -i else i)) H):=by
 intro pins s σ H xs us Q I r h
 obtain⟨i,rfl,q⟩:=h
 obtain⟨u,rfl,t,rfl⟩:=OS r
 exact call_abs_int fun u tk=>⟨.int (if i<0 then -i else i),H,I.tok _,⟨_,rfl⟩,q⟩
theorem Kg:CallR X (.type "int") (fun xs H Q=>(∃i,xs=[.int i]/\Q (.int i) H)\/ ∃k,xs=[.bl k]/\Q (.int (if k then 1 else 0)) H):=by
 intro pins s σ H xs us Q I r h
 rcases h with⟨i,rfl,q⟩|⟨k,rfl,q⟩
 ·obtain⟨u,rfl,t,rfl⟩:=OS r
  exact call_int_int ⟨.int i,H,I,⟨_,rfl⟩,q⟩
 ·obtain⟨u,rfl,r1⟩:=OS r
  cases r1
  exact call_int_bool ⟨.int (if k then 1 else 0),H,I.tok _,⟨_,rfl⟩,q⟩
theorem Kj:CallR X (.type "str") (fun xs H Q=> ∃i,xs=[.int i]/\i.natAbs.log2<1920/\Q (.str (toString i)) H):=by
 intro pins s σ H xs us Q I r h
 obtain⟨i,rfl,hz,q⟩:=h
 obtain⟨u,rfl,t,rfl⟩:=OS r
 exact PySem.P.str_of_int hz ⟨.str _,H,I.tok _,⟨_,rfl⟩,q⟩
end
end
section
structure ObjM (h:Ie)(x dx C:Ig)(mA:Str->Option H0):Prop where
 obj:h.get? x=some (HU C dx)
 ns:h.Ns1 dx mA
 ne:dx≠x
theorem uB {h:Ie}{dx:Ig}{mA:Str->Option H0}(n:h.Ns1 dx mA): ∃od,h.get? dx=some od/\ ∀name,PySem.W.lookIn name od=some (mA name):=by
 obtain⟨o,es,ep,ho,hd,hk,_,hm⟩:=n
 refine⟨o,ho,fun name=>?_⟩
 have e:=hm name
 unfold nsFind findBy at e
 rw[<-Array.find?_toList] at e
 unfold PySem.W.lookIn
 rw[hd]
 dsimp only
 split
 ·rename_i y q
  rw[q] at e
  exact congrArg some e
 ·rename_i q
  rw[q] at e
  have a:es.toList.any (·.refKey)=false:=by
   rw[List.any_eq_false]
   intro y hy
   obtain⟨z,t,hkey⟩:=hk y (Array.mem_toList_iff.mp hy)
   simp [DictEntry.refKey,hkey]
  have a': ¬es.toList.any (·.refKey)=true:=by rw[a];exact EE
  rw[if_neg a']
  exact congrArg some e
theorem ObjM.look {h:Ie}{x dx C:Ig}{mA:Str->Option H0}(I:ObjM h x dx C mA): ∃od,PySem.W.InstAt h x (HU C dx) C (some od)/\ ∀name,PySem.W.lookIn name od=some (mA name):=
 let ⟨od,ho,hl⟩:=uB I.ns
 ⟨od,⟨I.obj,rfl,rfl,ho⟩,hl⟩
section
variable {prog:Ib}{w:Ic}{A:Ik}{E:H0->Ii->Prop}{s:Ii}{K:PySem.W.Frag}{x dx C f:Ig}{mA:Str->Option H0}{name:Str}{v:H0}
theorem zE {expr:Bool}{Q:H0->Ii->Prop}(X:K.In s.heap)(I:ObjM s.heap x dx C mA)(hg:PySem.W.plainGet K C name=true)(hh:PySem.W.hasDictIn K C=true)
  (ha:HV K (.ref C) name=some none)(hv:mA name=some v)(hv':PySem.W.handedIn v=true)(h:Q v {s with toks:=s.toks+1}):
  Im (Io prog w) A (getAttr (.ref x) name expr) Q E s:=by
 obtain⟨od,J,hl⟩:=I.look
 exact PySem.W.get_value X J (PySem.W.plainGet_of hg).1 (PySem.W.findObj_own hh ha rfl (by rw[hl,hv])) hv' h
theorem xh {pl:Sem Bool}{Q:H0×List H0->Ii->Prop}(X:K.In s.heap)(I:ObjM s.heap x dx C mA)(hg:PySem.W.plainGet K C name=true)
  (hf:HV K (.ref C) name=some (some (.ref f)))(ht:PySem.W.isFn K (.ref f)=true)(hv:mA name=none)(h:Q (.ref f,[.ref x]) s):
  Im (Io prog w) A (Ja (.ref x) name pl) Q E s:=by
 obtain⟨od,J,hl⟩:=I.look
 exact PySem.W.method_fn X J (PySem.W.plainGet_of hg).1 (PySem.W.plainGet_of hg).2 hf (beq_iff_eq.mp ht) (by show (PySem.W.lookIn name od).map (·.isSome)=some false;rw[hl,hv];rfl) h
theorem yk {ns:List Str}{Q:Unit->Ii->Prop}(X:K.In s.heap)(I:ObjM s.heap x dx C mA)
  (hs:HV K (.ref C) "__setattr__"=some (some (.builtin "object.__setattr__")))(hp:PySem.W.plainOver K C=true)(ht:PySem.W.takerIn K C name=some none)(hh:PySem.W.hasDictIn K C=true)
  (hw:PySem.Within mA ns)(hsz:ns.length<=sizeLine)
  (h:∀h',ObjM h' x dx C (fun y=>if y=name then some v else mA y)->Fb dx s.heap h'->Q () {s with heap:=h',toks:=s.toks+2}):
  Im (Io prog w) A (setAttr (.ref x) name v) Q E s:=by
 obtain⟨od,J,hl⟩:=I.look
 refine PySem.W.set_plain X J hs (PySem.W.osa_open (s:={s with toks:=s.toks+1}) (r:=none) X J hp ht fun b=>?_)
 obtain⟨cd,hc,hd'⟩:=PySem.W.any_some hh
 have hx:s.heap.get? x=some ⟨.ref C,some dx,.plain,#[]⟩:=I.obj
 refine Ip (Iu (Ip (Ip (wpAny_loadPart hx (Ip (PySem.W.Looks.here (s:={s with toks:=s.toks+1}) (PySem.W.looks_clsIn X hc) ?_))))))
 rw[hd']
 refine Iu (a:=some dx) (Ip (Iu (Ip ?_)))
 refine wpAny_nsSet1 (s:={s with toks:=s.toks+1}) I.ns fun h' hn2 hs2=>?_
 obtain⟨oD,esD,epD,hoD,hdD,hcD⟩:=hn2.count (PySem.Within.cons name v hw)
 refine Ip (wpAny_lookBehind hoD (by rw[hdD];exact pastItsLine_dict (EG hcD (by rw[Es];omega))) ?_)
 exact Iu (h _ ⟨(hs2.2 _ (Ne.symm I.ne)).trans I.obj,hn2,I.ne⟩ hs2)
theorem wP {R:Result->Ii->Prop}{vs:List H0}{kw:List (Str×H0)}(X:K.In s.heap)(hm:makesIn K C=true)
  (hi:HV K (.ref C) "__init__"=some (some (.ref f)))(hf:PySem.W.typeIn K (.ref f)=some (.type "function"))
  (h:codeAny (Io prog w) (A.under (.builtin "type.__call__" ⟨.ref C::vs,kw⟩)) (.call (.ref f) ⟨.ref (s.heap.objs.size+1)::vs,kw⟩) (PySem.W.InitBack (s.heap.objs.size+1) R)
    {s with heap:=(s.heap.push HW).push (HU C s.heap.objs.size)}):
  codeAny (Io prog w) A (.call (.ref C) ⟨vs,kw⟩) R s:=by
 obtain⟨hh,g,d,t,os⟩:=s
 exact PySem.W.make_core (PySem.W.makes_of X hm) (PySem.W.looks_findIn X hi) (fun self=>PySem.W.bind_fn X self hf) (.inl rfl) h
end
noncomputable def Nh (f:Str)(v:V):List (Str×V)->List (Str×V)
 |[]=>[(f,v)]
 |(g,x)::r=>if g=f then (g,v)::r else (g,x)::Nh f v r
theorem cE (f g:Str)(v:V): ∀fs:List (Str×V),(Nh f v fs).lookup g=if g=f then some v else fs.lookup g
 |[]=>by
  show Fn g [(f,v)]=_
  by_cases h:g=f
  ·have hb:(g==f)=true:=beq_iff_eq.mpr h
   simp only[Fn,hb,if_pos h]
  ·have hb:(g==f)=false:=beq_eq_false_iff_ne.mpr h
   simp only[Fn,hb,if_neg h]
 |(k,x)::r=>by
  have ih:=cE f g v r
  rw[show Nh f v ((k,x)::r)=(if k=f then (k,v)::r else (k,x)::Nh f v r) from rfl]
  by_cases hk:k=f
  ·rw[if_pos hk]
   by_cases h:g=k
   ·have hb:(g==k)=true:=beq_iff_eq.mpr h
    simp only[Fn,hb,if_pos (h.trans hk)]
   ·have hb:(g==k)=false:=beq_eq_false_iff_ne.mpr h
    simp only[Fn,hb,if_neg (fun e:g=f=>h (e.trans hk.symm))]
  ·rw[if_neg hk]
   by_cases h:g=k
   ·have hb:(g==k)=true:=beq_iff_eq.mpr h
    simp only[Fn,hb,if_neg (fun e:g=f=>hk (h.symm.trans e))]
   ·have hb:(g==k)=false:=beq_eq_false_iff_ne.mpr h
    simp only[Fn,hb]
    exact ih
theorem jz (f:Str)(v:V): ∀fs:List (Str×V),f∈(Nh f v fs).map (·.1)/\ ∀g,g∈fs.map (·.1)->g∈(Nh f v fs).map (·.1)
 |[]=>⟨by simp [Nh],fun g h=>by simp at h⟩
 |(k,x)::r=>by
  obtain⟨i1,i2⟩:=jz f v r
  rw[show Nh f v ((k,x)::r)=(if k=f then (k,v)::r else (k,x)::Nh f v r) from rfl]
  by_cases hk:k=f
  ·rw[if_pos hk]
   subst hk
   exact⟨by simp,fun g h=>by simpa using h⟩
  ·rw[if_neg hk]
   refine⟨?_,fun g h=>?_⟩
   ·rw[Er]
    exact EA _ i1
   ·rw[Er] at h ⊢
    rcases En.mp h with e|e
    ·exact En.mpr (.inl e)
    ·exact EA _ (i2 g e)
theorem jF (f:Str)(v:V): ∀fs:List (Str×V),(Nh f v fs).length<=fs.length+1
 |[]=>by simp [Nh]
 |(k,x)::r=>by
  have ih:=jF f v r
  rw[show Nh f v ((k,x)::r)=(if k=f then (k,v)::r else (k,x)::Nh f v r) from rfl]
  by_cases hk:k=f
  ·rw[if_pos hk,Es,Es];omega
  ·rw[if_neg hk,Es,Es];omega
theorem RelO.some_of {v:V}{o:Option H0}(r:RelO (some v) o): ∃u,o=some u/\RelV v u:=by
 cases o with
 |none=>exact (show False from r).elim
 |some u=>exact⟨u,rfl,r⟩
theorem RelO.none_of {o:Option H0}(r:RelO none o):o=none:=by
 cases o with
 |none=>rfl
 |some u=>exact (show False from r).elim
theorem uO {v:V}{u:H0}(r:RelV v u):PySem.W.handedIn u=true:=by
 cases v with
 |non=>cases (show u=H0.none from r);rfl
 |bl b=>cases (show u=H0.bool b from r);rfl
 |int i=>obtain⟨t,e⟩:=(show∃t,u=H0.int i t from r);cases e;rfl
 |str x=>obtain⟨t,e⟩:=(show∃t,u=H0.str x t from r);cases e;rfl
 |byt b=>obtain⟨t,e⟩:=(show∃t,u=H0.bytes b t from r);cases e;rfl
 |flt b=>obtain⟨t,e⟩:=(show∃t,u=H0.float b t from r);cases e;rfl
 |ref a=>cases (show u=H0.ref a from r);rfl
 |ty n=>cases (show u=H0.type n from r);rfl
section
variable {P:Ib}{w:Ic}{H H':Hp}{h h':Ie}{a C dx:Ig}{fs fs':List (Str×V)}
theorem jY (hok:HOk P w H h)(e:H a=some (.ins C dx fs)): ∃mA,ObjM h a dx C mA/\(∀f,RelO (fs.lookup f) (mA f))/\PySem.Within mA (fs.map (·.1))/\fs.length<=1000/\H dx=some (.own a):=by
 obtain⟨d,z,ne,ob,mA,n,r,q⟩:=(show ObjOk P w H h a (.ins C dx fs) from hok a _ e)
 exact⟨mA,⟨ob,n,ne⟩,r,q,z,d⟩
end
structure Cls (K:PySem.W.Frag)(C:Ig):Prop where
 pg:PySem.W.plainGet K C Str.empty=true
 hd:PySem.W.hasDictIn K C=true
 po:PySem.W.plainOver K C=true
 sa:HV K (.ref C) "__setattr__"=some (some (.builtin "object.__setattr__"))
theorem Cls.get {K:PySem.W.Frag}{C:Ig}(c:Cls K C)(f:Str):PySem.W.plainGet K C f=true:=c.pg
noncomputable def NoAttr (K:PySem.W.Frag)(C:Ig)(f:Str):Prop:=HV K (.ref C) f=some none
theorem NoAttr.taker {K:PySem.W.Frag}{C:Ig}{f:Str}(n:NoAttr K C f):PySem.W.takerIn K C f=some none:=by
 unfold PySem.W.takerIn
 rw[show HV K (.ref C) f=some none from n]
 rfl
structure JY (K:PySem.W.Frag)(C:Ig)(m:Str)(f:Ig):Prop where
 at_:HV K (.ref C) m=some (some (.ref f))
 fn:PySem.W.isFn K (.ref f)=true
 kp:HX K (.ref f)=true
section
variable {X:Cx}{pins:List (Ig×Ij)}{σ:St}{H:Hp}{s:Ii}{a C dx:Ig}{fs:List (Str×V)}{f:Str}{v:V}{A:Ik}{E:H0->Ii->Prop}
theorem la {b:Bool}{Q:H0->Ii->Prop}(I:Inv X pins σ H s)(e:H a=some (.ins C dx fs))(c:Cls X.K C)(n:NoAttr X.K C f)(l:fs.lookup f=some v)
  (h:∀u s',Inv X pins σ H s'->RelV v u->Q u s'):Im (Io X.prog X.w) A (getAttr (.ref a) f b) Q E s:=by
 obtain⟨mA,O,r,_,_,_⟩:=jY I.hok e
 obtain⟨u,hu,ru⟩:=RelO.some_of (v:=v) (o:=mA f) (by rw[<-l];exact r f)
 exact zE I.kIn O (c.get f) c.hd n hu (uO ru) (h u _ (I.tok _) ru)
theorem iy {m:Str}{g:Ig}{pl:Sem Bool}{Q:H0×List H0->Ii->Prop}(I:Inv X pins σ H s)(e:H a=some (.ins C dx fs))(c:Cls X.K C)(k:JY X.K C m g)(l:fs.lookup m=none)
  (h:Q (.ref g,[.ref a]) s):Im (Io X.prog X.w) A (Ja (.ref a) m pl) Q E s:=by
 obtain⟨mA,O,r,_,_,_⟩:=jY I.hok e
 have hn:mA m=none:=RelO.none_of (by rw[<-l];exact r m)
 exact xh I.kIn O (c.get m) k.at_ k.fn hn h
theorem kq {y:V}{u:H0}{Q:Unit->Ii->Prop}(I:Inv X pins σ H s)(e:H a=some (.ins C dx fs))(c:Cls X.K C)(n:NoAttr X.K C f)(hl:fs.length<1000)(ry:RelV y u)
  (h:∀s',Inv X pins σ (upd H a (.ins C dx (Nh f y fs))) s'->Q () s'):Im (Io X.prog X.w) A (setAttr (.ref a) f u) Q E s:=by
 obtain⟨mA,O,r,wi,_,ho⟩:=jY I.hok e
 have hz:(fs.map (·.1)).length<=sizeLine:=by rw[El,sizeLine_eq];omega
 refine yk I.kIn O c.sa c.po n.taker c.hd wi hz fun h' O' sb=>h _ ?_
 have hd: ∃o,h'.get? dx=some o:=let ⟨o,_,_,e',_⟩:=O'.ns;⟨o,e'⟩
 refine I.write (x:=a) (e:=dx) (by rw[e];exact True.intro) (.inr ho) (fun b q hb z=>(sb.2 b hb).trans z) hd ?_
 refine⟨by rw[af O.ne];exact ho,?_,O.ne,O'.obj,_,O'.ns,fun g=>?_,fun g hg=>?_⟩
 ·have:=jF f y fs;omega
 ·show RelO ((Nh f y fs).lookup g) (if g=f then some u else mA g)
  rw[cE]
  by_cases q:g=f
  ·rw[if_pos q,if_pos q];exact ry
  ·rw[if_neg q,if_neg q];exact r g
 ·by_cases q:g=f
  ·rw[q];exact (jz f y fs).1
  ·refine (jz f y fs).2 g (wi g fun z=>hg ?_)
   show (if g=f then some u else mA g)=none
   rw[if_neg q];exact z
theorem Inv.made (I:Inv X pins σ H s):Inv X pins σ (upd (upd H s.heap.objs.size (.own (s.heap.objs.size+1))) (s.heap.objs.size+1) (.ins C s.heap.objs.size []))
  {s with heap:=(s.heap.push HW).push (HU C s.heap.objs.size)}:=by
 have e1:(s.heap.push HW).get? s.heap.objs.size=some HW:=EJ s.heap rfl
 have e2:((s.heap.push HW).push (HU C s.heap.objs.size)).get? (s.heap.objs.size+1)=some (HU C s.heap.objs.size):=by
  have:=EJ (s.heap.push HW) (o:=HU C s.heap.objs.size) rfl
  rwa[E7] at this
 have e3:(s.heap.push HW).Ns s.heap.objs.size (fun _=>none):=⟨HW,#[],_,e1,rfl,(fun e he=>absurd he (by simp)),fun _=>rfl⟩
 have I1:=I.laid (a:=s.heap.objs.size) (o:=.own (s.heap.objs.size+1)) (h':=s.heap.push HW) (t':=s.toks) (fun b u q=>Ey _ q) (Em _) ⟨_,e1⟩
 refine I1.laid (a:=s.heap.objs.size+1) (o:=.ins C s.heap.objs.size []) (t':=s.toks) (fun b u q=>Ey _ q) (FO (E7 _ _)) ?_
 have ne:s.heap.objs.size≠s.heap.objs.size+1:=EK (GR _)
 refine⟨by rw[af ne,aq],EI _,ne,e2,fun _=>none,(Ie.Ns1.of_empty e3).at fun o q=>Ey _ q,fun _=>True.intro,fun y hy=>absurd rfl hy⟩
theorem zV {prog:Ib}{w:Ic}{env:Env}{e:Expr}{f:Str}{pos:IH}{s:Ii}{Q:H0->Ii->Prop}(hb:Jb e f env (IG e env)=IG e env)
  (h:Im (Io prog w) A (IG e env) (fun o s₁=>Im (Io prog w) A (getAttr o f true) Q E s₁) E s):Im (Io prog w) A (IG (.Attribute e f pos) env) Q E s:=
 Attribute_any_ h (by rw[arm_eval_Attribute,hb])
end
def tFld (K:PySem.W.Frag)(ta:TE)(f:Str):TE:=fun σ H Q=>ta σ H fun x H1=> ∃a C dx fs v,x=.ref a/\H1 a=some (.ins C dx fs)/\Cls K C/\NoAttr K C f/\fs.lookup f=some v/\Q v H1
def sFld (K:PySem.W.Frag)(ta tv:TE)(f:Str):TS:=fun D σ H=>tv σ H fun y H1=>ta σ H1 fun x H2=> ∃a C dx fs,x=.ref a/\H2 a=some (.ins C dx fs)/\Cls K C/\NoAttr K C f/\fs.length<1000/\
 D.nx σ (upd H2 a (.ins C dx (Nh f y fs)))
def InOp (X:Cx)(op:Operator)(rd:V->V->Hp->VK->Prop):Prop:=
 ∀ (pins:List (Ig×Ij)) (s:Ii) (σ:St) (H:Hp) (x y:V) (u v:H0) (Q:VK),Inv X pins σ H s->RelV x u->RelV y v->rd x y H Q->Im (Io X.prog X.w) X.A (inplaceOp op u v) (EP X pins σ Q) X.xe s
def yq (K:PySem.W.Frag)(ta tv:TE)(rd:V->V->Hp->VK->Prop)(f:Str):TS:=fun D σ H=>ta σ H fun x H1=> ∃a C dx fs v,x=.ref a/\H1 a=some (.ins C dx fs)/\Cls K C/\NoAttr K C f/\fs.lookup f=some v/\
 tv σ H1 fun y H2=>rd v y H2 fun z H3=> ∃dx' fs',H3 a=some (.ins C dx' fs')/\fs'.length<1000/\D.nx σ (upd H3 a (.ins C dx' (Nh f z fs')))
section
variable {X:Cx}{o e value:Expr}{f:Str}{pos pos' tpos:IH}{ta tv:TE}
theorem eR (he:PE X e ta)(hb:Jb e f X.env (IG e X.env)=IG e X.env):PE X (.Attribute e f pos) (tFld X.K ta f):=by
 intro pins s σ H Q I h
 refine zV hb (thn (he pins s σ H _ I h) fun u s1 qz=>?_)
 obtain⟨x,H1,I1,rx,a,C,dx,fs,v,ex,ea,c,n,l,q⟩:=qz
 subst ex
 obtain rfl:u=H0.ref a:=rx
 exact la I1 ea c n l fun u' s2 I2 ru=>⟨v,H1,I2,ru,q⟩
theorem qO (ha:PE X o ta)(hv:PE X value tv)(hs:swapsWith value (some (.Attribute o f pos')) pos.line X.env=pure false):PS X (.Assign [.Attribute o f pos'] value pos) (sFld X.K ta tv f):=by
 intro pins s σ H D I h
 refine plainObj_wpAny_Assign_Attribute (thn (hv pins s σ H _ I h) fun u s1 ⟨y,H1,I1,ry,q⟩=>thn (ha pins s1 σ H1 _ I1 q) fun ov s2 qz=>?_) hs
 obtain⟨x,H2,I2,rx,a,C,dx,fs,ex,ea,c,n,l,q2⟩:=qz
 subst ex
 obtain rfl:ov=H0.ref a:=rx
 exact kq I2 ea c n l ry fun s3 I3=>⟨σ,_,I3,q2⟩
theorem l7 {op:Operator}{rd:V->V->Hp->VK->Prop}(ha:PE X o ta)(hv:PE X value tv)(hop:InOp X op rd):PS X (.AugAssign (.Attribute o f tpos) op value pos) (yq X.K ta tv rd f):=by
 intro pins s σ H D I h
 refine wpAny_AugAssign_AttributeAny (thn (ha pins s σ H _ I h) fun ov s1 qz=>?_)
 obtain⟨x,H1,I1,rx,a,C,dx,fs,v,ex,ea,c,n,l,q⟩:=qz
 subst ex
 obtain rfl:ov=H0.ref a:=rx
 refine la I1 ea c n l fun u s2 I2 ru=>thn (hv pins s2 σ H1 _ I2 q) fun w3 s3 ⟨y,H2,I3,ry,q3⟩=>thn (hop pins s3 σ H2 v y u w3 _ I3 ru ry q3) fun w4 s4 qz=>?_
 obtain⟨z,H3,I4,rz,dx',fs',ea',l',q4⟩:=qz
 exact kq I4 ea' c n l' rz fun s5 I5=>⟨σ,_,I5,q4⟩
def rAdd:V->V->Hp->VK->Prop:=fun x y H Q=> ∃i j,x=.int i/\y=.int j/\Q (.int (i+j)) H
theorem xa:InOp X .Add rAdd:=by
 rintro pins s σ H x y u v Q I rx ry ⟨i,j,rfl,rfl,q⟩
 obtain⟨t,rfl⟩:=(show∃t,u=H0.int i t from rx)
 obtain⟨t',rfl⟩:=(show∃t',v=H0.int j t' from ry)
 exact PyProof.Rows.iadd_int ⟨.int (i+j),H,I.tok _,⟨_,rfl⟩,q⟩
theorem Af {pl:Sem Bool}{m:Str}{apos:IH}{args:List Expr}{pins:List (Ig×Ij)}{s:Ii}{σ:St}{H:Hp}{Q:H0->Ii->Prop}{te:TE}(he:PE X e te)(I:Inv X pins σ H s)
  (h:te σ H fun x H1=> ∃a C dx fs g,x=.ref a/\H1 a=some (.ins C dx fs)/\Cls X.K C/\JY X.K C m g/\fs.lookup m=none/\
    ∀s1,Inv X pins σ H1 s1->Im (Io X.prog X.w) X.A (callWith pos (.ref g) [.ref a] (II pos (IJ args X.env)) (Jc pos (Jd [] X.env))) Q X.xe s1)
  (ht:IG (.Call (.Attribute e m apos) args [] pos) X.env=(do
   let ov<-IG e X.env
   IP apos.atName
   let (f,first)<-IQ [ov] (Ja ov m pl)
   callWith pos f first (II pos (IJ args X.env)) (Jc pos (Jd [] X.env)))):
  Im (Io X.prog X.w) X.A (IG (.Call (.Attribute e m apos) args [] pos) X.env) Q X.xe s:=by
 refine PySem.W.methodCall_KW (pl:=pl) (thn (he pins s σ H _ I h) fun u s1 qz=>?_) ht
 obtain⟨x,H1,I1,rx,a,C,dx,fs,g,ex,ea,c,k,l,q⟩:=qz
 subst ex
 obtain rfl:u=H0.ref a:=rx
 exact iy I1 ea c k l (q s1 I1)
end
section
variable {X:Cx}{pins:List (Ig×Ij)}{σ:St}{H:Hp}{s:Ii}{A:Ik}{E:H0->Ii->Prop}{Q:H0->Ii->Prop}{c:H0}{b:Bool}
inductive J8 (K:PySem.W.Frag)(H:Hp):V->H0->Prop where
 |non:J8 K H .non (.type "NoneType")
 |bl (x:Bool):J8 K H (.bl x) (.type "bool")
 |int (i:Int):J8 K H (.int i) (.type "int")
 |str (x:Str):J8 K H (.str x) (.type "str")
 |flt (x:UInt64):J8 K H (.flt x) (.type "float")
 |lst {a:Ig}{xs:List V} (e:H a=some (.lst xs)):J8 K H (.ref a) (.type "list")
 |frz {a:Ig}{o:Ij}{xs:List V} (e:H a=some (.frz o (.lst xs))):J8 K H (.ref a) (.type "list")
 |tup {a:Ig}{xs:List V} (e:H a=some (.tup xs)):J8 K H (.ref a) (.type "tuple")
 |dK {a:Ig}{kvs:List (Key×V)} (e:H a=some (.dK kvs)):J8 K H (.ref a) (.type "dict")
 |dT {a:Ig}{kvs:List (List Key×V)} (e:H a=some (.dT kvs)):J8 K H (.ref a) (.type "dict")
 |ins {a C dx:Ig}{fs:List (Str×V)} (e:H a=some (.ins C dx fs)) (cl:Cls K C) (ha:HV K (.ref C) "__class__"=some (some (.builtin "object.__class__")))
  (hn:PySem.W.specialIn K (.builtin "object.__class__") "__get__"=some (some (.builtin "getset_descriptor.__get__"))) (htk:PySem.W.takesIn K (.builtin "object.__class__")=some true)
  (hm:PySem.W.mroIn K C (.type "object")=some true):J8 K H (.ref a) (.ref C)
theorem uI {x:V}{u t:H0}(I:Inv X pins σ H s)(rx:RelV x u)(ty:J8 X.K H x t)(e:kitOne X.K t c=some b)(h:∀tk,Q (.bool b) {s with toks:=tk}):
  Im (Io X.prog X.w) A (call (.builtin "isinstance") [u,c]) Q E s:=by
 cases ty with
 |non=>cases (show u=H0.none from rx);exact HY PySem.W.kitx_none I.kIn True.intro e (fun z=>nomatch z) h
 |bl y=>cases (show u=H0.bool y from rx);exact HY PySem.W.kitx_bool I.kIn True.intro e (fun z=>nomatch z) h
 |int i=>obtain⟨t,q⟩:=(show∃t,u=H0.int i t from rx);cases q;exact HY PySem.W.kitx_int I.kIn True.intro e (fun z=>nomatch z) h
 |str y=>obtain⟨t,q⟩:=(show∃t,u=H0.str y t from rx);cases q;exact HY PySem.W.kitx_str I.kIn True.intro e (fun z=>nomatch z) h
 |flt y=>obtain⟨t,q⟩:=(show∃t,u=H0.float y t from rx);cases q;exact HY PySem.W.kitx_float I.kIn True.intro e (fun z=>nomatch z) h
 | @lst a xs ea=>
   cases (show u=H0.ref a from rx)
   obtain⟨_,_,n,_,h1⟩:=(show ObjOk X.prog X.w H s.heap a (.lst xs) from I.hok a _ ea)
   exact HY PySem.W.kitx_list I.kIn ⟨_,h1,rfl⟩ e (fun z=>nomatch z) h
 | @frz a ob xs ea=>
   cases (show u=H0.ref a from rx)
   obtain⟨_,_,_,n,_,h1⟩:=(show ObjOk X.prog X.w H s.heap a (.frz ob (.lst xs)) from I.hok a _ ea)
   exact HY PySem.W.kitx_list I.kIn ⟨_,h1,rfl⟩ e (fun z=>nomatch z) h
 | @tup a xs ea=>
   cases (show u=H0.ref a from rx)
   obtain⟨_,_,_,p⟩:=(show ObjOk X.prog X.w H s.heap a (.tup xs) from I.hok a _ ea)
   obtain⟨o,h1,h2,_⟩:=p.1
   exact HY PySem.W.kitx_tuple I.kIn ⟨o,h1,h2⟩ e (fun z=>nomatch z) h
 | @dK a kvs ea=>
   cases (show u=H0.ref a from rx)
   obtain⟨_,_,vs,_,p⟩:=(show ObjOk X.prog X.w H s.heap a (.dK kvs) from I.hok a _ ea)
   obtain⟨o,es,ep,h1,h2,_⟩:=p
   exact HY PySem.W.kitx_dict I.kIn ⟨o,h1,h2.1⟩ e (fun z=>nomatch z) h
 | @dT a kvs ea=>
   cases (show u=H0.ref a from rx)
   obtain⟨_,_,xs,_,o,es,ep,h1,h2,_⟩:=(show ObjOk X.prog X.w H s.heap a (.dT kvs) from I.hok a _ ea)
   exact HY PySem.W.kitx_dict I.kIn ⟨o,h1,h2.1⟩ e (fun z=>nomatch z) h
 | @ins a C dx fs ea cl ha hn htk hm=>
   cases (show u=H0.ref a from rx)
   obtain⟨mA,O,_⟩:=jY I.hok ea
   obtain⟨od,J,_⟩:=O.look
   exact HY (PySem.W.kitx_own (cl.get _) cl.hd ha hn htk hm) I.kIn J e (fun z=>nomatch z) h
end
end
section
structure Room (k:Nat)(A:Ik):Prop where
 hd:A.handled=none
 dp:A.depth+3 * k+5<recursionLimit
 un:A.units+16 * k+200<Il
theorem Room.mono {j k:Nat}{A:Ik}(r:Room k A)(h:j<=k):Room j A:=⟨r.hd,by have:=r.dp;omega,by have:=r.un;omega⟩
theorem Room.deeper {k:Nat}{A:Ik}(r:Room (k+1) A)(env:Env):Room k (A.deeper env):=
 ⟨r.hd,by have:=r.dp;show A.depth+1+3 * k+5<_;omega,by have:=r.un;show A.units+3+16 * k+200<_;omega⟩
theorem rj {A:Ik}{C:Ig}{us:List H0}{kw:List (Str×H0)}:(A.under (.builtin "type.__call__" ⟨.ref C::us,kw⟩)).depth=A.depth+1:=by
 first|rfl|simp [Ik.under,Code.weight,Code.isCreation,Code.isGuard,Code.isCaller,Code.frames,Code.isFrame,guardIds]
theorem rh {A:Ik}{C:Ig}{us:List H0}{kw:List (Str×H0)}:(A.under (.builtin "type.__call__" ⟨.ref C::us,kw⟩)).units=A.units+1:=by
 first|rfl|simp [Ik.under,Code.cUnits,Code.frames,Code.isFrame]
theorem Room.make {k:Nat}{A:Ik}(r:Room (k+1) A)(C:Ig)(us:List H0)(kw:List (Str×H0)):Room k (A.under (.builtin "type.__call__" ⟨.ref C::us,kw⟩)):=
 ⟨r.hd,by have:=r.dp;rw[rj];omega,by have:=r.un;rw[rh];omega⟩
theorem Room.depth {k:Nat}{A:Ik}(r:Room k A):A.depth<recursionLimit:=by have:=r.dp;omega
theorem Room.units {k:Nat}{A:Ik}(r:Room k A):A.units+64<Il:=by have:=r.un;omega
def OB:TA:=fun _ H Q=>Q [] H
def Oy (ta:TE)(tr:TA):TA:=fun σ H Q=>ta σ H fun x H1=>tr σ H1 fun xs H2=>Q (x::xs) H2
section
variable {X:Cx}{e:Expr}{es:List Expr}{te:TE}{t:TA}{pos:IH}
theorem MX:PA X [] OB:=fun _ _ _ _ H Q I h=>Calls.spliced_nil ⟨[],H,I,.nil,h⟩
theorem ai (ha:PE X e te)(hr:PA X es t)(hs:IJ (e::es) X.env=(false,IG e X.env)::IJ es X.env:=by rfl):PA X (e::es) (Oy te t):=by
 intro pos pins s σ H Q I h
 rw[hs]
 show Im _ _ (spliced ((false,IG e X.env)::II pos (IJ es X.env))) _ _ s
 refine Calls.spliced_cons (thn (ha pins s σ H _ I h) fun u s1 qz=>?_)
 obtain⟨x,H1,I1,r1,q1⟩:=qz
 exact thn (hr pos pins s1 σ H1 _ I1 q1) fun us s2 ⟨xs,H2,I2,r2,q2⟩=>⟨x::xs,H2,I2,.cons r1 r2,q2⟩
def tTup (t:TA):TE:=fun σ H Q=>t σ H fun xs H1=>xs.length<=sizeLine/\ ∀p,H1 p=none->Q (.ref p) (upd H1 p (.tup xs))
def tLst (t:TA):TE:=fun σ H Q=>t σ H fun xs H1=>xs.length<=sizeLine/\ ∀p,H1 p=none->Q (.ref p) (upd H1 p (.lst xs))
theorem jq {x1}(h:PA X es t):PE X (.Tuple es x1 pos) (tTup t):=by
 intro pins s σ H Q I hq
 refine wpAny_Tuple_spliced (thn (h pos pins s σ H _ I hq) fun us s1 ⟨xs,H1,I1,r,z,q⟩=>⟨by rw[<-r.length];exact z,?_⟩)
 have hf:H1 s1.heap.objs.size=none:=I1.hok.fresh (Em _)
 refine⟨.ref s1.heap.objs.size,upd H1 s1.heap.objs.size (.tup xs),I1.laid (t':=s1.toks) (fun b u e=>Ey _ e) (Em _) ?_,rfl,q _ hf⟩
 exact⟨z,us,r,IsTupD.new _ _⟩
theorem AX (h:PA X es t):PE X (.List es pos) (tLst t):=by
 intro pins s σ H Q I hq
 refine wpAny_List_spliced (thn (h pos pins s σ H _ I hq) fun us s1 ⟨xs,H1,I1,r,z,q⟩=>⟨by rw[<-r.length];exact z,?_⟩)
 have hf:H1 s1.heap.objs.size=none:=I1.hok.fresh (Em _)
 refine⟨.ref s1.heap.objs.size,upd H1 s1.heap.objs.size (.lst xs),I1.laid (t':=s1.toks) (fun b u e=>Ey _ e) (Em _) ?_,rfl,q _ hf⟩
 exact⟨z,us,0,r,EJ _ rfl⟩
end
noncomputable abbrev Sp:=List V->Hp->VK->XK->Prop
noncomputable abbrev CXT:=List Env->Hp->Ii->XK->H0->Ii->Prop
structure Env0 (P:Ib)(w:Ic)(K:PySem.W.Frag)(mg:Str->Option H0)(base:Ie)(A:Ik)(outer:List Env)(s:Ii)(H:Hp):Prop where
 frames:A.frames=some outer
 mod:Mod K mg base
 bs: ∀b o,base.get? b=some o->s.heap.get? b=some o/\H b=none
 bsz:base.objs.size<=s.heap.objs.size
 funs:s.heap.FunFrames base outer
 frf: ∀b∈frs outer,H b=none
 hok:HOk P w H s.heap
 bare:IF s.gens
def CE (outer:List Env)(P:Ib)(w:Ic)(H:Hp)(s:Ii)(Q:VK)(u:H0)(s':Ii):Prop:=
 ∃v H',s'.os=s.os/\IF s'.gens/\Un (frs outer) [] H H' s.heap s'.heap/\HOk P w H' s'.heap/\RelV v u/\Q v H'
def CR (CX:CXT)(outer:List Env)(P:Ib)(w:Ic)(H:Hp)(s:Ii)(Q:VK)(E:XK)(r:Result)(s':Ii):Prop:=
 match r with
 |.ok (.ret u)=>CE outer P w H s Q u s'
 |.ok _=>False
 |.error e=>CX outer H s E e s'
structure FnOk (P:Ib)(w:Ic)(K:PySem.W.Frag)(mg:Str->Option H0)(base:Ie)(CX:CXT)(k:Nat)(f:Ig)(fd:Je)(ps:List Str)(sp:Sp):Prop where
 len: ∀vs H Q E,sp vs H Q E->vs.length=ps.length
 run: ∀ (A:Ik) (outer:List Env) (s:Ii) (H:Hp) (args:Args) (us:List H0) (vs:List V) (Q:VK) (E:XK),Room k A->Env0 P w K mg base A outer s H->BindsTo s fd args (ps.zip us)->Vals vs us->sp vs H Q E->
  codeAny (Io P w) A (.call (.ref f) args) (CR CX outer P w H s Q E) s
theorem FnOk.mono {P:Ib}{w:Ic}{K:PySem.W.Frag}{mg:Str->Option H0}{base:Ie}{CX:CXT}{j k:Nat}{f:Ig}{fd:Je}{ps:List Str}{sp:Sp}(F:FnOk P w K mg base CX j f fd ps sp)(h:j<=k):
 FnOk P w K mg base CX k f fd ps sp:=⟨F.len,fun A outer s H args us vs Q E hr=>F.run A outer s H args us vs Q E (hr.mono h)⟩
theorem FnOk.imp {P:Ib}{w:Ic}{K:PySem.W.Frag}{mg:Str->Option H0}{base:Ie}{CX:CXT}{k:Nat}{f:Ig}{fd:Je}{ps:List Str}{sp sp':Sp}(F:FnOk P w K mg base CX k f fd ps sp)
  (h:∀vs H Q E,sp' vs H Q E->sp vs H Q E):FnOk P w K mg base CX k f fd ps sp':=
 ⟨fun vs H Q E q=>F.len vs H Q E (h _ _ _ _ q),fun A outer s H args us vs Q E hr he hb hv hs=>F.run A outer s H args us vs Q E hr he hb hv (h _ _ _ _ hs)⟩
theorem Env0.make {P:Ib}{w:Ic}{K:PySem.W.Frag}{mg:Str->Option H0}{base:Ie}{A:Ik}{outer:List Env}{s:Ii}{H:Hp}(e:Env0 P w K mg base A outer s H)(C:Ig)(us:List H0)(kw:List (Str×H0)):
 Env0 P w K mg base (A.under (.builtin "type.__call__" ⟨.ref C::us,kw⟩)) outer s H:=⟨by first|exact e.frames|(simpa [Ik.under,Code.envs,Code.isFrame,pushEnvs] using e.frames),e.mod,e.bs,e.bsz,e.funs,e.frf,e.hok,e.bare⟩
section
variable {X:Cx}{pins:List (Ig×Ij)}{σ:St}{H:Hp}{s s':Ii}
theorem Inv.env0 (I:Inv X pins σ H s):Env0 X.prog X.w X.K X.mg X.base X.A X.stack s H:=
 ⟨I.ok.frames,I.ok.mod,I.bs,EG I.ok.bsz I.sz,I.stack,I.stkFree,I.hok,I.bare⟩
theorem Inv.after {Q:VK}{u:H0}(I:Inv X pins σ H s)(h:CE X.stack X.prog X.w H s Q u s'):EP X pins σ Q u s':=by
 obtain⟨v,H',os,bare,un,hok,r,q⟩:=h
 obtain⟨hh,g,d,t,os'⟩:=s'
 obtain rfl:os'=s.os:=os
 exact⟨v,H',I.call (h':=hh) (g':=g) (d':=d) (t':=t) (ch:=[]) un hok bare (fun b z=>absurd z (by simp)),r,q⟩
end
def tCall (sp:Sp)(dvs:List V)(E:XK)(t:TA):TE:=fun σ H Q=>t σ H fun vs H1=>sp (vs++dvs) H1 Q E
def OA (C:Ig)(m:Str)(sp:Sp)(dvs:List V)(E:XK)(ta:TE)(t:TA):TE:=fun σ H Q=>ta σ H fun x H1=> ∃a dx fs,x=.ref a/\H1 a=some (.ins C dx fs)/\fs.lookup m=none/\
 t σ H1 fun vs H2=>sp (x::(vs++dvs)) H2 Q E
def Oz (C:Ig)(sp:Sp)(dvs:List V)(E:XK)(t:TA):TE:=fun σ H Q=>t σ H fun vs H1=> ∀x dx,H1 x=none->H1 dx=none->dx≠x->
 sp (.ref x::(vs++dvs)) (upd (upd H1 dx (.own x)) x (.ins C dx [])) (fun v H2=>v=.non/\Q (.ref x) H2) E
noncomputable def Binds (K:PySem.W.Frag)(fd:Je)(ps:List Str)(ds:List H0):Prop:=
 ∀ (s:Ii) (us:List H0),K.In s.heap->(us++ds).length=ps.length->BindsTo s fd ⟨us,[]⟩ (ps.zip (us++ds))
theorem Binds.all {K:PySem.W.Frag}{fd:Je}{ps:List Str}(h:∀us:List H0,us.length=ps.length->bindArgs fd ⟨us,[]⟩=pure (ps.zip us)):Binds K fd ps []:=fun s us _ hl=>by
 rw[EX] at hl ⊢
 exact .of_eq (h us hl)
def ga (CX:CXT)(X:Cx)(E:XK):Prop:= ∀ (pins:List (Ig×Ij)) (σ:St) (H:Hp) (s:Ii) (e:H0) (s':Ii),Inv X pins σ H s->CX X.stack H s E e s'->X.xe e s'
section
variable {X:Cx}{CX:CXT}{k:Nat}{f C:Ig}{fd:Je}{ps:List Str}{sp:Sp}{dvs:List V}{ds:List H0}{E:XK}{x m:Str}{p pos apos:IH}{e o:Expr}{es:List Expr}{ta:TE}{t:TA}
theorem qK {pins:List (Ig×Ij)}{σ:St}{H:Hp}{s:Ii}{Q:VK}{us:List H0}{vs:List V}(F:FnOk X.prog X.w X.K X.mg X.base CX k f fd ps sp)(hr:Room k X.A)(hb:Binds X.K fd ps ds)(hd:Vals dvs ds)(hx:ga CX X E)
  (I:Inv X pins σ H s)(r:Vals vs us)(h:sp (vs++dvs) H Q E):Im (Io X.prog X.w) X.A (call (.ref f) us) (EP X pins σ Q) X.xe s:=by
 have r2:Vals (vs++dvs) (us++ds):=r.append hd
 have hl:(us++ds).length=ps.length:=by rw[<-r2.length];exact F.len _ _ _ _ h
 refine wpAny_call (Jf (F.run X.A X.stack s H ⟨us,[]⟩ (us++ds) (vs++dvs) Q E hr I.env0 (hb s us I.kIn hl) r2 h) fun r s' hq=>?_)
 cases r with
 |error e=>exact hx pins σ H s e s' I hq
 |ok fl=>
  cases fl with
  |ret u=>exact I.after hq
  |next=>exact False.elim hq
  |brk=>exact False.elim hq
  |cont=>exact False.elim hq
theorem dm (F:FnOk X.prog X.w X.K X.mg X.base CX k f fd ps sp)(hr:Room k X.A)(hg:Gl X x)(hm:X.mg x=some (.ref f))(hk:HX X.K (.ref f)=true)(hb:Binds X.K fd ps ds)(hd:Vals dvs ds)(hx:ga CX X E)
  (ha:PA X (e::es) t)(hdb:(x==("__debug__":Str))=false:=by decide)(he:IJ (e::es) X.env=(false,IG e X.env)::IJ es X.env:=by rfl)(hpl:(II pos (IJ es X.env)).any (·.1)=false:=by rfl):
  PE X (.Call (.Name x p) (e::es) [] pos) (tCall sp dvs E t):=by
 intro pins s σ H Q I h
 refine Jg (iX I hg hm ?_ hdb)
 refine PySem.W.callWith_K (h₀:=X.base) I.ok.mod.kin hk (thn (ha pos pins s σ H _ I h) fun us s1 ⟨vs,H1,I1,r,q⟩=>⟨I1.kIn,?_⟩) he hpl
 exact qK F hr hb hd hx I1 r q
theorem fE {pl:Sem Bool}(he:PE X o ta)(c:Cls X.K C)(hm:JY X.K C m f)(F:FnOk X.prog X.w X.K X.mg X.base CX k f fd ps sp)(hr:Room k X.A)(hb:Binds X.K fd ps ds)(hd:Vals dvs ds)(hx:ga CX X E)(ha:PA X (e::es) t)
  (hst:IJ (e::es) X.env=(false,IG e X.env)::IJ es X.env:=by rfl)(hpl:(II pos (IJ es X.env)).any (·.1)=false:=by rfl)
  (ht:IG (.Call (.Attribute o m apos) (e::es) [] pos) X.env=(do
   let ov<-IG o X.env
   IP apos.atName
   let (f,first)<-IQ [ov] (Ja ov m pl)
   callWith pos f first (II pos (IJ (e::es) X.env)) (Jc pos (Jd [] X.env))):=by rfl):
  PE X (.Call (.Attribute o m apos) (e::es) [] pos) (OA C m sp dvs E ta t):=by
 intro pins s σ H Q I h
 refine PySem.W.methodCall_KW (pl:=pl) (thn (he pins s σ H _ I h) fun u s1 qz=>?_) ht
 obtain⟨x,H1,I1,rx,a,dx,fs,ex,ea,l,q⟩:=qz
 subst ex
 obtain rfl:u=H0.ref a:=rx
 refine iy I1 ea c hm l ?_
 refine PySem.W.callWith_K (first:=[.ref a]) (h₀:=X.base) I.ok.mod.kin hm.kp (thn (ha pos pins s1 σ H1 _ I1 q) fun us s2 ⟨vs,H2,I2,r,q2⟩=>⟨I2.kIn,?_⟩) hst hpl
 exact qK (us:=.ref a::us) (vs:=.ref a::vs) F hr hb hd hx I2 (.cons rfl r) q2
theorem dZ {pl:Sem Bool}(he:PE X o ta)(c:Cls X.K C)(hm:JY X.K C m f)(F:FnOk X.prog X.w X.K X.mg X.base CX k f fd ps sp)(hr:Room k X.A)(hb:Binds X.K fd ps ds)(hd:Vals dvs ds)(hx:ga CX X E)
  (ht:IG (.Call (.Attribute o m apos) [] [] pos) X.env=(do
   let ov<-IG o X.env
   IP apos.atName
   let (f,first)<-IQ [ov] (Ja ov m pl)
   callWith pos f first (II pos (IJ [] X.env)) (Jc pos (Jd [] X.env))):=by rfl):
  PE X (.Call (.Attribute o m apos) [] [] pos) (OA C m sp dvs E ta OB):=by
 intro pins s σ H Q I h
 refine PySem.W.methodCall_KW (pl:=pl) (thn (he pins s σ H _ I h) fun u s1 qz=>?_) ht
 obtain⟨x,H1,I1,rx,a,dx,fs,ex,ea,l,q⟩:=qz
 subst ex
 obtain rfl:u=H0.ref a:=rx
 refine iy I1 ea c hm l ?_
 exact PySem.W.callWith_K0 (first:=[.ref a]) I1.kIn hm.kp (qK (us:=[.ref a]) (vs:=[.ref a]) F hr hb hd hx I1 (.cons rfl .nil) q)
structure Mk (K:PySem.W.Frag)(C f:Ig):Prop where
 makes:makesIn K C=true
 init:HV K (.ref C) "__init__"=some (some (.ref f))
 fn:PySem.W.isFn K (.ref f)=true
 kp:HX K (.ref C)=true
theorem oR {pins:List (Ig×Ij)}{σ:St}{H:Hp}{s:Ii}{Q:VK}{us:List H0}{vs:List V}(M:Mk X.K C f)(F:FnOk X.prog X.w X.K X.mg X.base CX k f fd ps sp)(hr:Room (k+1) X.A)(hb:Binds X.K fd ps ds)(hd:Vals dvs ds)
  (hx:ga CX X E)(I:Inv X pins σ H s)(r:Vals vs us)
  (h:∀x dx,H x=none->H dx=none->dx≠x->sp (.ref x::(vs++dvs)) (upd (upd H dx (.own x)) x (.ins C dx [])) (fun v H2=>v=.non/\Q (.ref x) H2) E):
  Im (Io X.prog X.w) X.A (call (.ref C) us) (EP X pins σ Q) X.xe s:=by
 have hq:=h (s.heap.objs.size+1) s.heap.objs.size (I.hok.fresh (FZ _)) (I.hok.fresh (Em _)) (EK (GR _))
 have I2:=Inv.made (C:=C) I
 have r2:Vals (V.ref (s.heap.objs.size+1)::(vs++dvs)) (H0.ref (s.heap.objs.size+1)::(us++ds)):=.cons rfl (r.append hd)
 have hl:(H0.ref (s.heap.objs.size+1)::us++ds).length=ps.length:=by
  have e:=r2.length
  rw[F.len _ _ _ _ hq] at e
  exact e.symm
 refine wpAny_call (wP (f:=f) I.kIn M.makes M.init (beq_iff_eq.mp M.fn) (Jf (F.run _ X.stack _ _ ⟨H0.ref (s.heap.objs.size+1)::us,[]⟩ (H0.ref (s.heap.objs.size+1)::(us++ds)) _ _ E (hr.make C us [])
  (I2.env0.make C us []) (hb _ (H0.ref (s.heap.objs.size+1)::us) I2.kIn hl) r2 hq) fun r s' hq'=>?_))
 cases r with
 |error e=>exact hx pins σ _ _ e s' I2 hq'
 |ok fl=>
  cases fl with
  |ret u=>
   obtain⟨v,H',I3,rv,ev,q3⟩:=I2.after hq'
   subst ev
   exact⟨rv,⟨V.ref (s.heap.objs.size+1),H',I3,rfl,q3⟩⟩
  |next=>exact False.elim hq'
  |brk=>exact False.elim hq'
  |cont=>exact False.elim hq'
theorem yB (M:Mk X.K C f)(F:FnOk X.prog X.w X.K X.mg X.base CX k f fd ps sp)(hr:Room (k+1) X.A)(hg:Gl X x)(hm:X.mg x=some (.ref C))(hb:Binds X.K fd ps ds)(hd:Vals dvs ds)(hx:ga CX X E)
  (ha:PA X (e::es) t)(hdb:(x==("__debug__":Str))=false:=by decide)(he:IJ (e::es) X.env=(false,IG e X.env)::IJ es X.env:=by rfl)(hpl:(II pos (IJ es X.env)).any (·.1)=false:=by rfl):
  PE X (.Call (.Name x p) (e::es) [] pos) (Oz C sp dvs E t):=by
 intro pins s σ H Q I h
 refine Jg (iX I hg hm ?_ hdb)
 refine PySem.W.callWith_K (h₀:=X.base) I.ok.mod.kin M.kp (thn (ha pos pins s σ H _ I h) fun us s1 ⟨vs,H1,I1,r,q⟩=>⟨I1.kIn,?_⟩) he hpl
 exact oR M F hr hb hd hx I1 r q
theorem vX (M:Mk X.K C f)(F:FnOk X.prog X.w X.K X.mg X.base CX k f fd ps sp)(hr:Room (k+1) X.A)(hg:Gl X x)(hm:X.mg x=some (.ref C))(hb:Binds X.K fd ps ds)(hd:Vals dvs ds)(hx:ga CX X E)
  (hdb:(x==("__debug__":Str))=false:=by decide):PE X (.Call (.Name x p) [] [] pos) (Oz C sp dvs E OB):=by
 intro pins s σ H Q I h
 refine Jg (iX I hg hm ?_ hdb)
 exact PySem.W.callWith_K0 I.kIn M.kp (oR (us:=[]) M F hr hb hd hx I .nil h)
end
section
variable {X:Cx}{CX:CXT}{k:Nat}{f C:Ig}{fd:Je}{ps ks:List Str}{sp:Sp}{E:XK}{x m:Str}{p pos apos kpos:IH}{e o:Expr}{es:List Expr}{kws:List Jh}{te ta:TE}{t tk:TA}{nm:Option Str}
variable {g:List H0->List H0->List H0}{gV:List V->List V->List V}
end
structure JU (N P:List Str)(sc:IE):Prop where
 kind:sc.kind=.function
 co:sc.isCoroutine=false
 gen:sc.isGenerator=false
 nd:N.Nodup
 pre:N.take P.length=P
 par: ∀x∈P,sc.names.lookup x=some .local \/sc.names.lookup x=some .cell
 nofree: ∀y∈sc.names,y.2≠.free
theorem mD {kindOf:Str->Option Ji}{x:Str}: ∀ {binds:List (Str×H0)}{m:Str->Option H0},(∀v,(x,v) ∉ binds)->bindL kindOf binds m x=m x
 |[],_,_=>rfl
 |(n,v)::r,m,h=>by
  unfold bindL
  rw[mD fun w hw=>h w (EA _ hw)]
  split
  ·have:x≠n:=by rintro rfl;exact h v Eo
   simp [this]
  ·rfl
theorem mG {kindOf:Str->Option Ji}{x:Str}: ∀ {binds:List (Str×H0)}{m:Str->Option H0},(∀v,(x,v) ∉ binds)->bindC kindOf binds m x=m x
 |[],_,_=>rfl
 |(n,v)::r,m,h=>by
  unfold bindC
  rw[mG fun w hw=>h w (EA _ hw)]
  split
  ·rfl
  ·have:x≠n:=by rintro rfl;exact h v Eo
   simp [this]
theorem mE {kindOf:Str->Option Ji}{x:Str}{v:H0}: ∀ {P:List Str}{vs:List H0}{i:Nat}{m:Str->Option H0},P.Nodup->P[i]?=some x->vs[i]?=some v->kindOf x=some .local ->
  bindL kindOf (P.zip vs) m x=some v
 |[],_,_,_,_,h,_,_=>by simp at h
 |_::_,[],_,_,_,_,h,_=>by simp at h
 |p::P,w::vs,0,m,nd,h1,h2,hk=>by
  simp at h1 h2;subst h1;subst h2
  show bindL kindOf ((p,w)::P.zip vs) m p=_
  unfold bindL
  rw[mD fun v hv=>(E8.mp nd).1 (GT hv).1,if_pos hk]
  simp
 |p::P,w::vs,i+1,m,nd,h1,h2,hk=>by
  show bindL kindOf ((p,w)::P.zip vs) m x=_
  unfold bindL
  exact mE (i:=i) (E8.mp nd).2 (by simpa using h1) (by simpa using h2) hk
theorem mH {kindOf:Str->Option Ji}{x:Str}{v:H0}: ∀ {P:List Str}{vs:List H0}{i:Nat}{m:Str->Option H0},P.Nodup->P[i]?=some x->vs[i]?=some v->kindOf x≠some .local ->
  bindC kindOf (P.zip vs) m x=some v
 |[],_,_,_,_,h,_,_=>by simp at h
 |_::_,[],_,_,_,_,h,_=>by simp at h
 |p::P,w::vs,0,m,nd,h1,h2,hk=>by
  simp at h1 h2;subst h1;subst h2
  show bindC kindOf ((p,w)::P.zip vs) m p=_
  unfold bindC
  rw[mG fun v hv=>(E8.mp nd).1 (GT hv).1,if_neg hk]
  simp
 |p::P,w::vs,i+1,m,nd,h1,h2,hk=>by
  show bindC kindOf ((p,w)::P.zip vs) m x=_
  unfold bindC
  exact mH (i:=i) (E8.mp nd).2 (by simpa using h1) (by simpa using h2) hk
def Oq (N:List Str)(vs:List V):St:=vs.map some++List.replicate (N.length - vs.length) none
def Kw (CX:CXT)(P:Ib)(w:Ic)(K:PySem.W.Frag)(mg:Str->Option H0)(base:Ie)(N:List Str)(qual:Str)(scope:IE)(f:Ig)(cd:H0)(A:Ik)(outer:List Env)(s:Ii)(H:Hp)(E:XK):Cx where
 prog:=P
 w:=w
 K:=K
 mg:=mg
 base:=base
 A:=A.deeper (Jj qual scope s.heap.objs.size f cd)
 N:=N
 s₀:=s
 H₀:=H
 env:=Jj qual scope s.heap.objs.size f cd
 outer:=outer
 stack:=Jj qual scope s.heap.objs.size f cd::outer
 ex:=[]
 calm:=true
 fn:=fun _=>true
 pn:=[]
 xe:=fun e s'=>Im (Io P w) (A.deeper (Jj qual scope s.heap.objs.size f cd)) (leaving (Jj qual scope s.heap.objs.size f cd) e) (fun _ s''=>CX outer H s E e s'') (fun e' s''=>CX outer H s E e' s'') s'
theorem pZ {sc:IE}{n:Nat}{x:Str}(h:sc.names.lookup x=some .cell): ∃c,(cellsFrom n sc.names []).lookup x=some c:=by
 have q:=PySem.W.cellsFrom_some sc.names n [] (.inl h)
 exact Option.isSome_iff_exists.mp q
theorem uK {CX:CXT}{P:Ib}{w:Ic}{K:PySem.W.Frag}{mg:Str->Option H0}{base:Ie}{N ps:List Str}{qual:Str}{scope:IE}{f:Ig}{cd:H0}{A:Ik}{outer:List Env}{s s1:Ii}{H:Hp}{E:XK}{us:List H0}{vs:List V}
  (S:JU N ps scope)(hd:A.handled=none)(e0:Env0 P w K mg base A outer s H)(hl:vs.length=ps.length)(r:Vals vs us)
  (x:InCallC s s.heap.objs.size (bindL (Jj qual scope s.heap.objs.size f cd).kindOf (ps.zip us) fun _=>none) (cellsFrom (s.heap.objs.size+1) scope.names []) (bindC (Jj qual scope s.heap.objs.size f cd).kindOf (ps.zip us) fun _=>none) s1):
  Inv (Kw CX P w K mg base N qual scope f cd A outer s H E) [] (Oq N vs) H s1:=by
 have hpl:ps.length<=N.length:=by have:=congrArg List.length S.pre;rw[E5] at this;omega
 obtain⟨h1,tk,rfl,hk⟩:=x.done
 have noA: ∀b:Ig,b ∉ (Kw CX P w K mg base N qual scope f cd A outer s H E).ex:=fun b z=>absurd (show b∈([]:List Ig) from z) (by simp)
 refine⟨⟨e0.mod,S.kind,rfl,rfl,Em _,fun y z c h1 h2=>?_,fun y hy=>?_,fun y c _ h=>?_,fun _=>hd,Ik.frames_deeper e0.frames,.inr ⟨rfl,rfl⟩,fun b z=>absurd z (noA b),e0.bs,e0.bsz,fun b _ _=>noA b,fun b z=>absurd z (noA b),e0.funs,e0.frf⟩,
  rfl,e0.bare,Un.kept hk,⟨_,x.toInCall.ns,fun i y v h1 h2 h3=>?_⟩,fun y c h=>⟨_,x.cell y c h⟩,e0.hok.fresh (Em _),fun y c h=>?_,fun p hp=>absurd (show p∈([]:List (Ig×Ij)) from hp) (by simp),e0.hok.kept hk,?_⟩
 ·exact name_of_addr x.apart (PySem.mem_of_lookup h1) (PySem.mem_of_lookup h2)
 ·have hy:scope.names.lookup y=some .cell\/scope.names.lookup y=some .free:=hy
  rcases hy with hy|hy
  ·exact pZ hy
  ·exact absurd rfl (S.nofree _ (PySem.mem_of_lookup hy))
 ·exact Gj (x.above y c (PySem.mem_of_lookup h))
 ·have hi:i<vs.length:=by
   unfold Oq at h2
   by_cases hi:i<vs.length
   ·exact hi
   ·rw[Fp (by simpa using hi)] at h2
    rw[GU] at h2
    split at h2<;>cases h2
  have ha:vs[i]?=some v:=by
   unfold Oq at h2
   rw[ET (by simpa using hi),ED] at h2
   cases e:vs[i]? with
   |none=>rw[e] at h2;cases h2
   |some a=>rw[e] at h2;cases h2;rfl
  obtain⟨u,hu,rv⟩:=r.get ha
  have hp:ps[i]?=some y:=by
   rw[<-S.pre,List.getElem?_take_of_lt (by omega)];exact h1
  have ndP:ps.Nodup:=by rw[<-S.pre];exact S.nd.sublist (Hs _ _)
  refine⟨u,rv,?_⟩
  rcases S.par y (EO hp) with k|k
  ·exact .inl ⟨k,mE ndP hp hu k⟩
  ·obtain⟨c,e⟩:=pZ (n:=s.heap.objs.size+1) k
   refine .inr ⟨.inl k,c,e,?_⟩
   have q:=x.cell y c e
   rw[mH ndP hp hu (by show scope.names.lookup y≠_;rw[k];decide)] at q
   exact q
 ·exact e0.hok.fresh (Gj (x.above y c (PySem.mem_of_lookup h)))
 ·unfold Oq
  show _=N.length
  rw[Ep,El,FD]
  omega
theorem Ai {CX:CXT}{P:Ib}{w:Ic}{K:PySem.W.Frag}{mg:Str->Option H0}{base:Ie}{k:Nat}{f:Ig}{name qual:Str}{params:Arguments}{body:List IK}{scope:IE}{dV kV doc pm cdv ct oc:H0}{an od:Option Ig}
  {osl:Array (Option H0)}{N ps:List Str}{sp:Sp}(lk:K.lookup f=some ⟨oc,od,.func (fnOf name qual params body scope dV kV doc pm an cdv ct),osl⟩)(hcd:codeIn K cdv qual=true)(S:JU N ps scope)
  (len: ∀vs H Q E,sp vs H Q E->vs.length=ps.length)
  (hbody: ∀ (A:Ik) (outer:List Env) (s:Ii) (H:Hp) (vs:List V) (Q:VK) (E:XK),Room k (A.deeper (Jj qual scope s.heap.objs.size f cdv))->sp vs H Q E->
   ∃t,PSs (Kw CX P w K mg base N qual scope f cdv A outer s H E) body t/\t {nx:=fun _ H'=>Q .non H',rt:=Q} (Oq N vs) H):
  FnOk P w K mg base CX (k+1) f (fnOf name qual params body scope dV kV doc pm an cdv ct) ps sp:=by
 refine⟨len,fun A outer s H args us vs Q E hr e0 hb r hsp=>?_⟩
 have hl:=len _ _ _ _ hsp
 have KX:K.In s.heap:=e0.mod.kin.keeps fun b o e=>(e0.bs b o e).1
 have lim:s.heap.NoLimit:=e0.mod.nolimit.keeps fun b o e=>(e0.bs b o e).1
 have hkind: ∀y∈ps.zip us,scope.names.lookup y.1=some .local \/(scope.names.lookup y.1=some .cell/\((cellsFrom (s.heap.objs.size+1) scope.names []).lookup y.1).isSome=true):=fun⟨n,v⟩ hy=>by
  rcases S.par n (GT hy).1 with q|q
  ·exact .inl q
  ·exact .inr ⟨q,PySem.W.cellsFrom_some _ _ _ (.inl q)⟩
 refine codeAny_call_function hr.depth (KX _ _ lk) rfl S.co S.gen rfl (PySem.W.codeRec_of KX hcd) (hb _ _ _ _ ?_)
 refine wpAny_newFunctionEnv_cells S.kind hkind fun env he s1 x=>?_
 subst he
 refine⟨lim.keeps x.toInCall.keep,codeAny_func ?_⟩
 obtain⟨t,ht,hq⟩:=hbody A outer s H vs Q E (hr.deeper _) hsp
 have I:Inv (Kw CX P w K mg base N qual scope f cdv A outer s H E) [] (Oq N vs) H s1:=uK S hr.hd e0 hl r x
 refine IL (ht [] s1 (Oq N vs) H _ I hq) (fun fl s' hs=>?_) fun e s' hs=>hs
 have fin: ∀ {σ':St}{H':Hp}{v:V}{u:H0},Inv (Kw CX P w K mg base N qual scope f cdv A outer s H E) [] σ' H' s'->RelV v u->Q v H'->CE outer P w H s Q u s':=
  fun{σ' H' v u} J rv q=>⟨v,H',J.os,J.bare,J.base,J.hok,rv,q⟩
 cases fl with
 |ret u=>
  obtain⟨v,σ',H',J,rv,q⟩:=hs
  exact fin J rv q
 |next=>
  obtain⟨σ',H',J,q⟩:=hs
  exact fin (v:=V.non) (u:=H0.none) J rfl q
 |brk=>
  obtain⟨_,_,_,q⟩:=hs
  exact False.elim q
 |cont=>
  obtain⟨_,_,_,q⟩:=hs
  exact False.elim q
end
section
section
variable {X:Cx}{x:Str}{p pos:IH}{e:Expr}{es:List Expr}{t:TA}{id T:String}{r:List V->Hp->VK->Prop}
def tCB (r:List V->Hp->VK->Prop)(t:TA):TE:=fun σ H Q=>t σ H fun vs H1=>r vs H1 Q
theorem c9 (hc:CallR X (.builtin id) r)(hg:Gl X x)(hm:X.mg x=none)(hv:ID x=some (.builtin id))(ha:PA X (e::es) t)(hn:x≠ "__name__":=by decide)(hdb:(x==("__debug__":Str))=false:=by decide)
  (he:IJ (e::es) X.env=(false,IG e X.env)::IJ es X.env:=by rfl)(hpl:(II pos (IJ es X.env)).any (·.1)=false:=by rfl):PE X (.Call (.Name x p) (e::es) [] pos) (tCB r t):=by
 intro pins s σ H Q I h
 refine Jg (d6 I hg hm hv ?_ hn hdb)
 exact PyProof.Rows.callWith_builtin1 (thn (ha pos pins s σ H _ I h) fun us s1 ⟨vs,H1,I1,r1,q1⟩=>hc pins s1 σ H1 vs us Q I1 r1 q1) he hpl
theorem jr (hc:CallR X (.type T) r)(hg:Gl X x)(hm:X.mg x=none)(hv:ID x=some (.type T))(ha:PA X (e::es) t)(hn:x≠ "__name__":=by decide)(hdb:(x==("__debug__":Str))=false:=by decide)
  (he:IJ (e::es) X.env=(false,IG e X.env)::IJ es X.env:=by rfl)(hpl:(II pos (IJ es X.env)).any (·.1)=false:=by rfl):PE X (.Call (.Name x p) (e::es) [] pos) (tCB r t):=by
 intro pins s σ H Q I h
 refine Jg (d6 I hg hm hv ?_ hn hdb)
 exact PyProof.Rows.callWith_type1 (thn (ha pos pins s σ H _ I h) fun us s1 ⟨vs,H1,I1,r1,q1⟩=>hc pins s1 σ H1 vs us Q I1 r1 q1) he hpl
end
end
end L2
namespace HT
open PySem PyProof.Rows
section
open PySem.SeqAt
open PySem.AutoSeq1 (wpAny_loadPart')
open PySem.MeetsSeq PySem.MeetsSeq2 PySem.MeetsSeq3
end
section
variable {prog:Ib}{w:Ic}{A:Ik}{E:H0->Ii->Prop}{s:Ii}
theorem cat_tup {t b:Ig}{vs ws:List H0}{Q:H0->Ii->Prop}(ht:IsTup s.heap t vs.toArray)(hb:IsTup s.heap b ws.toArray)(hv:vs≠ [])
  (h1:ws=[]->Q (.ref t) s)(h2:ws≠ []->Q (.ref s.heap.objs.size) {s with heap:=s.heap.push {cls:=.type "tuple",data:=.seq (vs++ws).toArray}})
  (hsz:vs.length+ws.length<=sizeLine):Im (Io prog w) A (I0 .Add (.ref t) (.ref b)) Q E s:=by
 obtain⟨⟨cls,dd,data,sl⟩,ho,hc,n,hd⟩:=id ht
 obtain⟨⟨cls2,dd2,data2,sl2⟩,ho2,hc2,n2,hd2⟩:=id hb
 simp only at hc hd hc2 hd2
 subst hc hd hc2 hd2
 have e:vs.toArray++ws.toArray=(vs++ws).toArray:=by simp
 by_cases hw:ws=[]
 ·exact concat_meets ⟨_,ho,rfl⟩ ⟨_,ho2,rfl⟩ noFill_tuple_add seq_tuple_add PySem.F.slot_tuple_add PySem.F.entry_tuple_add (PySem.F.args_tuple_add_2 _ _)
   (tuple_addW1 t b vs.toArray ws.toArray n n2 dd dd2 sl sl2 (by simpa using hv) (by simp [hw])) ⟨ho,ho2,h1 hw⟩
 ·refine concat_meets ⟨_,ho,rfl⟩ ⟨_,ho2,rfl⟩ noFill_tuple_add seq_tuple_add PySem.F.slot_tuple_add PySem.F.entry_tuple_add (PySem.F.args_tuple_add_2 _ _)
   (tuple_addW2 t b vs.toArray ws.toArray n n2 dd dd2 sl sl2 (by simpa using hv) (by simpa using hw) (by rw[Ez,Ez];exact hsz)) ⟨ho,ho2,?_⟩
  rw[e]
  exact h2 hw
noncomputable def sIx (n d:Nat):Option Int->Nat
 |none=>d
 |some v=>if v<0 then (v+(n:Int)).toNat else min v.toNat n
theorem sIx_none (n d:Nat):sIx n d none=d:=rfl
theorem sIx_nat (n d k:Nat):sIx n d (some (k:Int))=min k n:=by
 show (if (k:Int)<0 then ((k:Int)+(n:Int)).toNat else min (k:Int).toNat n)=min k n
 rw[if_neg (by omega),GV]
theorem AJ (n d:Nat)(hd:d<=n)(o:Option Int):sIx n d o<=n:=by
 cases o with
 |none=>exact hd
 |some v=>
  show (if v<0 then (v+(n:Int)).toNat else min v.toNat n)<=n
  by_cases hv:v<0
  ·rw[if_pos hv];omega
  ·rw[if_neg hv];exact Nat.min_le_right _ _
theorem tj (v:Int)(n d:Nat):(if v<0 then max (v+(n:Int)) 0 else min v (n:Int))=((sIx n d (some v):Nat):Int):=by
 show (if v<0 then max (v+(n:Int)) 0 else min v (n:Int))=(((if v<0 then (v+(n:Int)).toNat else min v.toNat n):Nat):Int)
 by_cases hv:v<0
 ·simp only[if_pos hv];omega
 ·simp only[if_neg hv];omega
theorem rQ (lo hi:Option Int)(n:Nat):H9.Slice.sliceAdjust lo hi 1 (n:Int)=(((sIx n 0 lo:Nat):Int),((sIx n n hi:Nat):Int)):=by
 have h1: ¬((1:Int)<0):=by omega
 unfold H9.Slice.sliceAdjust
 simp only[h1,if_false]
 refine Prod.ext ?_ ?_
 ·cases lo with
  |none=>rfl
  |some v=>exact tj v n 0
 ·cases hi with
  |none=>rfl
  |some v=>exact tj v n n
theorem qP (i j:Nat):H9.Slice.slicePlaces (i:Int) (j:Int) 1=j - i:=by
 unfold H9.Slice.slicePlaces
 have h1:(1:Int)>0:=by omega
 simp only[h1,if_true,Int.ediv_one]
 split<;>omega
theorem kn {v:H0}{o:Option Int}{Q:Option Int->Ii->Prop}(p:IsPart v o)(h:Q o s):Im (Io prog w) A (H9.Slice.slicePartIndex v) Q E s:=by
 cases p with
 |none=>exact slicePart_none h
 |int i t=>exact slicePart_int h
theorem jp {sl:Ig}{vl vu:H0}{lo hi:Option Int}{n:Nat}{Q:Int×Int×Nat->Ii->Prop}(hs:s.heap.IsSliceOf sl vl vu .none)(pl:IsPart vl lo)(pu:IsPart vu hi)
  (h:Q (((sIx n 0 lo:Nat):Int),1,sIx n n hi - sIx n 0 lo) s):Im (Io prog w) A (H9.Slice.sliceApplied (.ref sl) (pure (n:Int))) Q E s:=by
 obtain⟨os,hos,hcs,hds⟩:=id hs
 unfold H9.Slice.sliceApplied H9.Slice.sliceFields
 refine Ip (Ip (Jk hos hds (x:=vl) rfl (Ip (Jk hos hds (x:=vu) rfl (Ip (Jk hos hds (x:=.none) rfl (Iu ?_)))))))
 refine Ip (slicePart_none ?_)
 show Im _ _ (if ((1:Int)==0)=true then _ else _) _ _ s
 rw[if_neg (by decide)]
 refine Ip (kn pl (Ip (kn pu (Ip (Iu ?_)))))
 show Im _ _ (match H9.Slice.sliceAdjust lo hi 1 (n:Int) with|(lo,hi)=>pure (lo,(1:Int),H9.Slice.slicePlaces lo hi 1)) _ _ s
 rw[rQ lo hi n]
 show Im _ _ (pure (((sIx n 0 lo:Nat):Int),(1:Int),H9.Slice.slicePlaces ((sIx n 0 lo:Nat):Int) ((sIx n n hi:Nat):Int) 1)) _ _ s
 rw[qP]
 exact Iu h
theorem vT (xs:Array H0)(i k:Nat):((List.range k).filterMap fun (m:Nat)=>xs[((i:Int)+(m:Int) * 1).toNat]?).toArray=((xs.toList.drop i).take k).toArray:=by
 have e:(fun (m:Nat)=>xs[((i:Int)+(m:Int) * 1).toNat]?)=fun m=>xs[i+m]?:=by
  funext m
  have:((i:Int)+(m:Int) * 1).toNat=i+m:=by omega
  rw[this]
 rw[e]
 have:=pick_run xs i k
 rw[List.filterMap_map] at this
 have e2:((fun x=>xs[x]?)∘fun x=>i+x)=fun m=>xs[i+m]?:=rfl
 rw[e2] at this
 rw[this]
theorem getItem_tuple_cut {t sl:Ig}{items:Array H0}{vl vu:H0}{lo hi:Option Int}{Q:H0->Ii->Prop}(ht:IsTup s.heap t items)(hs:s.heap.IsSliceOf sl vl vu .none)(pl:IsPart vl lo)(pu:IsPart vu hi)
  (hw: ¬(sIx items.size 0 lo=0/\sIx items.size items.size hi=items.size))
  (h:Q (.ref s.heap.objs.size) {s with heap:=s.heap.push {cls:=.type "tuple",data:=.seq ((items.toList.drop (sIx items.size 0 lo)).take (sIx items.size items.size hi - sIx items.size 0 lo)).toArray}})
  (hsz:items.size<=sizeLine):Im (Io prog w) A (getItem (.ref t) (.ref sl)) Q E s:=by
 have htake:sizeOk (.seq ((items.toList.drop (sIx items.size 0 lo)).take (sIx items.size items.size hi - sIx items.size 0 lo)).toArray):=by
  show ((items.toList.drop (sIx items.size 0 lo)).take (sIx items.size items.size hi - sIx items.size 0 lo)).toArray.size<=sizeLine
  rw[Ez,E5,Fh,Fu]
  omega
 have hj:sIx items.size items.size hi<=items.size:=AJ _ _ (Em _) hi
 obtain⟨os,hos,hcs,hds⟩:=id hs
 have hTs:s.TypeIs (.ref sl) "slice":=⟨os,hos,hcs⟩
 unfold getItem
 try with_reducible refine Ix ?_
 first|refine Ip (Iu ?_)|skip
 refine Ip (wpAny_sequenceKey ht.typeIs (by decide) ?_)
 refine Ip (wpAny_callSpecial?_slot (name:=Str.ofString "__getitem__") ht.typeIs PyProof.Rows.slot_tuple_getitem
  (Ir PyProof.Rows.slot_tuple_getitem ht.typeIs entry_tuple_getitem ?_ (args_tuple_getitem _ _)))
 show Im _ _ (H9.Tuple.tupleItemsOf (.ref t)>>=_) _ _ s
 refine Ip (tupleItemsOf_ ht ?_)
 refine Ip (wpAny_typeOf hTs ?_)
 rw[if_pos (by decide)]
 refine Ip (jp hs pl pu ?_)
 have hno: ¬((((sIx items.size 0 lo:Nat):Int)==0 && (1:Int)==1 && (sIx items.size items.size hi - sIx items.size 0 lo)==items.size)=true):=by
  intro q
  rw[ES,ES] at q
  have q1:((sIx items.size 0 lo:Nat):Int)=0:=eq_of_beq q.1.1
  have q2:sIx items.size items.size hi - sIx items.size 0 lo=items.size:=eq_of_beq q.2
  exact hw ⟨by omega,by omega⟩
 show Im _ _ (if (((sIx items.size 0 lo:Nat):Int)==0 && (1:Int)==1 && (sIx items.size items.size hi - sIx items.size 0 lo)==items.size)=true then _ else _) _ _ s
 rw[if_neg hno,vT]
 first
  |exact Ip (m:=H9.Tuple.tupleExact _) (Jl (Iu ⟨_,rfl,Iu h⟩) htake)
  |exact Ip (m:=H9.Tuple.tupleExact _) (Jl (Ip (Iu (Iu ⟨_,rfl,Iu h⟩))) htake)
  |exact Ip (Ip (m:=H9.Tuple.tupleExact _) (Jl (Iu (Iu ⟨_,rfl,Iu h⟩)) htake))
  |exact Ip (Ip (m:=H9.Tuple.tupleExact _) (Jl (Iu ⟨_,rfl,Iu h⟩) htake))
end
end HT
namespace L2
open PySem PySem.Spec PyProof.Rows
noncomputable abbrev TO:=St->Hp->(Option Int->Hp->Prop)->Prop
def PO (X:Cx)(e:Option Expr)(t:TO):Prop:=
 ∀ (pins:List (Ig×Ij)) (s:Ii) (σ:St) (H:Hp) (Q:Option Int->Hp->Prop),Inv X pins σ H s->t σ H Q->
   Im (Io X.prog X.w) X.A (evalPart e X.env) (fun u s'=> ∃o H',Inv X pins σ H' s'/\IsPart u o/\Q o H') X.xe s
def yd:TO:=fun _ H Q=>Q none H
def tPart (t:TE):TO:=fun σ H Q=>t σ H fun x H1=> ∃i,x=.int i/\Q (some i) H1
section
variable {X:Cx}{e:Expr}{te:TE}{lo hi:Option Expr}{tl th:TO}{pos p2:IH}
theorem Na:PO X none yd:=by
 intro pins s σ H Q I h
 rw[evalPart_none]
 exact Iu ⟨none,H,I,.none,h⟩
theorem ni (h:PE X e te):PO X (some e) (tPart te):=by
 intro pins s σ H Q I hw
 rw[evalPart_some]
 refine thn (h pins s σ H _ I hw) fun u s1 qz=>?_
 obtain⟨x,H1,I1,r1,q1⟩:=qz
 obtain⟨i,rfl,q⟩:=q1
 obtain⟨t,rfl⟩:=r1
 exact⟨some i,H1,I1,.int i t,q⟩
def SlR (X:Cx)(r:V->Option Int->Option Int->Hp->VK->Prop):Prop:=
 ∀ (pins:List (Ig×Ij)) (s:Ii) (σ:St) (H:Hp) (x:V) (v vl vu:H0) (lo hi:Option Int) (sl:Ig) (Q:VK),Inv X pins σ H s->RelV x v->s.heap.IsSliceOf sl vl vu .none->IsPart vl lo->IsPart vu hi->r x lo hi H Q->
   ∃T id,typeLookup (.type T) "__getitem__"=pure (some (.builtin id))/\s.TypeIs v T/\Im (Io X.prog X.w) X.A (getItem v (.ref sl)) (EP X pins σ Q) X.xe s
theorem SlR.or {r r':V->Option Int->Option Int->Hp->VK->Prop}(h:SlR X r)(h':SlR X r'):SlR X (fun x lo hi H Q=>r x lo hi H Q\/r' x lo hi H Q):=by
 intro pins s σ H x v vl vu lo hi sl Q I rx hs pl pu q
 rcases q with q|q
 ·exact h pins s σ H x v vl vu lo hi sl Q I rx hs pl pu q
 ·exact h' pins s σ H x v vl vu lo hi sl Q I rx hs pl pu q
def tSl (r:V->Option Int->Option Int->Hp->VK->Prop)(te:TE)(tl th:TO):TE:=fun σ H Q=>te σ H fun x H1=>tl σ H1 fun l H2=>th σ H2 fun u H3=>r x l u H3 Q
theorem oX {r:V->Option Int->Option Int->Hp->VK->Prop}(hr:SlR X r)(he:PE X e te)(hl:PO X lo tl)(hu:PO X hi th):PE X (.Subscript e (.Slice lo hi none p2) pos) (tSl r te tl th):=by
 intro pins s σ H Q I h
 refine Subscript_ (thn (he pins s σ H _ I h) fun v s1 qz=>?_)
 obtain⟨x,H1,I1,r1,q1⟩:=qz
 refine wpAny_Slice (thn (hl pins s1 σ H1 _ I1 q1) fun vl s2 ⟨l,H2,I2,pl,q2⟩=>thn (hu pins s2 σ H2 _ I2 q2) fun vu s3 qz=>?_)
 obtain⟨u,H3,I3,pu,q3⟩:=qz
 rw[evalPart_none]
 refine Iu ?_
 have I4:Inv X pins σ H3 {s3 with heap:=s3.heap.push {cls:=.type "slice",data:=.fields #[vl,vu,.none]}}:=I3.kept (t':=s3.toks) fun b ob q=>Ey _ q
 obtain⟨T,id,hT,ht,hg⟩:=hr pins {s3 with heap:=s3.heap.push {cls:=.type "slice",data:=.fields #[vl,vu,.none]}} σ H3 x v vl vu l u s3.heap.objs.size Q I4 r1 (Ie.IsSliceOf.new ..) pl pu q3
 show Im (Io X.prog X.w) X.A (subscriptTail e (.Slice lo hi none p2) v (.ref s3.heap.objs.size)) (EP X pins σ Q) X.xe {s3 with heap:=s3.heap.push {cls:=.type "slice",data:=.fields #[vl,vu,.none]}}
 exact tail_any (ops:=[.ref s3.heap.objs.size,v]) ht hT hg (by with_unfolding_all rfl)
def Ku (xs:List V)(lo hi:Option Int):List V:=(xs.drop (HT.sIx xs.length 0 lo)).take (HT.sIx xs.length xs.length hi - HT.sIx xs.length 0 lo)
theorem jH (xs:List V)(lo hi:Option Int):(Ku xs lo hi).length<=xs.length:=by
 unfold Ku
 rw[E5,Fh]
 omega
def rSlT (K:PySem.W.Frag):V->Option Int->Option Int->Hp->VK->Prop:=fun x lo hi H Q=> ∃a xs,x=.ref a/\SqT K H a xs/\
 ¬(HT.sIx xs.length 0 lo=0/\HT.sIx xs.length xs.length hi=xs.length)/\ ∀p,H p=none->Q (.ref p) (upd H p (.tup (Ku xs lo hi)))
theorem Od:SlR X (rSlT X.K):=by
 intro pins s σ H x v vl vu lo hi sl Q I rx hs pl pu h
 obtain⟨a,xs,rfl,hx,hw,q⟩:=h
 cases rx
 obtain⟨its,r,ht,hz⟩:=I.tuple hx
 have hlen:its.toArray.size=xs.length:=by rw[Ez];exact r.length.symm
 refine⟨"tuple",_,PyProof.Rows.slot_tuple_getitem.lookup,ht.typeIs,?_⟩
 refine HT.getItem_tuple_cut ht hs pl pu (by rw[hlen];exact hw) ?_ (by rw[hlen];exact hz)
 rw[hlen]
 refine⟨.ref s.heap.objs.size,_,I.laid (t':=s.toks) (o:=.tup (Ku xs lo hi)) (fun b ob q=>Ey _ q) (Em _) ?_,rfl,q _ (I.hok.fresh (Em _))⟩
 exact⟨EG (jH xs lo hi) hz,_,(r.drop (HT.sIx xs.length 0 lo)).take (HT.sIx xs.length xs.length hi - HT.sIx xs.length 0 lo),IsTupD.new _ _⟩
def Nm (K:PySem.W.Frag):R2:=fun x y H Q=> ∃a b xs ys,x=.ref a/\y=.ref b/\SqT K H a xs/\SqT K H b ys/\xs≠ []/\xs.length+ys.length<=sizeLine/\
 (ys=[]->Q (.ref a) H)/\(ys≠ []-> ∀p,H p=none->Q (.ref p) (upd H p (.tup (xs++ys))))
theorem Vals.nil_iff {xs:List V}{us:List H0}(r:Vals xs us):us=[]↔xs=[]:=by
 cases r with
 |nil=>simp
 |cons _ _=>simp
theorem MF:OpR X (I0 .Add) (Nm X.K):=by
 intro pins s σ H x y v u Q I rx ry h
 obtain⟨a,b,xs,ys,rfl,rfl,ha,hb,hx,hz,q1,q2⟩:=h
 cases rx
 cases ry
 obtain⟨its,r1,p1,_⟩:=I.tuple ha
 obtain⟨its2,r2,p2,_⟩:=I.tuple hb
 refine HT.cat_tup p1 p2 (fun z=>hx (r1.nil_iff.mp z)) (fun z=>⟨.ref a,H,I,rfl,q1 (r2.nil_iff.mp z)⟩) (fun z=>?_) (by rw[<-r1.length,<-r2.length];exact hz)
 refine⟨.ref s.heap.objs.size,_,I.laid (t':=s.toks) (o:=.tup (xs++ys)) (fun b ob q=>Ey _ q) (Em _) ?_,rfl,q2 (fun w=>z (r2.nil_iff.mpr w)) _ (I.hok.fresh (Em _))⟩
 exact⟨by rw[Ep];exact hz,_,r1.append r2,IsTupD.new _ _⟩
end
section
noncomputable def ixN (n:Nat)(i:Int):Option Nat:=if 0<=i then (if i<n then some i.toNat else none) else if -(n:Int)<=i then some (i+n).toNat else none
def atI {α:Type}(xs:List α)(i:Int):Option α:=(ixN xs.length i).bind fun j=>xs[j]?
theorem sH {n:Nat}{i:Int}{j:Nat}(h:ixN n i=some j):seqIndex? i n=some j/\j<n/\ -(n:Int)<=i/\i<n:=by
 unfold ixN at h
 by_cases h0:0<=i
 ·rw[if_pos h0] at h
  by_cases h1:i<n
  ·rw[if_pos h1] at h
   have e:i.toNat=j:=Option.some.inj h
   exact⟨by rw[seqIndex_of h0 h1,e],by omega,by omega,h1⟩
  ·rw[if_neg h1] at h;cases h
 ·rw[if_neg h0] at h
  by_cases h1: -(n:Int)<=i
  ·rw[if_pos h1] at h
   have e:(i+n).toNat=j:=Option.some.inj h
   exact⟨by rw[seqIndex_neg (by omega) h1,e],by omega,h1,by omega⟩
  ·rw[if_neg h1] at h;cases h
theorem on {α:Type}{xs:List α}{i:Int}{v:α}(h:atI xs i=some v): ∃j,seqIndex? i xs.length=some j/\xs[j]?=some v/\j<xs.length/\ -(xs.length:Int)<=i/\i<xs.length:=by
 unfold atI at h
 cases e:ixN xs.length i with
 |none=>rw[e] at h;cases h
 |some j=>
  rw[e] at h
  obtain⟨h1,h2,h3,h4⟩:=sH e
  exact⟨j,h1,h,h2,h3,h4⟩
theorem jc {α:Type}{xs:List α}{j:Nat}{v:α}(h:xs[j]?=some v):atI xs (j:Int)=some v:=by
 have hj:j<xs.length:=(Ev.mp h).1
 have e:ixN xs.length (j:Int)=some j:=by
  unfold ixN
  rw[if_pos (by omega),if_pos (by omega)];simp
 unfold atI;rw[e];exact h
theorem xM {α:Type}(xs:List α)(v:α):atI (xs++[v]) (-1)=some v:=by
 have hl:(xs++[v]).length=xs.length+1:=by simp
 have e:ixN (xs++[v]).length (-1)=some xs.length:=by
  unfold ixN
  rw[hl,if_neg (by decide),if_pos (by omega)]
  congr 1
  omega
 unfold atI
 rw[e]
 show (xs++[v])[xs.length]?=some v
 simp
noncomputable def j3 (b:Expr):Prop:= ∀o i,subscripted b false o i=operate [o,i] (getItem o i)
def IxR (X:Cx)(r:R2):Prop:=
 ∀ (value slice:Expr) (pins:List (Ig×Ij)) (s:Ii) (σ:St) (H:Hp) (x y:V) (v u:H0) (Q:VK),Inv X pins σ H s->RelV x v->RelV y u->r x y H Q->
   subscripted slice false v u=operate [v,u] (getItem v u)->Im (Io X.prog X.w) X.A (subscriptTail value slice v u) (EP X pins σ Q) X.xe s
def MtR (X:Cx)(id:String)(r:V->List V->Hp->VK->Prop):Prop:=
 ∀ (pins:List (Ig×Ij)) (s:Ii) (σ:St) (H:Hp) (x:V) (xs:List V) (v:H0) (us:List H0) (Q:VK),Inv X pins σ H s->RelV x v->Vals xs us->r x xs H Q->
   Im (Io X.prog X.w) X.A (call (.builtin id) (v::us)) (EP X pins σ Q) X.xe s
section
variable {X:Cx}{a b:Expr}{ta tb:TE}{pos:IH}
theorem IxR.or {r r':R2}(h:IxR X r)(h':IxR X r'):IxR X (fun x y H Q=>r x y H Q\/r' x y H Q):=by
 intro value slice pins s σ H x y v u Q I rx ry q hs
 rcases q with q|q
 ·exact h value slice pins s σ H x y v u Q I rx ry q hs
 ·exact h' value slice pins s σ H x y v u Q I rx ry q hs
theorem oY {r:R2}(hr:IxR X r)(ha:PE X a ta)(hb:PE X b tb)(hs:j3 b):PE X (.Subscript a b pos) (tOp r ta tb):=by
 intro pins s σ H Q I h
 exact Subscript_ (Kc ha hb I h fun v u s2 x y H2 I2 rx ry q=>hr a b pins s2 σ H2 x y v u Q I2 rx ry q (hs _ _))
def rIxL (K:PySem.W.Frag):R2:=fun x y H Q=> ∃p xs i v,x=.ref p/\y=.int i/\SqL K H p xs/\atI xs i=some v/\Q v H
def rIxT (K:PySem.W.Frag):R2:=fun x y H Q=> ∃p xs i v,x=.ref p/\y=.int i/\SqT K H p xs/\atI xs i=some v/\Q v H
def rIxS:R2:=fun x y H Q=> ∃z i c,x=.str z/\y=.int i/\z.length<=sizeLine/\atI z.cps.toList i=some c/\Q (.str ⟨#[c]⟩) H
theorem Lu:IxR X (rIxL X.K):=by
 intro value slice pins s σ H x y v u Q I rx ry h hs
 obtain⟨p,xs,i,z,rfl,rfl,hq,he,q⟩:=h
 cases rx
 obtain⟨t,rfl⟩:=ry
 obtain⟨its,r,pl,hz⟩:=I.list hq
 obtain⟨j,h1,h2,h3,h4,h5⟩:=on he
 obtain⟨w,ew,rw'⟩:=r.get h2
 have hl:=r.length
 have hn:=iu
 have fin:EP X pins σ Q w s:=⟨z,H,I,rw',q⟩
 by_cases h0:0<=i
 ·have hj:i.toNat=j:=by
   rw[seqIndex_of h0 h5] at h1
   exact Option.some.inj h1
  exact item_listR pl.isList h0 (by omega) (by rw[hj];simpa using ew) fin hs
 ·have hj:(i+(its.toArray.size:Int)).toNat=j:=by
   rw[seqIndex_neg (by omega) h4] at h1
   rw[Ez,<-hl]
   exact Option.some.inj h1
  exact subscriptTail_builtinR (x:=w) pl.isList.typeIs slot_list_getitem.lookup
   (wpAny_getItem_list_neg (Q:=fun r s'=>r=w/\EP X pins σ Q r s') pl.isList (by omega) (by rw[Ez]<;>omega) (by omega) (by rw[hj];simpa using ew) ⟨rfl,fin⟩) hs
theorem Ly:IxR X (rIxT X.K):=by
 intro value slice pins s σ H x y v u Q I rx ry h hs
 obtain⟨p,xs,i,z,rfl,rfl,hq,he,q⟩:=h
 cases rx
 obtain⟨t,rfl⟩:=ry
 obtain⟨its,r,pl,hz⟩:=I.tuple hq
 obtain⟨j,h1,h2,h3,h4,h5⟩:=on he
 obtain⟨w,ew,rw'⟩:=r.get h2
 have hl:=r.length
 have hn:=iu
 have fin:EP X pins σ Q w s:=⟨z,H,I,rw',q⟩
 exact subscriptTail_builtinR (x:=w) pl.typeIs slot_tuple_getitem.lookup
  (getItem_tuple (j:=j) (Q:=fun r s'=>r=w/\EP X pins σ Q r s') pl (by omega) (by omega) (by rw[Ez,<-hl];exact h1) (by simpa using ew) ⟨rfl,fin⟩) hs
theorem nG:IxR X rIxS:=by
 intro value slice pins s σ H x y v u Q I rx ry h hs
 obtain⟨z,i,c,rfl,rfl,hz,he,q⟩:=h
 obtain⟨t,rfl⟩:=rx
 obtain⟨t',rfl⟩:=ry
 obtain⟨j,h1,h2,h3,h4,h5⟩:=on he
 have hl:z.cps.toList.length=z.length:=by simp [Str.length]
 rw[hl] at h1 h4 h5
 have hn:=iu
 exact tail_any (Jm s z t) slot_str_getitem.lookup (getItem_str (c:=c) (by
  have e1:decide (i< -(2 ^ 63:Int))=false:=decide_eq_false (by omega)
  have e2:decide (i≥2 ^ 63)=false:=decide_eq_false (by omega)
  rw[e1,e2,GW]) (by rw[h1];simpa using h2) ⟨.str ⟨#[c]⟩,H,I.tok _,⟨_,rfl⟩,q⟩) hs
def rIx (K:PySem.W.Frag):R2:=fun x y H Q=>rIxL K x y H Q\/rIxT K x y H Q\/rIxS x y H Q
theorem Lx:IxR X (rIx X.K):=Lu.or (Ly.or nG)
theorem rg (its:List H0)(n j:Nat)(u:H0):Ij.mapSeq (·.setIfInBounds j u) {cls:=.type "list",data:=.seq its.toArray n}={cls:=.type "list",data:=.seq (its.set j u).toArray n}:=by
 simp [Ij.mapSeq]
theorem Inv.lst {pins:List (Ig×Ij)}{σ:St}{H:Hp}{s:Ii}{p:Ig}{xs:List V}(I:Inv X pins σ H s)(h:H p=some (.lst xs)):
  ∃ (its:List H0) (n:Nat),Vals xs its/\s.heap.get? p=some {cls:=.type "list",data:=.seq its.toArray n}/\xs.length<=sizeLine:=by
 obtain⟨z,its,n,r,e⟩:=I.hok p _ h
 exact⟨its,n,r,e,z⟩
theorem Inv.lstUpd {pins:List (Ig×Ij)}{σ:St}{H:Hp}{s:Ii}{p:Ig}{xs ys:List V}{its its':List H0}{n n':Nat}{f:Ij->Ij}(I:Inv X pins σ H s)(h:H p=some (.lst xs))
  (ho:s.heap.get? p=some {cls:=.type "list",data:=.seq its.toArray n})(hf:f {cls:=.type "list",data:=.seq its.toArray n}={cls:=.type "list",data:=.seq its'.toArray n'})(r:Vals ys its')(hz:ys.length<=sizeLine)(t:Nat):
  Inv X pins σ (upd H p (.lst ys)) {s with heap:=s.heap.update p f,toks:=t}:=by
 have e:(s.heap.update p f).get? p=some {cls:=.type "list",data:=.seq its'.toArray n'}:=by
  rw[Ht f ho (by rw[hf]<;>rfl),hf]
 refine I.write (x:=p) (e:=p) (by rw[h];trivial) (.inl rfl) (fun b u hb q=>(Hu _ _ (Ne.symm hb)).trans q) ⟨_,e⟩ ?_
 exact⟨hz,its',n',r,e⟩
def rSetL:V->V->V->Hp->(Hp->Prop)->Prop:=fun o i v H Q=> ∃p xs k j,o=.ref p/\i=.int k/\H p=some (.lst xs)/\ixN xs.length k=some j/\Q (upd H p (.lst (xs.set j v)))
theorem NZ:PSet X rSetL:=by
 intro pins s σ H o i v ov iv u Q I ro ri rv h
 obtain⟨p,xs,k,j,rfl,rfl,hp,hj,q⟩:=h
 cases ro
 obtain⟨t,rfl⟩:=ri
 obtain⟨its,n,r,ho,hz⟩:=I.lst hp
 obtain⟨h1,h2,h3,h4⟩:=sH hj
 have hl:=r.length
 have hn:=iu
 have I':Inv X pins σ (upd H p (.lst (xs.set j v))) {s with heap:=s.heap.update p (Ij.mapSeq (·.setIfInBounds j u))}:=
  I.lstUpd hp ho (rg its n j u) (r.set rv j) (by rw[EU];exact hz) s.toks
 by_cases h0:0<=k
 ·have hk:k.toNat=j:=by
   rw[seqIndex_of h0 h4] at h1
   exact Option.some.inj h1
  exact PySem.W.ki_setAt ho h0 (by omega) (by rw[Ez,<-hl];exact h4) (by rw[hk];exact⟨_,I',q⟩)
 ·have hk:(k+(its.toArray.size:Int)).toNat=j:=by
   rw[seqIndex_neg (by omega) h3] at h1
   rw[Ez,<-hl]
   exact Option.some.inj h1
  exact PySem.W.ki_setBack ho (by omega) (by rw[Ez,<-hl];exact h3) (by omega) (by rw[hk];exact⟨_,I',q⟩)
theorem mR (lo hi:Option Int)(n:Nat):(Jn lo hi none n).1=((HT.sIx n 0 lo:Nat):Int)/\(Jn lo hi none n).2.1=((HT.sIx n n hi:Nat):Int)/\(Jn lo hi none n).2.2=1:=by
 refine⟨?_,?_,rfl⟩
 ·cases lo with
  |none=>simp [Jn,HT.sIx]
  |some i=>
   simp only[Jn,HT.sIx,GX,show (1:Int)>0 by decide,if_true]
   by_cases h:i<0
   ·simp only[h,if_true]<;>omega
   ·simp only[h,if_false]<;>omega
 ·cases hi with
  |none=>simp [Jn,HT.sIx]
  |some i=>
   simp only[Jn,HT.sIx,GX,show (1:Int)>0 by decide,if_true]
   by_cases h:i<0
   ·simp only[h,if_true]<;>omega
   ·simp only[h,if_false]<;>omega
theorem lD (its:List H0)(lo hi:Option Int):slicePick its.toArray lo hi none=((its.drop (HT.sIx its.length 0 lo)).take (HT.sIx its.length its.length hi - HT.sIx its.length 0 lo)).toArray:=by
 obtain⟨h1,h2,h3⟩:=mR lo hi its.toArray.size
 unfold slicePick
 rw[h1,h2,h3]
 simp only[sliceRange_one,pick_run,Ez]<;>rfl
def rSlL (K:PySem.W.Frag):V->Option Int->Option Int->Hp->VK->Prop:=fun x lo hi H Q=> ∃a xs,x=.ref a/\SqL K H a xs/\ ∀p,H p=none->Q (.ref p) (upd H p (.lst (Ku xs lo hi)))
theorem yg:SlR X (rSlL X.K):=by
 intro pins s σ H x v vl vu lo hi sl Q I rx hs pl pu h
 obtain⟨a,xs,rfl,hx,q⟩:=h
 cases rx
 obtain⟨its,r,ht,hz⟩:=I.list hx
 have hlen:=r.length
 refine⟨"list",_,slot_list_getitem.lookup,ht.isList.typeIs,?_⟩
 refine wpAny_getItem_list_slice ht.isList hs pl pu .none (by simp) ?_ (by rw[Ez]<;>omega)
 rw[lD,<-hlen]
 refine⟨.ref s.heap.objs.size,_,I.laid (t':=s.toks) (o:=.lst (Ku xs lo hi)) (fun b ob q=>Ey _ q) (Em _) ?_,rfl,q _ (I.hok.fresh (Em _))⟩
 exact⟨EG (jH xs lo hi) hz,_,0,(r.drop (HT.sIx xs.length 0 lo)).take (HT.sIx xs.length xs.length hi - HT.sIx xs.length 0 lo),EJ _ rfl⟩
noncomputable def KS:V->Bool
 |.non=>true
 |.bl _=>true
 |.int _=>true
 |.str _=>true
 |_=>false
noncomputable def eqV:V->V->Bool
 |.non,.non=>true
 |.bl a,.bl b=>a==b
 |.bl a,.int b=>(if a then 1 else 0)==b
 |.int a,.bl b=>a==(if b then 1 else 0)
 |.int a,.int b=>a==b
 |.str a,.str b=>a==b
 |_,_=>false
theorem Ck {A:Ik}{s:Ii}{y x:V}{u v:H0}(ry:RelV y u)(rx:RelV x v)(fy:KS y=true)(fx:KS x=true):SeqAt.EqAt A s u v (eqV y x):=by
 cases y with
 |non=>
  cases ry
  cases x with
  |non=>cases rx;exact SeqAt.EqAt.same _
  |bl b=>cases rx;exact SeqAt.EqAt.none_bool b
  |int b=>obtain⟨t,rfl⟩:=rx;exact SeqAt.EqAt.none_int b t
  |str b=>obtain⟨t,rfl⟩:=rx;exact SeqAt.EqAt.none_str b t
  |_=>exact absurd (show false=true from fx) EE
 |bl a=>
  cases ry
  cases x with
  |non=>cases rx;exact SeqAt.EqAt.bool_none a
  |bl b=>cases rx;exact SeqAt.EqAt.bool_bool a b
  |int b=>obtain⟨t,rfl⟩:=rx;exact SeqAt.EqAt.bool_int a b t
  |str b=>obtain⟨t,rfl⟩:=rx;exact SeqAt.EqAt.bool_str a b t
  |_=>exact absurd (show false=true from fx) EE
 |int a=>
  obtain⟨t',rfl⟩:=ry
  cases x with
  |non=>cases rx;exact SeqAt.EqAt.int_none a t'
  |bl b=>cases rx;exact SeqAt.EqAt.int_bool a t' b
  |int b=>obtain⟨t,rfl⟩:=rx;exact SeqAt.EqAt.int_int a t' b t
  |str b=>obtain⟨t,rfl⟩:=rx;exact SeqAt.EqAt.int_str a t' b t
  |_=>exact absurd (show false=true from fx) EE
 |str a=>
  obtain⟨t',rfl⟩:=ry
  cases x with
  |non=>cases rx;exact SeqAt.EqAt.str_none a t'
  |bl b=>cases rx;exact SeqAt.EqAt.str_bool a t' b
  |int b=>obtain⟨t,rfl⟩:=rx;exact SeqAt.EqAt.str_int a t' b t
  |str b=>obtain⟨t,rfl⟩:=rx;exact SeqAt.EqAt.str_str a t' b t
  |_=>exact absurd (show false=true from fx) EE
 |_=>exact absurd (show false=true from fy) EE
def eqU (x:V)(u:H0):Bool:=match u with
 |.none=>eqV .non x
 |.bool b=>eqV (.bl b) x
 |.int i _=>eqV (.int i) x
 |.str z _=>eqV (.str z) x
 |_=>false
theorem rH {x y:V}{u:H0}(r:RelV y u)(f:KS y=true):eqU x u=eqV y x:=by
 cases y with
 |non=>cases r;rfl
 |bl b=>cases r;rfl
 |int i=>obtain⟨t,rfl⟩:=r;rfl
 |str z=>obtain⟨t,rfl⟩:=r;rfl
 |_=>exact absurd (show false=true from f) EE
theorem jd {x:V}: ∀ {xs:List V}{us:List H0},Vals xs us->xs.all KS=true->us.any (eqU x)=xs.any fun y=>eqV y x
 |_,_,.nil,_=>rfl
 |y::xs,u::us,.cons r t,f=>by
  rw[F4,ES] at f
  rw[Fv,Fv,rH r f.1,jd t f.2]
theorem eX {A:Ik}{s:Ii}{x:V}{v:H0}(rx:RelV x v)(fx:KS x=true): ∀ {xs:List V}{us:List H0},Vals xs us->xs.all KS=true-> ∀u∈us,SeqAt.EqAt A s u v (eqU x u)
 |_,_,.nil,_=>fun u hu=>by cases hu
 |y::xs,u::us,.cons r t,f=>fun u' hu=>by
  rw[F4,ES] at f
  rcases En.mp hu with rfl|hu
  ·rw[rH r f.1];exact Ck r rx f.1 fx
  ·exact eX rx fx t f.2 u' hu
def inV (x:V)(xs:List V):Bool:=xs.any fun y=>eqV y x
def rIn (K:PySem.W.Frag)(neg:Bool):R2:=fun x y H Q=> ∃p xs,y=.ref p/\(SqL K H p xs\/SqT K H p xs)/\KS x=true/\xs.all KS=true/\Q (.bl (if neg then !inV x xs else inV x xs)) H
theorem MH:OpR X (IM .In) (rIn X.K false):=by
 intro pins s σ H x y v u Q I rx ry h
 obtain⟨p,xs,rfl,hq,fx,fs,q⟩:=h
 cases ry
 rcases hq with hq|hq
 ·obtain⟨its,r,pl,hz⟩:=I.list hq
  refine SeqAt.in_listAt (eqU x) pl.isList (fun w hw=>eX rx fx r fs w (by simpa using hw)) ⟨.bl _,H,I,rfl,?_⟩
  rw[show its.toArray.any (eqU x)=its.any (eqU x) by simp,jd r fs]
  exact q
 ·obtain⟨its,r,pl,hz⟩:=I.tuple hq
  refine SeqAt.in_tupleAt (eqU x) pl (fun w hw=>eX rx fx r fs w (by simpa using hw)) ⟨.bl _,H,I,rfl,?_⟩
  rw[show its.toArray.any (eqU x)=its.any (eqU x) by simp,jd r fs]
  exact q
theorem MO:OpR X (IM .NotIn) (rIn X.K true):=by
 intro pins s σ H x y v u Q I rx ry h
 obtain⟨p,xs,rfl,hq,fx,fs,q⟩:=h
 cases ry
 rcases hq with hq|hq
 ·obtain⟨its,r,pl,hz⟩:=I.list hq
  refine SeqAt.notIn_listAt (eqU x) pl.isList (fun w hw=>eX rx fx r fs w (by simpa using hw)) ⟨.bl _,H,I,rfl,?_⟩
  rw[show its.toArray.any (eqU x)=its.any (eqU x) by simp,jd r fs]
  exact q
 ·obtain⟨its,r,pl,hz⟩:=I.tuple hq
  refine SeqAt.notIn_tupleAt (eqU x) pl (fun w hw=>eX rx fx r fs w (by simpa using hw)) ⟨.bl _,H,I,rfl,?_⟩
  rw[show its.toArray.any (eqU x)=its.any (eqU x) by simp,jd r fs]
  exact q
theorem MP:OpR X (IM .NotIn) (fun x y H Q=> ∃i j,x=.str i/\y=.str j/\Q (.bl (!(!(H9.Str.occurrences j i 0 j.length 1).isEmpty))) H):=by
 intro pins s σ H x y v u Q I rx ry h
 obtain⟨i,j,rfl,rfl,q⟩:=h
 obtain⟨t,rfl⟩:=rx
 obtain⟨t',rfl⟩:=ry
 exact notIn_str ⟨.bl _,H,I,rfl,q⟩
theorem nY:CallR X (.builtin "len") (fun xs H Q=> ∃p ys,xs=[.ref p]/\(SqL X.K H p ys\/SqT X.K H p ys)/\Q (.int ys.length) H):=by
 intro pins s σ H xs us Q I r h
 obtain⟨p,ys,rfl,hq,q⟩:=h
 obtain⟨u,rfl,rx⟩:=OS r
 cases rx
 have hn:=iu
 rcases hq with hq|hq
 ·obtain⟨its,r',pl,hz⟩:=I.list hq
  have hlen:=r'.length
  exact Calls.call_len_list pl.isList (by simp only[Ez]<;>omega) ⟨.int ys.length,H,I.tok _,⟨s.toks+1,by rw[Ez,hlen]⟩,q⟩
 ·obtain⟨its,r',pl,hz⟩:=I.tuple hq
  have hlen:=r'.length
  exact len_tuple pl (by simp only[Ez]<;>omega) ⟨.int ys.length,H,I.tok _,⟨s.toks+1,by rw[Ez,hlen]⟩,q⟩
theorem Ki:CallR X (.builtin "len") (fun xs H Q=> ∃z,xs=[.str z]/\z.length<=sizeLine/\Q (.int z.length) H):=by
 intro pins s σ H xs us Q I r h
 obtain⟨z,rfl,hz,q⟩:=h
 obtain⟨u,rfl,t,rfl⟩:=OS r
 have hn:=iu
 exact len_str (by omega) ⟨.int z.length,H,I.tok _,⟨_,rfl⟩,q⟩
theorem CallR.or {f:H0}{r r':List V->Hp->VK->Prop}(h:CallR X f r)(h':CallR X f r'):CallR X f (fun xs H Q=>r xs H Q\/r' xs H Q):=by
 intro pins s σ H xs us Q I rs q
 rcases q with q|q
 ·exact h pins s σ H xs us Q I rs q
 ·exact h' pins s σ H xs us Q I rs q
theorem nX:CallR X (.type "list") (fun xs H Q=> ∃p ys,xs=[.ref p]/\(SqL X.K H p ys\/SqT X.K H p ys)/\ ∀l,H l=none->Q (.ref l) (upd H l (.lst ys))):=by
 intro pins s σ H xs us Q I r h
 obtain⟨p,ys,rfl,hq,q⟩:=h
 obtain⟨u,rfl,rx⟩:=OS r
 cases rx
 have fin: ∀ (its:List H0),Vals ys its->ys.length<=sizeLine-> ∀ (h':Ie) (c':Nat),(∀b o',s.heap.get? b=some o'->h'.get? b=some o')->
   h'.get? s.heap.objs.size=some {cls:=.type "list",dict:=none,data:=.seq its.toArray c',slots:= #[]}->EP X pins σ Q (.ref s.heap.objs.size) {s with heap:=h'}:=fun its r' hz h' c' kp e=>
  ⟨.ref s.heap.objs.size,_,I.laid (t':=s.toks) kp (Em _) (show ObjOk X.prog X.w _ h' _ (.lst ys) from⟨hz,its,c',r',e⟩),rfl,q _ (I.hok.fresh (Em _))⟩
 rcases hq with hq|hq
 ·obtain⟨its,r',pl,hz⟩:=I.list hq
  have hlen:=r'.length
  obtain⟨o,ho,hc,n,hd⟩:=pl.isList
  exact call_list_seq p (.inl rfl) ho hc hd (fun h' c' kp e=>fin its r' hz h' c' kp e) (by simp only[Ez]<;>omega)
 ·obtain⟨its,r',pl,hz⟩:=I.tuple hq
  have hlen:=r'.length
  obtain⟨o,ho,hc,n,hd⟩:=pl
  exact call_list_seq p (.inr rfl) ho hc hd (fun h' c' kp e=>fin its r' hz h' c' kp e) (by simp only[Ez]<;>omega)
theorem lJ:CallR X (.type "tuple") (fun xs H Q=> ∃p ys,xs=[.ref p]/\((SqL X.K H p ys/\ ∀l,H l=none->Q (.ref l) (upd H l (.tup ys)))\/(SqT X.K H p ys/\Q (.ref p) H))):=by
 intro pins s σ H xs us Q I r h
 obtain⟨p,ys,rfl,h⟩:=h
 obtain⟨u,rfl,rx⟩:=OS r
 cases rx
 rcases h with⟨hq,q⟩|⟨hq,q⟩
 ·obtain⟨its,r',pl,hz⟩:=I.list hq
  have hlen:=r'.length
  refine call_tuple_list pl.isList (fun h' kp=>?_) (by simp only[Ez]<;>omega)
  have I1:Inv X pins σ H {s with heap:=h'}:=I.kept (t':=s.toks) kp
  have I2:Inv X pins σ (upd H h'.objs.size (.tup ys)) {s with heap:=h'.push {cls:=.type "tuple",data:=.seq its.toArray}}:=
   I1.laid (t':=s.toks) (fun b o e=>Ey _ e) (Em _) (show ObjOk X.prog X.w _ _ _ (.tup ys) from⟨hz,its,r',IsTupD.new _ _⟩)
  exact⟨.ref h'.objs.size,_,I2,rfl,q _ (I1.hok.fresh (Em _))⟩
 ·obtain⟨its,r',pl,hz⟩:=I.tuple hq
  exact call_tuple_same pl ⟨.ref p,H,I,rfl,q⟩
def tyV (K:PySem.W.Frag)(T:String)(x:V)(H:Hp):Prop:=match x with
 |.str _=>T= "str"
 |.int _=>T= "int"
 |.ref p=>(T= "list"/\ ∃xs,SqL K H p xs)\/(T= "tuple"/\ ∃o,K.lookup p=some o/\o.cls=.type "tuple"/\o.dict=none)\/
  (T= "dict"/\((∃kvs,H p=some (.dK kvs))\/ ∃kvs,H p=some (.dT kvs)))\/(T= "set"/\ ∃S n,H p=some (.set S n))
 |_=>False
theorem An {pins:List (Ig×Ij)}{σ:St}{H:Hp}{s:Ii}{T:String}{x:V}{v:H0}(I:Inv X pins σ H s)(r:RelV x v)(ty:tyV X.K T x H):
  s.TypeIs v T/\ ∀a,v=.ref a-> ∃ob,s.heap.get? a=some ob/\ob.dict=none:=by
 cases x with
 |str z=>
  obtain⟨t,rfl⟩:=r
  cases (show T= "str" from ty)
  exact⟨Jm s z t,fun _ e=>nomatch e⟩
 |int i=>
  obtain⟨t,rfl⟩:=r
  cases (show T= "int" from ty)
  exact⟨typeIs_int s i t,fun _ e=>nomatch e⟩
 |ref p=>
  cases r
  rcases ty with⟨rfl,xs,hq⟩|⟨rfl,o,hk,hc,hd⟩|⟨rfl,hk⟩|⟨rfl,S,n,hk⟩
  ·obtain⟨its,_,pl,_⟩:=I.list hq
   refine⟨pl.isList.typeIs,fun a e=>?_⟩
   cases e
   obtain⟨o,n,e,c,hd,_⟩:=pl
   exact⟨o,e,hd⟩
  ·refine⟨⟨o,I.kIn p o hk,hc⟩,fun a e=>?_⟩
   cases e
   exact⟨o,I.kIn _ o hk,hd⟩
  ·have z: ∃o,s.heap.get? p=some o/\o.ExactDict:=by
    rcases hk with⟨kvs,hk⟩|⟨kvs,hk⟩
    ·obtain⟨_,_,_,_,o,_,_,e,ex,_⟩:=I.hok p _ hk
     exact⟨o,e,ex⟩
    ·obtain⟨_,_,_,_,o,_,_,e,ex,_⟩:=I.hok p _ hk
     exact⟨o,e,ex⟩
   obtain⟨o,e,ex⟩:=z
   refine⟨⟨o,e,ex.1⟩,fun a e2=>?_⟩
   cases e2
   exact⟨o,e,ex.2.1⟩
  ·obtain⟨o,_,_,_,e,ex,_⟩:=I.hok p _ hk
   refine⟨⟨o,e,ex.1⟩,fun a e2=>?_⟩
   cases e2
   exact⟨o,e,ex.2.1⟩
 |_=>exact False.elim ty
def tBM (K:PySem.W.Frag)(T:String)(r:V->List V->Hp->VK->Prop)(to:TE)(t:TA):TE:=fun σ H Q=>to σ H fun x H1=>tyV K T x H1/\t σ H1 fun xs H2=>r x xs H2 Q
variable {o e:Expr}{es:List Expr}{to:TE}{t:TA}{name:Str}{apos cpos:IH}{T id:String}{r:V->List V->Hp->VK->Prop}
theorem su (pa:PlainAttrs T)(slot:Slot T name id)(hty:typeOf (.builtin id)=pure (.type "method_descriptor"))(hm:MtR X id r)(ho:PE X o to)(ha:PA X (e::es) t)
  (hbase:Jb o name X.env (IG o X.env)=IG o X.env:=by rfl)
  (hfew:((II cpos (IJ (e::es) X.env)).all (fun x=>!x.1) && (Jc cpos (Jd [] X.env)).all (fun x=>x.1.isSome)
   && decide ((e::es).length+([]:List Jh).length+(if ([]:List Jh).isEmpty then 0 else 1)<30))=true:=by rfl)
  (hline:(apos.endLine==cpos.line)=true:=by rfl)(hs:IJ (e::es) X.env=(false,IG e X.env)::IJ es X.env:=by rfl)(hplain:(II cpos (IJ es X.env)).any (·.1)=false:=by rfl):
  PE X (.Call (.Attribute o name apos) (e::es) [] cpos) (tBM X.K T r to t):=by
 intro pins s σ H Q I h
 refine wpAny_Call_method_late hbase hfew hline rfl (thn (ho pins s σ H _ I h) fun v s1 qz=>?_)
 obtain⟨x,H1,I1,r1,ty,q1⟩:=qz
 obtain⟨h1,h2⟩:=An I1 r1 ty
 refine⟨T,id,pa,slot,hty,h1,h2,?_⟩
 have hA:=ha cpos pins s1 σ H1 _ I1 q1
 rw[hs] at hA ⊢
 refine Calls.callWith_builtin (by show (false||(II cpos (IJ es X.env)).any (·.1))=false;rw[hplain]<;>rfl) (Calls.evalArgs_plain ?_)
 exact thn hA fun us s2 ⟨vs,H2,I2,r2,q2⟩=>hm pins s2 σ H2 x vs v us Q I2 r1 r2 q2
end
end
section
def MtM (X:Cx)(id:String)(r:V->List V->Hp->VK->Prop):Prop:=
 ∀ (pins:List (Ig×Ij)) (s:Ii) (σ:St) (H:Hp) (x:V) (xs:List V) (v:H0) (us:List H0) (Q:VK),Inv X pins σ H s->RelV x v->Vals xs us->r x xs H Q->
   Im (Io X.prog X.w) X.A (call (.builtin id) (v::us)) (EP X pins σ Q) X.xe s
theorem Vals.one: ∀ {x:V}{us:List H0},Vals [x] us-> ∃u,us=[u]/\RelV x u
 :=by
 intro x us h
 cases h with
 |cons r q=>cases q;exact⟨_,rfl,r⟩
theorem Vals.two: ∀ {x y:V}{us:List H0},Vals [x,y] us-> ∃u v,us=[u,v]/\RelV x u/\RelV y v
 :=by
 intro x y us h
 cases h with
 |cons r q=>
  cases q with
  |cons q z=>cases z;exact⟨_,_,rfl,r,q⟩
theorem Vals.reverse {xs:List V}{us:List H0}(h:Vals xs us):Vals xs.reverse us.reverse:=by
 induction h with
 |nil=>exact .nil
 |cons r t ih=>rw[Gm,Gm];exact Vals.append ih (.cons r .nil)
theorem Vals.rep {xs:List V}{us:List H0}(h:Vals xs us): ∀k:Nat,Vals (List.replicate k xs).flatten (List.replicate k us).flatten
 |0=>.nil
 |k+1=>by
  rw[FE,FE,FP,FP]
  exact Vals.append h (Vals.rep h k)
theorem mq (its:List H0): ∀ (k:Nat) (acc:List H0),
  GY (fun x1 x2=>x1++x2) acc.toArray (List.replicate k its.toArray)=(acc++(List.replicate k its).flatten).toArray
 |0,acc=>by simp
 |k+1,acc=>by
  have e:acc.toArray++its.toArray=(acc++its).toArray:=by simp
  have e2:(acc++its)++(List.replicate k its).flatten=acc++(List.replicate (k+1) its).flatten:=by
   rw[FE,FP,EQ]
  rw[<-e2,<-mq its k (acc++its),<-e,FE,GZ]
section
variable {X:Cx}{pins:List (Ig×Ij)}{σ:St}{H:Hp}{s:Ii}{l b:Ig}{xs ys zs:List V}
theorem Inv.lset {its its':List H0}{n:Nat}{f:Array H0->Array H0}{t':Nat}(I:Inv X pins σ H s)(hH:H l=some (.lst xs))
  (e:s.heap.get? l=some {cls:=.type "list",data:=.seq its.toArray n})(hf:f its.toArray=its'.toArray)(hv:Vals ys its')(hz:ys.length<=sizeLine):
  Inv X pins σ (upd H l (.lst ys)) {s with heap:=s.heap.update l (Ij.mapSeq f),toks:=t'}:=by
 have q:=PySem.IsL.update e f
 rw[hf] at q
 refine I.write (x:=l) (e:=l) (by rw[hH];exact trivial) (.inl rfl) (fun b' u hb hu=>(Hu s.heap (Ij.mapSeq f) (Ne.symm hb)).trans hu) ⟨_,q⟩ ?_
 exact⟨hz,its',_,hv,q⟩
theorem Inv.lnew {its:List H0}{t':Nat}(I:Inv X pins σ H s)(hv:Vals ys its)(hz:ys.length<=sizeLine):
  Inv X pins σ (upd H s.heap.objs.size (.lst ys)) {s with heap:=s.heap.push {cls:=.type "list",data:=.seq its.toArray},toks:=t'}:=
 I.laid (fun _ _ q=>Ey _ q) (Em _) ⟨hz,its,0,hv,EJ _ rfl⟩
theorem Inv.fresh (I:Inv X pins σ H s):H s.heap.objs.size=none:=I.hok.fresh (Em _)
theorem Inv.lstM (I:Inv X pins σ H s)(hH:H l=some (.lst xs)):xs.length<=sizeLine/\ ∃ (its:List H0) (n:Nat),Vals xs its/\xs.length=its.length/\s.heap.get? l=some {cls:=.type "list",data:=.seq its.toArray n}:=by
 obtain⟨z,its,n,r,e⟩:=I.hok l _ hH
 exact⟨z,its,n,r,r.length,e⟩
theorem o8 {n:Nat}(h:n<=sizeLine):H9.List.listTooLong n=false:=by
 unfold H9.List.listTooLong
 exact decide_eq_false (by omega)
end
section
variable {X:Cx}
def yv:V->List V->Hp->VK->Prop:=fun x vs H Q=> ∃l xs y,x=.ref l/\vs=[y]/\H l=some (.lst xs)/\xs.length<sizeLine/\Q .non (upd H l (.lst (xs++[y])))
theorem uu:MtM X "list.append" yv:=by
 intro pins s σ H x vs v us Q I rx rv h
 obtain⟨l,xs,y,rfl,rfl,hH,hz,q⟩:=h
 cases rx
 obtain⟨u,rfl,ru⟩:=rv.one
 obtain⟨z,its,n,r,hl,e⟩:=I.lstM hH
 refine Jo F.slot_list_append ⟨_,e,rfl⟩ F.entry_list_append (F.args_list_append_2 _ _) (PySem.list_append l its.toArray n u (by rw[Ez];omega)) ⟨e,?_⟩
 refine⟨.non,_,I.lset (its':=its++[u]) hH e (by simp) (r.append (.cons ru .nil)) ?_,rfl,q⟩
 rw[Ep,ER]
 omega
def yu:V->List V->Hp->VK->Prop:=fun x vs H Q=> ∃l b xs zs,x=.ref l/\vs=[.ref b]/\H l=some (.lst xs)/\H b=some (.lst zs)/\xs.length+zs.length<=sizeLine/\Q .non (upd H l (.lst (xs++zs)))
theorem CH:MtM X "list.extend" yu:=by
 intro pins s σ H x vs v us Q I rx rv h
 obtain⟨l,b,xs,zs,rfl,rfl,hH,hB,hz,q⟩:=h
 cases rx
 obtain⟨u,rfl,ru⟩:=rv.one
 cases ru
 obtain⟨z,its,n,r,hl,e⟩:=I.lstM hH
 obtain⟨z2,its2,n2,r2,hl2,e2⟩:=I.lstM hB
 have hsz:its.toArray.size+its2.toArray.size<=sizeLine:=by rw[Ez,Ez];omega
 have hlong: ¬(!its.toArray.isEmpty && H9.List.listTooLong (its.toArray.size+its2.toArray.size))=true:=by
  rw[o8 hsz,Bool.and_false]
  exact EE
 refine Jo F.slot_list_extend ⟨_,e,rfl⟩ F.entry_list_extend (F.args_list_extend_2 _ _)
  (AutoSeq1.list_extend_list_list_0 l its.toArray n b its2.toArray n2 hlong (by rw[Ez];omega) (by omega)) ⟨e,e2,?_⟩
 refine⟨.non,_,I.lset (its':=its++its2) hH e (by simp) (r.append r2) ?_,rfl,q⟩
 rw[Ep]
 omega
def rCat:R2:=fun x y H Q=> ∃l b xs zs,x=.ref l/\y=.ref b/\H l=some (.lst xs)/\H b=some (.lst zs)/\xs.length+zs.length<=sizeLine/\ ∀p,H p=none->Q (.ref p) (upd H p (.lst (xs++zs)))
theorem wb:OpR X (I0 .Add) rCat:=by
 intro pins s σ H x y v u Q I rx ry h
 obtain⟨l,b,xs,zs,rfl,rfl,hH,hB,hz,q⟩:=h
 cases rx
 cases ry
 obtain⟨z,its,n,r,hl,e⟩:=I.lstM hH
 obtain⟨z2,its2,n2,r2,hl2,e2⟩:=I.lstM hB
 refine PySem.P.add_list e e2 ?_ (by rw[Ez,Ez];omega)
 have ea:its.toArray++its2.toArray=(its++its2).toArray:=by simp
 rw[ea]
 exact⟨.ref _,_,I.lnew (t':=s.toks) (r.append r2) (by rw[Ep];omega),rfl,q _ I.fresh⟩
def rRep:R2:=fun x y H Q=> ∃l k xs,x=.ref l/\y=.int k/\H l=some (.lst xs)/\ -(2 ^ 63)<=k/\k<2 ^ 63/\xs.length * k.toNat<=sizeLine/\
 ∀p,H p=none->Q (.ref p) (upd H p (.lst (List.replicate k.toNat xs).flatten))
theorem zt {α:Type}(xs:List α)(k:Nat):(List.replicate k xs).flatten.length=k * xs.length:=by
 induction k with
 |zero=>simp
 |succ k ih=>rw[FE,FP,Ep,ih,Nat.succ_mul,FV]
theorem Bc:OpR X (I0 .Mult) rRep:=by
 intro pins s σ H x y v u Q I rx ry h
 obtain⟨l,k,xs,rfl,rfl,hH,h1,h2,hz,q⟩:=h
 cases rx
 obtain⟨t,rfl⟩:=ry
 obtain⟨z,its,n,r,hl,e⟩:=I.lstM hH
 have hlen:its.toArray.size * k.toNat<=sizeLine:=by rw[Ez,<-hl];exact hz
 have hcap: ¬its.toArray.size * k.toNat>(2 ^ 63 - 1) / 8:=by
  have:(sizeLine:Nat)<=(2 ^ 63 - 1) / 8:=by decide
  omega
 have hfit: ¬(!H9.List.listFitsIndex k)=true:=by
  rw[fitsIndex_both h1 h2]
  exact EE
 have hlong: ¬H9.List.listTooLong (its.toArray.size * k.toNat)=true:=by
  rw[o8 hlen]
  exact EE
 have hnew:GY (fun x1 x2=>x1++x2) #[] (List.replicate (if its.toArray.isEmpty=true then 0 else k.toNat) its.toArray)=(List.replicate k.toNat its).flatten.toArray:=by
  have f0: ∀m:Nat,GY (fun x1 x2=>x1++x2) #[] (List.replicate m its.toArray)=(List.replicate m its).flatten.toArray:=fun m=>by
   have:=mq its m []
   rw[Fd] at this
   exact this
  rw[f0]
  cases its with
  |nil=>simp
  |cons a r'=>rw[if_neg (by simp)]
 refine wpAny_binaryOp_repeat_ref (T:= "list") (U:= "int") (by decide) ⟨_,e,rfl⟩ (fun s'=>typeIs_int s' k t) noFill_list_mul F.fills_int_mul F.slot_int_rmul repeat_list F.slot_int_index.lookup
  (Jo F.slot_int_rmul (typeIs_int s k t) F.entry_int_rmul (F.args_int_rmul_2 _ _) (int___rmul___int_list k t l its.toArray n)
   ⟨e,rfl,⟨_,e,rfl⟩,Jo F.slot_list_mul ⟨_,e,rfl⟩ F.entry_list_mul (F.args_list_mul_2 _ _) (AutoListH.list___mul___list_int_3 l its.toArray n k t hfit hcap hlong) ⟨e,?_⟩⟩)
 rw[hnew]
 exact⟨.ref _,_,I.lnew (t':=s.toks) (r.rep k.toNat) (by rw[zt,Nat.mul_comm];exact hz),rfl,q _ I.fresh⟩
end
section
variable {prog:Ib}{w:Ic}{A:Ik}{E:H0->Ii->Prop}{s:Ii}
end
section
variable {X:Cx}
end
end
section
section
variable {κ:Type} [DecidableEq κ]
noncomputable def OR (kvs:List (κ×V))(k:κ):Option V:=(kvs.find? fun kv=>decide (kv.1=k)).map (·.2)
noncomputable def Nj (kvs:List (κ×V))(k:κ)(v:V):List (κ×V):=
 if (kvs.any fun kv=>decide (kv.1=k))=true then kvs.map (fun kv=>if kv.1=k then (kv.1,v) else kv) else kvs++[(k,v)]
theorem iG {p:κ×V}{r:List (κ×V)}{k:κ}(e:p.1=k):OR (p::r) k=some p.2:=by simp [OR,Fw,e]
theorem iH {p:κ×V}{r:List (κ×V)}{k:κ}(e:¬p.1=k):OR (p::r) k=OR r k:=by simp [OR,Fw,e]
theorem j8 (k:κ): ∀kvs:List (κ×V),(kvs.any fun kv=>decide (kv.1=k))=(OR kvs k).isSome
 |[]=>rfl
 |p::r=>by
  rw[Fv]
  by_cases e:p.1=k
  ·simp only[iG e,decide_eq_true e,Bool.true_or,Option.isSome_some]
  ·rw[iH e,decide_eq_false e,G3];exact j8 k r
theorem gI (kvs:List (κ×V))(k:κ)(v:V):(Nj kvs k v).length<=kvs.length+1:=by
 unfold Nj
 split
 ·rw[El];omega
 ·rw[Ep,Es,List.length_nil];omega
theorem RelO.isSome_eq {o:Option V}{u:Option H0}(r:RelO o u):o.isSome=u.isSome:=by
 cases o with
 |none=>cases u with
  |none=>rfl
  |some _=>exact (show False from r).elim
 |some _=>cases u with
  |none=>exact (show False from r).elim
  |some _=>rfl
theorem RelO.getD {o:Option V}{u:Option H0}{d:V}{d':H0}(r:RelO o u)(rd:RelV d d'):RelV (o.getD d) (u.getD d'):=by
 cases o with
 |none=>cases u with
  |none=>exact rd
  |some _=>exact (show False from r).elim
 |some _=>cases u with
  |none=>exact (show False from r).elim
  |some _=>exact r
theorem KV.val {kvs:List (κ×V)}{vs:List (κ×H0)}(r:KV kvs vs)(k:κ):RelO (OR kvs k) (valueAt vs k):=by
 unfold KV at r
 induction r with
 |nil=>exact True.intro
 | @cons p q ps qs h t ih=>
   obtain⟨h1,h2⟩:=h
   by_cases e:p.1=k
   ·have e':q.1=k:=h1.symm.trans e
    have b:valueAt (q::qs) k=some q.2:=by simp [valueAt,Fw,e']
    rw[iG e,b];exact h2
   ·have e': ¬q.1=k:=fun z=>e (h1.trans z)
    have b:valueAt (q::qs) k=valueAt qs k:=by simp [valueAt,Fw,e']
    rw[iH e,b];exact ih
theorem KV.any {kvs:List (κ×V)}{vs:List (κ×H0)}(r:KV kvs vs)(k:κ):(kvs.any fun kv=>decide (kv.1=k))=vs.any fun kv=>decide (kv.1=k):=by
 unfold KV at r
 induction r with
 |nil=>rfl
 |cons h t ih=>rw[Fv,Fv,ih,h.1]
theorem KV.repl {kvs:List (κ×V)}{vs:List (κ×H0)}(r:KV kvs vs)(k:κ){y:V}{u:H0}(ry:RelV y u):
  KV (kvs.map fun kv=>if kv.1=k then (kv.1,y) else kv) (vs.map fun kv=>if kv.1=k then (kv.1,u) else kv):=by
 unfold KV at r ⊢
 induction r with
 |nil=>exact .nil
 | @cons p q ps qs h t ih=>
   rw[Er,Er]
   refine .cons ?_ ih
   obtain⟨h1,h2⟩:=h
   by_cases e:p.1=k
   ·rw[if_pos e,if_pos (h1.symm.trans e)];exact⟨h1,ry⟩
   ·rw[if_neg e,if_neg (fun z=>e (h1.trans z))];exact⟨h1,h2⟩
theorem KV.put {kvs:List (κ×V)}{vs:List (κ×H0)}(r:KV kvs vs)(k:κ){y:V}{u:H0}(ry:RelV y u):KV (Nj kvs k y) (stored vs k u):=by
 unfold Nj stored
 rw[r.any k]
 by_cases e:(vs.any fun kv=>decide (kv.1=k))=true
 ·rw[if_pos e,if_pos e];exact r.repl k ry
 ·rw[if_neg e,if_neg e];exact Paired.snoc r ⟨rfl,ry⟩
theorem KV.length {kvs:List (κ×V)}{vs:List (κ×H0)}(r:KV kvs vs):kvs.length=vs.length:=Paired.length r
end
theorem pA {P:Ib}{w:Ic}{k:Key}{u:H0}(r:RelV (kV k) u):(bZ P w).is k u=true:=by
 cases k with
 |inl i=>obtain⟨t,e⟩:=(show∃t,u=H0.int i t from r);subst e;exact pf P w i t
 |inr x=>obtain⟨t,e⟩:=(show∃t,u=H0.str x t from r);subst e;exact pc P w x t
theorem jA {P:Ib}{w:Ic}: ∀ {ks:List Key}{us:List H0},Vals (ks.map kV) us->ItemsAre (bZ P w) ks us
 |[],_,r=>by rw[EV] at r;cases r;exact .nil
 |k::ks,_,r=>by
  rw[Er] at r
  cases r with
  |cons h t=>exact .cons (pA h) (jA t)
noncomputable abbrev KT (H:Hp):List (List Key×V)->List (List Key×Ig×H0)->Prop:=Paired fun p q=>p.1=q.1/\H q.2.1=some (.tup (p.1.map kV))/\RelV p.2 q.2.2
theorem KT.val {H:Hp}{kvs:List (List Key×V)}{xs:List (List Key×Ig×H0)}(r:KT H kvs xs)(k:List Key):RelO (OR kvs k) ((Jp xs k).map (·.2)):=by
 induction r with
 |nil=>exact True.intro
 | @cons p q ps qs h t ih=>
   obtain⟨h1,_,h2⟩:=h
   by_cases e:p.1=k
   ·have e':q.1=k:=h1.symm.trans e
    have b:Jp (q::qs) k=some q.2:=by simp [Jp,Fw,e']
    rw[iG e,b];exact h2
   ·have e': ¬q.1=k:=fun z=>e (h1.trans z)
    have b:Jp (q::qs) k=Jp qs k:=by simp [Jp,Fw,e']
    rw[iH e,b];exact ih
theorem KT.repl {H:Hp}{kvs:List (List Key×V)}{xs:List (List Key×Ig×H0)}(r:KT H kvs xs)(k:List Key){y:V}{u:H0}(ry:RelV y u):
  KT H (kvs.map fun kv=>if kv.1=k then (kv.1,y) else kv) (xs.map (putAt k u)):=by
 induction r with
 |nil=>exact .nil
 | @cons p q ps qs h t ih=>
   rw[Er,Er]
   refine .cons ?_ ih
   obtain⟨h1,h2,h3⟩:=h
   unfold putAt
   by_cases e:p.1=k
   ·rw[if_pos e,if_pos (h1.symm.trans e)];exact⟨h1,h2,ry⟩
   ·rw[if_neg e,if_neg (fun z=>e (h1.trans z))];exact⟨h1,h2,h3⟩
theorem KT.put {H:Hp}{kvs:List (List Key×V)}{xs:List (List Key×Ig×H0)}(r:KT H kvs xs)(k:List Key){b:Ig}{y:V}{u:H0}(hb:H b=some (.tup (k.map kV)))(ry:RelV y u):
  KT H (Nj kvs k y) (storedH xs k b u):=by
 have e:(kvs.any fun kv=>decide (kv.1=k))=(Jp xs k).isSome:=by
  rw[j8,(r.val k).isSome_eq,Gn]
 unfold Nj storedH
 rw[e]
 by_cases q:(Jp xs k).isSome=true
 ·rw[if_pos q,if_pos q];exact r.repl k ry
 ·rw[if_neg q,if_neg q];exact Paired.snoc r ⟨rfl,hb,ry⟩
theorem KT.keeps {H H':Hp}{kvs:List (List Key×V)}{xs:List (List Key×Ig×H0)}(r:KT H kvs xs)(ht: ∀b ys,H b=some (.tup ys)->H' b=some (.tup ys)):KT H' kvs xs:=
 Paired.mapP r fun _ _ z=>⟨z.1,ht _ _ z.2.1,z.2.2⟩
section
variable {P:Ib}{w:Ic}{H:Hp}{h:Ie}{a:Ig}
theorem Aa {u:HO}(ok:HOk P w H h)(e:Rd H a u):ObjOk P w H h a u:=e.ok ok
theorem ms {kvs:List (Key×V)}(ok:HOk P w H h)(e:Rd H a (.dK kvs)):kvs.length<=sizeLine/\(a==IA)=false/\ ∃vs,KV kvs vs/\h.DictOf (bZ P w) a vs:=
 show ObjOk P w H h a (.dK kvs) from Aa ok e
theorem DN {kvs:List (Key×V)}(ok:HOk P w H h)(e:H a=some (.dK kvs)):kvs.length<=sizeLine/\(a==IA)=false/\ ∃vs,KV kvs vs/\h.DictOf (bZ P w) a vs:=ms ok (.inl e)
theorem kS {ks:List Key}(ok:HOk P w H h)(e:H a=some (.tup (ks.map kV))):(IB (bZ P w)).is h ks a:=by
 obtain⟨_,its,r,⟨o,h1,h2,n,h3⟩,_⟩:=(show ObjOk P w H h a (.tup (ks.map kV)) from ok a _ e)
 exact⟨o,its.toArray,n,h1,h2,h3,by simpa using jA r⟩
theorem lj {kvs:List (List Key×V)}(ok:HOk P w H h)(e:Rd H a (.dT kvs)):kvs.length<=sizeLine/\(a==IA)=false/\
  ∃xs,KT H kvs xs/\h.DictOfH (IB (bZ P w)) a xs:=by
 obtain⟨z,y,xs,r,o,es,ep,h1,h2,h3,h4,h5⟩:=(show ObjOk P w H h a (.dT kvs) from Aa ok e)
 refine⟨z,y,xs,r,o,es,ep,h1,h2,h3,h4,fun x hx=>?_,h5⟩
 have all: ∀ {l:List (List Key×V)}{m:List (List Key×Ig×H0)},KT H l m-> ∀x∈m,(IB (bZ P w)).is h x.1 x.2.1:=by
  intro l m q
  induction q with
  |nil=>intro x hx;exact nomatch hx
  | @cons p q ps qs hq t ih=>
    intro x hx
    rcases En.mp hx with e|hx
    ·subst e
     exact kS ok (by rw[<-hq.1];exact hq.2.1)
    ·exact ih x hx
 exact all r x hx
theorem DM {kvs:List (List Key×V)}(ok:HOk P w H h)(e:H a=some (.dT kvs)):kvs.length<=sizeLine/\(a==IA)=false/\
 ∃xs,KT H kvs xs/\h.DictOfH (IB (bZ P w)) a xs:=lj ok (.inl e)
end
def JL (H:Hp)(a:Ig)(y:V)(r:Option V):Prop:=
 (∃kvs k,Rd H a (.dK kvs)/\y=kV k/\r=OR kvs k)\/ ∃kvs k b,Rd H a (.dT kvs)/\y=.ref b/\H b=some (.tup (k.map kV))/\r=OR kvs k
def DPut (H:Hp)(a:Ig)(y v:V)(H':Hp):Prop:=
 (∃kvs k,H a=some (.dK kvs)/\y=kV k/\kvs.length<sizeLine/\H'=upd H a (.dK (Nj kvs k v)))\/
 ∃kvs k b,H a=some (.dT kvs)/\y=.ref b/\H b=some (.tup (k.map kV))/\kvs.length<sizeLine/\H'=upd H a (.dT (Nj kvs k v))
section
variable {X:Cx}{pins:List (Ig×Ij)}{σ:St}{H:Hp}{s:Ii}{a:Ig}{y v:V}{u r:H0}{o:Option V}{A:Ik}{E:H0->Ii->Prop}
theorem Inv.big (I:Inv X pins σ H s):IA<s.heap.objs.size:=by
 have h:IC<s.heap.objs.size:=(I.mod.glob.keeps I.bk).lt
 exact Nat.lt_trans (by decide) h
theorem uS {Q:H0->Ii->Prop}(hu:A.units+1<Il)(I:Inv X pins σ H s)(g:JL H a y (some v))(ry:RelV y u)(h:∀w' s',Inv X pins σ H s'->RelV v w'->Q w' s'):
  Im (Io X.prog X.w) A (getItem (.ref a) u) Q E s:=by
 rcases g with⟨kvs,k,e,ey,l⟩|⟨kvs,k,b,e,ey,eb,l⟩
 ·subst ey
  obtain⟨z,hd,vs,rel,dd⟩:=ms I.hok e
  obtain⟨w',hw,rw'⟩:=RelO.some_of (v:=v) (o:=valueAt vs k) (by rw[l];exact rel.val k)
  exact wpAny_getItem_of (pA ry) dd.mapOf hw (h w' _ (I.tok _) rw')
 ·subst ey
  cases (show u=H0.ref b from ry)
  obtain⟨z,hd,xs,rel,dd⟩:=lj I.hok e
  obtain⟨w',hw,rw'⟩:=RelO.some_of (v:=v) (o:=(Jp xs k).map (·.2)) (by rw[l];exact rel.val k)
  obtain⟨p,hp,hp2⟩:=EH.mp hw
  refine wpAny_getItem_heap (Jq hu) (kS I.hok eb) dd hp ?_
  rw[hp2]
  exact h w' _ (I.tok _) rw'
theorem Ek {Q:H0->Ii->Prop}(hu:A.units+1<Il)(I:Inv X pins σ H s)(g:JL H a y o)(ry:RelV y u)(h:∀s',Inv X pins σ H s'->Q (.bool o.isSome) s'):
  Im (Io X.prog X.w) A (IM .In u (.ref a)) Q E s:=by
 rcases g with⟨kvs,k,e,ey,l⟩|⟨kvs,k,b,e,ey,eb,l⟩
 ·subst ey
  obtain⟨z,hd,vs,rel,dd⟩:=ms I.hok e
  refine wpAny_in_of (pA ry) hd dd.mapOf ?_
  rw[<-(rel.val k).isSome_eq,<-l]
  exact h _ (I.tok _)
 ·subst ey
  cases (show u=H0.ref b from ry)
  obtain⟨z,hd,xs,rel,dd⟩:=lj I.hok e
  refine wpAny_in_heap (Jq hu) (kS I.hok eb) hd dd ?_
  have q:=(rel.val k).isSome_eq
  rw[Gn] at q
  rw[<-q,<-l]
  exact h _ (I.tok _)
theorem zL {Q:H0->Ii->Prop}(hu:A.units+1<Il)(I:Inv X pins σ H s)(g:JL H a y o)(ry:RelV y u)(h:∀s',Inv X pins σ H s'->Q (.bool (!o.isSome)) s'):
  Im (Io X.prog X.w) A (IM .NotIn u (.ref a)) Q E s:=by
 rcases g with⟨kvs,k,e,ey,l⟩|⟨kvs,k,b,e,ey,eb,l⟩
 ·subst ey
  obtain⟨z,hd,vs,rel,dd⟩:=ms I.hok e
  refine wpAny_notIn_of (pA ry) hd dd.mapOf ?_
  rw[<-(rel.val k).isSome_eq,<-l]
  exact h _ (I.tok _)
 ·subst ey
  cases (show u=H0.ref b from ry)
  obtain⟨z,hd,xs,rel,dd⟩:=lj I.hok e
  refine wpAny_notIn_heap (Jq hu) (kS I.hok eb) hd dd ?_
  have q:=(rel.val k).isSome_eq
  rw[Gn] at q
  rw[<-q,<-l]
  exact h _ (I.tok _)
theorem nS {h':Ie}{t':Nat}{ob:HO}(I:Inv X pins σ H s)(mu:Mut (H a))(hs:Fb a s.heap h')(he: ∃q,h'.get? a=some q)(new:ObjOk X.prog X.w (upd H a ob) h' a ob):
  Inv X pins σ (upd H a ob) {s with heap:=h',toks:=t'}:=
 I.write (x:=a) (e:=a) mu (.inl rfl) (fun b q hb z=>(hs.2 b hb).trans z) he new
theorem Cl {P:Ib}{w:Ic}{H':Hp}{h':Ie}{kvs:List (Key×V)}{vs:List (Key×H0)}(z:kvs.length<=sizeLine)(hd:(a==IA)=false)(rel:KV kvs vs)(dd:h'.DictOf (bZ P w) a vs):
 ObjOk P w H' h' a (.dK kvs):=⟨z,hd,vs,rel,dd⟩
theorem uR {H':Hp}{Q:Unit->Ii->Prop}(hu:A.units+1<Il)(I:Inv X pins σ H s)(g:DPut H a y v H')(ry:RelV y u)(rv:RelV v r)(h:∀s',Inv X pins σ H' s'->Q () s'):
  Im (Io X.prog X.w) A (setItem (.ref a) u r) Q E s:=by
 rcases g with⟨kvs,k,e,ey,l,eH⟩|⟨kvs,k,b,e,ey,eb,l,eH⟩
 ·subst ey eH
  obtain⟨z,hd,vs,rel,dd⟩:=DN I.hok e
  have hz:vs.length<=sizeLine:=by rw[<-rel.length];exact z
  have hl:(Nj kvs k v).length<=sizeLine:=by have:=gI kvs k v;omega
  refine wpAny_setItem_pairs (hsz:=hz) (pA ry) dd fun h' dd' hs=>h _ ?_
  have he: ∃q,h'.get? a=some q:=let ⟨q,_,_,hq,_⟩:=dd';⟨q,hq⟩
  exact nS I (by rw[e];exact True.intro) hs he (Cl hl hd (rel.put k rv) dd')
 ·subst ey eH
  cases (show u=H0.ref b from ry)
  obtain⟨z,hd,xs,rel,dd⟩:=DM I.hok e
  have hz:xs.length<=sizeLine:=by rw[<-Paired.length rel];exact z
  have hl:(Nj kvs k v).length<=sizeLine:=by have:=gI kvs k v;omega
  refine wpAny_setItem_heap (hsz:=hz) (Jq hu) (kS I.hok eb) dd fun h' dd' hs=>h _ ?_
  obtain⟨q,es,ep,hq,h2,h3,h4,_,h5⟩:=dd'
  refine nS I (by rw[e];exact True.intro) hs ⟨q,hq⟩ ⟨hl,hd,_,(rel.put k eb rv).keeps fun c ys ec=>?_,q,es,ep,hq,h2,h3,h4,h5⟩
  rw[af (Dl ec e (fun z=>nomatch z))]
  exact ec
end
section
variable {X:Cx}{pins:List (Ig×Ij)}{σ:St}{H:Hp}{s:Ii}{a:Ig}{kvs:List (Key×V)}{k:Key}{u:H0}{A:Ik}{E:H0->Ii->Prop}
end
theorem pS {X:Cx}{pins:List (Ig×Ij)}{σ:St}{H:Hp}{s:Ii}{a:Ig}{y:V}{o:Option V}(I:Inv X pins σ H s)(g:JL H a y o):s.TypeIs (.ref a) "dict":=by
 rcases g with⟨kvs,k,e,_,_⟩|⟨kvs,k,b,e,_,_,_⟩
 ·obtain⟨_,_,vs,_,dd⟩:=ms I.hok e
  exact dd.typeIs
 ·obtain⟨_,_,xs,_,dd⟩:=lj I.hok e
  exact dd.typeIs
section
variable {X:Cx}{o i e value:Expr}{pos pos' tpos:IH}{td ty tv:TE}
end
theorem xr {P:Ib}{w:Ic}{H:Hp}(h:Ie)(hb:IA<h.objs.size):ObjOk P w H (h.push {cls:=.type "dict",data:=.dict #[]}) h.objs.size (.dT []):=
 ⟨EI _,beq_eq_false_iff_ne.mpr (Ne.symm (EK hb)),[],.nil,_,#[],0,EJ _ rfl,⟨rfl,rfl,rfl⟩,rfl,rfl,F5⟩
def Ay:TE:=fun _ H Q=> ∀p,H p=none->Q (.ref p) (upd H p (.dT []))
section
variable {X:Cx}{pos:IH}
theorem M3:PE X (.Dict [] [] pos) Ay:=fun pins s σ H Q I h=>
 wpAny_Dict_empty ⟨.ref s.heap.objs.size,_,I.laid (a:=s.heap.objs.size) (o:=.dT []) (t':=s.toks) (fun _ _ q=>Ey _ q) (Em _) (xr s.heap I.big),rfl,h _ (I.hok.fresh (Em _))⟩
end
structure M2 (X:Cx)(o:Expr)(m:Str)(apos:IH)(e f:Expr)(cpos:IH):Prop where
 base:Jb o m X.env (IG o X.env)=IG o X.env
 few:((II cpos (IJ [e,f] X.env)).all (fun x=>!x.1) && (Jc cpos (Jd [] X.env)).all (fun x=>x.1.isSome)
  && decide (([e,f]:List Expr).length+([]:List Jh).length+(if ([]:List Jh).isEmpty then 0 else 1)<30))=true
 line:(apos.endLine==cpos.line)=true
 trees:II cpos (IJ [e,f] X.env)=[(false,IG e X.env),(false,IG f X.env)]
def IsD (H:Hp)(a:Ig):Prop:=(∃kvs,Rd H a (.dK kvs))\/ ∃kvs,Rd H a (.dT kvs)
theorem Cf {X:Cx}{pins:List (Ig×Ij)}{σ:St}{H:Hp}{s:Ii}{a:Ig}(I:Inv X pins σ H s)(d:IsD H a):
  s.TypeIs (.ref a) "dict"/\(∀b,H0.ref a=.ref b-> ∃ob,s.heap.get? b=some ob/\ob.dict=none)/\(a==IA)=false:=by
 rcases d with⟨kvs,e⟩|⟨kvs,e⟩
 ·obtain⟨_,hd,vs,_,dd⟩:=ms I.hok e
  refine⟨dd.typeIs,fun b q=>?_,hd⟩
  cases q
  obtain⟨ob,_,_,h1,h2,_⟩:=dd
  exact⟨ob,h1,h2.2.1⟩
 ·obtain⟨_,hd,xs,_,dd⟩:=lj I.hok e
  refine⟨dd.typeIs,fun b q=>?_,hd⟩
  cases q
  obtain⟨ob,_,_,h1,h2,_⟩:=dd
  exact⟨ob,h1,h2.2.1⟩
section
variable {X:Cx}{pins:List (Ig×Ij)}{σ:St}{H:Hp}{s:Ii}{a:Ig}{y d:V}{u r:H0}{o:Option V}{A:Ik}{E:H0->Ii->Prop}
end
section
variable {X:Cx}{o e f:Expr}{apos cpos:IH}{td ty tx:TE}
end
section
variable {X:Cx}{pins:List (Ig×Ij)}{σ:St}{H:Hp}{s:Ii}{a:Ig}{kvs:List (Key×V)}{A:Ik}{E:H0->Ii->Prop}
end
section
variable {X:Cx}{pins:List (Ig×Ij)}{σ:St}{H:Hp}{s:Ii}{a:Ig}{y:V}{u:H0}{A:Ik}{E:H0->Ii->Prop}
end
end
end L2
namespace Att
open PySem PySem.W PySem.Calls PyProof.Rows
theorem jL {P:Params}{h:Ie}: ∀ (ns:List Int) (vs:List H0),WellAll P h vs (ns.map WData.int)->IntsAre vs ns:=by
 intro ns
 induction ns with
 |nil=>
  intro vs w
  rw[EV] at w
  cases w
  exact .nil
 |cons n ns ih=>
  intro vs w
  rw[Er] at w
  cases w with
  |cons a b=>
   cases a
   exact .cons _ _ (ih _ b)
theorem tY {l:OpenLaw}{n:Nat}(hn:l.most=some n){P:Params}{h:Ie}{args:List WData}{vals:List H0}
  (hpre:l.row.toRowW.claim.pre args=true)(hwl:WellAll P h vals args):
  ∃a vs ns,vals=[H0.ref a]/\args=[WData.list (ns.map WData.int)]/\h.get? a=some {cls:=.type "list",data:=.seq vs.toArray}/\IntsAre vs ns/\ns.length<=n:=by
 have hsh:WShape.hasAll [] args [.list .int]=true:=(pre_splitW hpre).1
 have hc:l.pre.holds [] {args:=args}=true:=(pre_splitW hpre).2
 obtain⟨d,r,rfl,h1,h2⟩:=hasAllW_cons hsh
 obtain rfl:=hasAllW_nil h2
 obtain⟨xs,rfl,h3⟩:=hasW_list h1
 obtain⟨ns,rfl⟩:=items_int h3
 have hlen:ns.length<=n:=by
  unfold OpenLaw.pre at hc
  have h4:(WTm.not (.lt (.lit (.int (n:Int))) (.len (.arg 0)))).holds [] {args:=[.list (ns.map .int)]}=true:=by
   have h4:=(holds_andW hc).1
   rw[hn] at h4
   exact h4
  have h5:=condW_of h4 (w_not (w_lt w_lit (w_len_list (w_arg rfl))))
  rw[El] at h5
  refine Nat.le_of_not_lt fun q=>?_
  have q':(n:Int)<((ns.length:Nat):Int):=by omega
  first
   |(rw[decide_eq_true q'] at h5;exact absurd h5 (by decide))
   |(simp at h5;omega)
 cases hwl with
 |cons w1 w2=>
  cases w2
  cases w1 with
  |list ho hall=>exact⟨_,_,ns,rfl,rfl,ho,jL ns _ hall,hlen⟩
theorem uc (l:OpenLaw)(args:List WData):l.row.toRowW.claim.post args (.bool true) args=true:=
 postW_of (r:=l.row.toRowW) (X:=(true==true))
  (show WShape.has [] (.bool true) .bool=true by first|rfl|decide|simp [WShape.has,WShape.arms,WShape.armsAll])
  (show (WTm.eq .res (.lit (.bool true))).value [] {args:=args,res:=some (.bool true),after:=args}=some (.bool (true==true)) from w_eq_bool (w_res rfl) w_lit) rfl
theorem attach_call {l:OpenLaw}{n:Nat}{q:Ib}{loose:List Str}{XP:(Str->Option H0)->Ie->Prop}{YP:Ic->Ie->Prop}{d:DefRec}
  (hn:l.most=some n)(hdf:d.params.defaults=[])
  (call: ∀ (w:Ic) (s₀ s₁:Ii) (mg mb:Str->Option H0) (fa:Ig) (o:Ij) (pm cd doc:H0) (a:Ig) (vs:List H0) (ns:List Int),
   Ground q loose [] XP w s₀ mg mb s₁.heap->YP w s₁.heap->
   s₁.heap.get? fa=some o->o.data=.func (docDef d.name d.params d.body d.scope pm cd doc)->s₁.heap.CodeRec cd d.name->mg d.name=some (.ref fa)->
   s₁.heap.get? a=some {cls:=.type "list",data:=.seq vs.toArray}->IntsAre vs ns->ns.length<=n->s₁.gens= #[]->
   codeAny (Io l.prog w) callerA (.call (.ref fa) ⟨[.ref a],[]⟩) (fun r s'=>r=.ok (.ret (.bool true))/\OldK s₁.heap s'.heap/\s'.os=s₁.os/\IF s'.gens) s₁):
  WalkO q loose XP YP l.row.toRowW d [] (fun f vs=>PySem.call f vs):=by
 intro w s₀ s₁ mg mb G Y fa o pm cd doc dV kV ho hd hcd hD hmg hg args vals as hpre hlay hrd hwl hlo
 obtain rfl:dV=.none:=Dflts.none hD hdf
 obtain rfl:kV=.none:=Dflts.noKw hD
 obtain⟨a,vs,ns,rfl,rfl,hobj,hints,hlen⟩:=tY hn hpre hwl
 refine enter_call (Jf (call w s₀ s₁ mg mb fa o pm cd doc a vs ns G Y ho (fd_plain hd) hcd hmg hobj hints hlen hg) fun r s' hq=>?_)
 obtain⟨rfl,h2,h3,h4⟩:=hq
 exact⟨.inl ⟨.bool true,.bool true,[],rfl,fun _=>rfl,.bool true,uc l _,fun _=>⟨G4.nil,fun _ hm=>(nomatch hm)⟩⟩,h2,h3,h4⟩
section
variable {prog:Ib}{w:Ic}{A:Ik}{E:H0->Ii->Prop}{s:Ii}{K:Frag}
noncomputable def Eh (h:Ie)(L d:Ig):List (Ig×Ij):=(List.range h.objs.size).filterMap fun a=>if a=L\/a=d then none else (h.get? a).map fun o=>(a,o)
end
end Att
namespace L2
open PySem PySem.Spec PyProof.Rows
theorem lP: ∀ {vs:List H0}{ns:List Int},IntsAre vs ns->Vals (ns.map V.int) vs
 |_,_,.nil=>.nil
 |_,_,.cons n t h=>.cons ⟨t,rfl⟩ (lP h)
def JZ (H:Hp):Prop:= ∀b,H b=none\/ ∃o xs,H b=some (.frz o (.lst xs))
theorem wV {P:Ib}{w:Ic}{K:PySem.W.Frag}{mg mb:Str->Option H0}{CX:CXT}{k:Nat}{fa a:Ig}{fd:Je}{x:Str}{sp:Sp}{s₁:Ii}{vs:List H0}{ns:List Int}
  (KX:K.In s₁.heap)(hns:s₁.heap.Ns IC mg)(hb:s₁.heap.Ns builtinsNs mb)(hbb: ∀x:Str,x≠ "__name__"->mb x=ID x)(hlim:s₁.heap.NoLimit)(hg:s₁.gens= #[])
  (ha:s₁.heap.get? a=some {cls:=.type "list",data:=.seq vs.toArray})(hi:IntsAre vs ns)(hl:ns.length<=sizeLine)(hr:Room k callerA)
  (F:∀base:Ie,K.In base->base.Ns IC mg->FnOk P w K mg base CX k fa fd [x] sp)(hbind: ∀ (s:Ii) (u:H0),BindsTo s fd ⟨[u],[]⟩ [(x,u)])
  (hsp: ∀H:Hp,JZ H->SqL K H a (ns.map V.int)->sp [.ref a] H (fun v _=>v=.bl true) fun _ _ _=>False)
  (hCX: ∀H e s',CX [] H s₁ (fun _ _ _=>False) e s'->False):
  codeAny (Io P w) callerA (.call (.ref fa) ⟨[.ref a],[]⟩) (fun r s'=>r=.ok (.ret (.bool true))/\OldK s₁.heap s'.heap/\s'.os=s₁.os/\IF s'.gens) s₁:=by
 have rv:=lP hi
 have lenV:=hi.length
 have core: ∀H:Hp,JZ H->SqL K H a (ns.map V.int)->HOk P w H s₁.heap->(∀b,H b≠none->b=a)->(H a≠none->K.lookup a=none)->
   codeAny (Io P w) callerA (.call (.ref fa) ⟨[.ref a],[]⟩) (fun r s'=>r=.ok (.ret (.bool true))/\OldK s₁.heap s'.heap/\s'.os=s₁.os/\IF s'.gens) s₁:=by
  intro H hO hS hok hA hK
  have base_of: ∀ {b:Ig}{o:Ij},s₁.heap.get? b=some o->H b=none->(K4 s₁.heap H).get? b=some o:=fun e n=>xc e n
  have noA: ∀ {b:Ig}{o:Ij}{es:Array DictEntry}{ep:Nat},s₁.heap.get? b=some o->o.data=.dict es ep->H b=none:=fun{b o es ep} e d=>by
   cases q:H b with
   |none=>rfl
   |some u=>
    have e':b=a:=hA b (by rw[q];simp)
    subst e'
    rw[ha] at e;cases e
    have d':Data.seq vs.toArray _=Data.dict es ep:=d
    cases d'
  have nsK: ∀ {b:Ig}{m:Str->Option H0},s₁.heap.Ns b m->(K4 s₁.heap H).Ns b m:=fun{b m} ⟨o,es,ep,e,d,r⟩=>⟨o,es,ep,base_of e (noA e d),d,r⟩
  have hKb:K.In (K4 s₁.heap H):=fun b o e=>base_of (KX b o e) (by
   cases q:H b with
   |none=>rfl
   |some u=>
    have e':b=a:=hA b (by rw[q];simp)
    subst e'
    rw[hK (by rw[q];simp)] at e;cases e)
  have hM:Mod K mg (K4 s₁.heap H):=⟨hKb,nsK hns,⟨mb,nsK hb,hbb⟩,let ⟨mc,h1,h2⟩:=hlim;⟨mc,nsK h1,h2⟩⟩
  have e0:Env0 P w K mg (K4 s₁.heap H) callerA [] s₁ H:=⟨rfl,hM,fun b o e=>yS e,FO (uN _ _),trivial,fun b hb=>absurd (show b∈([]:List Ig) from hb) (by simp),hok,.of_eq hg⟩
  refine Jf ((F _ hKb (nsK hns)).run callerA [] s₁ H ⟨[.ref a],[]⟩ [.ref a] [.ref a] _ _ hr e0 (hbind s₁ (.ref a)) (.cons rfl .nil) (hsp H hO hS)) fun r s' h=>?_
  cases r with
  |error e=>exact (hCX H e s' h).elim
  |ok fl=>
   cases fl with
   |next=>exact False.elim h
   |brk=>exact False.elim h
   |cont=>exact False.elim h
   |ret u=>
    obtain⟨v,H',os,bare,un,hok',r',q⟩:=h
    have q':v=.bl true:=q
    subst q'
    obtain rfl:u=H0.bool true:=r'
    refine⟨rfl,OldK.of_keep fun b o e=>?_,os,bare⟩
    cases q:H b with
    |none=>exact un.keep b o e q (by intro z;exact absurd (show b∈([]:List Ig) from z) (by simp)) (by simp)
    |some u=>
     rcases hO b with z|⟨ob,xs,z⟩
     ·rw[q] at z;cases z
     ·have z2:=un.frzs b ob _ z
      obtain⟨e1,_⟩:=hok b _ z
      obtain⟨e2,_⟩:=hok' b _ z2
      rw[e] at e1;cases e1
      exact e2
 cases hk:K.lookup a with
 |some o=>
  have e:=KX a o hk
  rw[ha] at e
  cases e
  refine core (fun _=>none) (fun _=>.inl rfl) (.inr ⟨_,vs.toArray,_,hk,rfl,rfl,rfl,by rw[Ez,lenV];exact hl,by simpa using rv⟩) (fun b u z=>by have z':(none:Option HO)=some u:=z;cases z') (fun b z=>absurd rfl z) fun z=>absurd rfl z
 |none=>
  refine core (fun b=>if b=a then some (.frz {cls:=.type "list",data:=.seq vs.toArray} (.lst (ns.map V.int))) else none) (fun b=>?_) (.inl (.inr ⟨{cls:=.type "list",data:=.seq vs.toArray},if_pos rfl⟩)) (fun b u z=>?_) (fun b z=>?_) fun _=>hk
  ·by_cases hb:b=a
   ·exact .inr ⟨_,_,if_pos hb⟩
   ·exact .inl (if_neg hb)
  ·by_cases hb:b=a
   ·have z':=(if_pos hb).symm.trans z
    cases z'
    subst hb
    exact⟨ha,by rw[El];exact hl,vs,_,rv,ha⟩
   ·have z':=(if_neg hb).symm.trans z
    cases z'
  ·by_cases hb:b=a
   ·exact hb
   ·exact absurd (if_neg hb) z
section
noncomputable abbrev KOf {K:PySem.W.Frag}{h:Ie}(_:K.In h):PySem.W.Frag:=K
theorem walk_of {l:PySem.W.OpenLaw}{n k:Nat}{q:Ib}{loose:List Str}{XP:(Str->Option H0)->Ie->Prop}{YP:Ic->Ie->Prop}{d:DefRec}{K:Params->PySem.W.Frag}{CX:Ic->CXT}{sp:Ic->Sp}{x:Str}
  (hn:l.most=some n)(hn2:n<=sizeLine)(hdf:d.params.defaults=[])(hr:Room k callerA)
  (hY: ∀ (w:Ic) (h:Ie),YP w h->(K w.params).In h)
  (F:∀ (w:Ic) (mg:Str->Option H0) (fa:Ig) (h:Ie),(K w.params).In h->h.Ns IC mg->mg d.name=some (.ref fa)->
    ∃fd:Je,(∀ (s:Ii) (u:H0),BindsTo s fd ⟨[u],[]⟩ [(x,u)])/\
     ∀base:Ie,(K w.params).In base->base.Ns IC mg->FnOk l.prog w (K w.params) mg base (CX w) k fa fd [x] (sp w))
  (hsp: ∀ (w:Ic) (H:Hp) (a:Ig) (ns:List Int),ns.length<=n->JZ H->SqL (K w.params) H a (ns.map V.int)->sp w [.ref a] H (fun v _=>v=.bl true) fun _ _ _=>False)
  (hCX: ∀ (w:Ic) (H:Hp) (s:Ii) (e:H0) (s':Ii),CX w [] H s (fun _ _ _=>False) e s'->False):
  PySem.W.WalkO q loose XP YP l.row.toRowW d [] (fun f vs=>PySem.call f vs):=by
 refine Att.attach_call hn hdf fun w s₀ s₁ mg mb fa o pm cd doc a vs ns G Y ho hd hcd hmg hobj hints hlen hg=>?_
 have KX:=hY w _ Y
 obtain⟨fd,hb,hF⟩:=F w mg fa _ KX G.T.g hmg
 exact wV KX G.T.g G.T.b G.T.builtins G.T.nolimit hg hobj hints (EG hlen hn2) hr hF hb (fun H hO hS=>hsp w H a ns hlen hO hS) fun H e s'=>hCX w H s₁ e s'
end
section
noncomputable def cc (s:IK)(j:Nat):IK:=match s with
 |.ClassDef _ _ _ body _ _ _ _ _ _ _=>body.getD j (.Pass ⟨0,0,0,0⟩)
 |_=>.Pass ⟨0,0,0,0⟩
noncomputable def cT (s:IK):Arguments:=match s with
 |.FunctionDef _ a _ _ _ _ _ _ _ _=>a
 |_=>{posonlyargs:=[],args:=[],vararg:=none,kwonlyargs:=[],kw_defaults:=[],kwarg:=none,defaults:=[]}
noncomputable def bC (s:IK):List IK:=match s with
 |.FunctionDef _ _ b _ _ _ _ _ _ _=>b
 |_=>[]
noncomputable def ae (s:IK):IE:=match s with
 |.FunctionDef _ _ _ _ _ _ sc _ _ _=>sc
 |_=>{kind:=.function,names:=[],isGenerator:=false,isCoroutine:=false}
noncomputable abbrev CX0:CXT:=fun _ _ _ _ _ _=>False
noncomputable abbrev E0:XK:=fun _ _ _=>False
theorem M0 {X:Cx}:ga CX0 X E0:=fun _ _ _ _ _ _ _ h=>h.elim
structure Fun (K:PySem.W.Frag)(x qual:Str)(st:IK)(f:Ig)(fd:Je):Prop where
 ex: ∃ (oc:H0) (od:Option Ig) (kV doc pm:H0) (an:Option Ig) (cdv ct:H0) (osl:Array (Option H0)),
  fd=fnOf x qual (cT st) (bC st) (ae st) .none kV doc pm an cdv ct/\K.lookup f=some ⟨oc,od,.func fd,osl⟩/\codeIn K cdv qual=true
 kp:HX K (.ref f)=true
section
variable {P:Ib}{w:Ic}{K:PySem.W.Frag}{mg:Str->Option H0}{base:Ie}
theorem Fun.ok {x qual:Str}{st:IK}{f:Ig}{fd:Je}{N ps:List Str}{k:Nat}{sp:Sp}(F:Fun K x qual st f fd)(S:JU N ps (ae st))(len: ∀vs H Q E,sp vs H Q E->vs.length=ps.length)
  (hbody: ∀ (cdv:H0) (A:Ik) (outer:List Env) (s:Ii) (H:Hp) (vs:List V) (Q:VK) (E:XK),Room k (A.deeper (Jj qual (ae st) s.heap.objs.size f cdv))->sp vs H Q E->
   ∃t,PSs (Kw CX0 P w K mg base N qual (ae st) f cdv A outer s H E).nox (bC st) t/\t {nx:=fun _ H'=>Q .non H',rt:=Q} (Oq N vs) H):FnOk P w K mg base CX0 (k+1) f fd ps sp:=by
 obtain⟨oc,od,kV,doc,pm,an,cdv,ct,osl,rfl,lk,hcd⟩:=F.ex
 refine Ai lk hcd S len fun A outer s H vs Q E hr hsp=>?_
 obtain⟨t,h,q⟩:=hbody cdv A outer s H vs Q E hr hsp
 exact⟨t,h.nox,q⟩
theorem Fun.binds {x qual:Str}{st:IK}{f:Ig}{fd:Je}{ps:List Str}(F:Fun K x qual st f fd)
  (h:∀ (kV doc pm:H0) (an:Option Ig) (cdv ct:H0) (us:List H0),us.length=ps.length->bindArgs (fnOf x qual (cT st) (bC st) (ae st) .none kV doc pm an cdv ct) ⟨us,[]⟩=pure (ps.zip us)):Binds K fd ps []:=by
 obtain⟨oc,od,kV,doc,pm,an,cdv,ct,osl,rfl,lk,hcd⟩:=F.ex
 exact .all (h kV doc pm an cdv ct)
theorem xi {x qual:Str}{st:IK}{f:Ig}{oc:H0}{od an:Option Ig}{osl:Array (Option H0)}{kV doc pm cdv ct:H0}(l:K.lookup f=some ⟨oc,od,.func (fnOf x qual (cT st) (bC st) (ae st) .none kV doc pm an cdv ct),osl⟩)
 (c:codeIn K cdv qual=true)(k:HX K (.ref f)=true):Fun K x qual st f (fnOf x qual (cT st) (bC st) (ae st) .none kV doc pm an cdv ct):=⟨⟨oc,od,kV,doc,pm,an,cdv,ct,osl,rfl,l,c⟩,k⟩
end
theorem Ah {A:Ik}{k:Nat}(hr:Room k A):A.units+1<Il:=E1 (G5 (by decide:1<=64) _) hr.units
theorem jo {n:Nat}(h:n<=1000):n<sizeLine:=E1 h (by decide)
section
variable {X:Cx}
theorem pv (i:Nat){x:Str}{pos:IH}(hN:X.N[i]?=some x:=by rfl)(hv:Vis X.env.scope x:=by first|exact Or.inl rfl|exact Or.inr (Or.inl rfl)|exact Or.inr (Or.inr rfl))(hd:(x==("__debug__":Str))=false:=by decide)
 (hcd:(x==("__classdict__":Str))=false:=by decide):PE X (.Name x pos) (OD i):=AU hN hv hd hcd
end
theorem Lp {A B:Prop}(h:B):if false=true then A else B:=by
 rw[if_neg EE]
 exact h
theorem Lq {A B:Prop}(h:A):if true=true then A else B:=by
 rw[if_pos rfl]
 exact h
theorem Lo {c A B:Prop} [Decidable c] (h1:c->A)(h2: ¬c->B):if c then A else B:=by
 by_cases h:c
 ·rw[if_pos h]
  exact h1 h
 ·rw[if_neg h]
  exact h2 h
def Same (H H':Hp):Prop:= ∀b o,H b=some o->H' b=some o
theorem Same.refl (H:Hp):Same H H:=fun _ _ h=>h
section
variable {κ:Type} [DecidableEq κ]
end
end
section
theorem ld {α β:Type}{f:α->β->Sem (ForInStep β)}(g:α->β->β): ∀ (l:List α) (c:β),(∀x∈l,∀c,f x c=pure (.yield (g x c)))->forIn l c f=pure (l.foldl (fun c x=>g x c) c)
 |[],_,_=>rfl
 |x::l,c,h=>by
  rw[E4,h x Eo,pure_bind]
  exact ld g l (g x c) fun y hy=>h y (EA _ hy)
noncomputable def cM (env:Env)(p:Str×Ji)(cs:List (Str×Ig)):List (Str×Ig):=if (p.2==Ji.free)=true then (p.1,(env.cells.lookup p.1).getD 0)::cs else cs
def Kp (scope:IE)(env:Env):List (Str×Ig):=scope.names.foldl (fun c x=>cM env x c) []
theorem rK {scope:IE}{env:Env}(h:∀p∈scope.names,p.2=.free-> ∃c,env.cells.lookup p.1=some c):closureFor scope env=pure (Kp scope env):=by
 unfold Kp
 simp only[closureFor]
 rw[ld (cM env)]
 ·rfl
 ·intro x hx c
  obtain⟨n,k⟩:=x
  by_cases hk:k=.free
  ·subst hk
   obtain⟨a,ha⟩:=h _ hx rfl
   have ha:env.cells.lookup n=some a:=ha
   simp [cM,cellOf,ha]
  ·have:(k==Ji.free)=false:=by simpa using hk
   simp [cM,this]
theorem lq (env:Env): ∀ (l:List (Str×Ji)) (c:List (Str×Ig)),(∀p∈l,p.2=.free-> ∃a,env.cells.lookup p.1=some a)->
  (∀y a,c.lookup y=some a->env.cells.lookup y=some a)-> ∀y a,(l.foldl (fun c x=>cM env x c) c).lookup y=some a->env.cells.lookup y=some a
 |[],_,_,h,y,a,e=>h y a e
 |(n,k)::r,c,hf,h,y,a,e=>by
  refine lq env r (cM env (n,k) c) (fun p hp=>hf p (EA _ hp)) (fun z b q=>?_) y a e
  unfold cM at q
  split at q
  ·rename_i hk
   obtain⟨d,hd⟩:=hf (n,k) Eo (by simpa using hk)
   have hd:env.cells.lookup n=some d:=hd
   rw[Fi] at q
   split at q
   ·rename_i hz
    have:z=n:=by simpa using hz
    subst this
    rw[hd] at q ⊢
    simpa using q
   ·exact h z b q
  ·exact h z b q
theorem pY (env:Env): ∀ (l:List (Str×Ji)) (c:List (Str×Ig)) (y:Str),(∃a,c.lookup y=some a)-> ∃a,(l.foldl (fun c x=>cM env x c) c).lookup y=some a
 |[],_,_,h=>h
 |(n,k)::r,c,y,h=>by
  refine pY env r _ y ?_
  show∃a,(cM env (n,k) c).lookup y=some a
  unfold cM
  split
  ·rw[Fi]
   split
   ·exact⟨_,rfl⟩
   ·exact h
  ·exact h
theorem tf (env:Env): ∀ (l:List (Str×Ji)) (c:List (Str×Ig)) (y:Str),(y,Ji.free)∈l-> ∃a,(l.foldl (fun c x=>cM env x c) c).lookup y=some a
 |(n,k)::r,c,y,h=>by
  rcases En.mp h with e|h
  ·obtain⟨rfl,rfl⟩:=Prod.mk.inj e
   refine pY env r _ y ⟨(env.cells.lookup y).getD 0,?_⟩
   show (cM env (y,.free) c).lookup y=_
   unfold cM
   rw[if_pos (by rfl),Fi]
   simp
  ·exact tf env r _ y h
structure CScope (X:Cx)(ls:List Str)(scope:IE):Prop where
 kind:scope.kind=.function
 nocell: ∀y∈scope.names,y.2≠.cell
 names: ∀y∈scope.names,y.2=.local ->scope.names.lookup y.1=some .local
 loc: ∀y,scope.names.lookup y=some .local ->y∈ls
 free: ∀y∈scope.names,y.2=.free->X.env.kindOf y.1=some .cell\/X.env.kindOf y.1=some .free
 noq: ∀y∈ls,∀k,scope.names.lookup ⟨#[63]++y.cps⟩≠some k
noncomputable def hid (ls:List Str)(y:Str):Str:=if ls.contains y then⟨#[63]++y.cps⟩ else y
def cxC (X:Cx)(ls:List Str)(scope:IE)(C:Ig)(s2:Ii)(H2:Hp)(fp:List Ig):Cx where
 prog:=X.prog
 w:=X.w
 K:=X.K
 mg:=X.mg
 base:=X.base
 A:=X.A
 N:=ls++X.N.map (hid ls)
 s₀:=s2
 H₀:=H2
 env:=compEnvC scope (Kp scope X.env) C X.env
 outer:=X.stack
 stack:=X.stack
 ex:=fp
 calm:=X.calm
 fn:=fun _=>false
 pn:=[]
 xe:=fun _ _=>False
theorem cB {env:Env}{y:Str}: ∀ {names:List (Str×Ji)}{k:Ji},(names.map fun (n,k)=>if (k==Ji.free && env.scope.kind==.function && env.kindOf n==some .cell) then (n,Ji.cell) else (n,k)).lookup y=some k->
  names.lookup y=some k\/(names.lookup y=some .free/\k=.cell)
 |[],_,h=>by simp at h
 |(n,j)::r,k,h=>by
  have ih:= @cB env y r k
  replace h:Fn y ((if (j==Ji.free && env.scope.kind==.function && env.kindOf n==some .cell)=true then (n,Ji.cell) else (n,j))::(r.map fun (n,k)=>if (k==Ji.free && env.scope.kind==.function && env.kindOf n==some .cell) then (n,Ji.cell) else (n,k)))=some k:=h
  by_cases hc:(j==Ji.free && env.scope.kind==.function && env.kindOf n==some .cell)=true
  ·rw[if_pos hc,Fi] at h
   rw[Fi]
   cases hx:y==n with
   |true=>
    rw[hx] at h
    simp only[ES] at hc
    have hj:j=.free:=by simpa using hc.1.1
    subst hj
    have h:some Ji.cell=some k:=h
    cases h
    exact .inr ⟨rfl,rfl⟩
   |false=>
    rw[hx] at h
    exact ih h
  ·rw[if_neg hc,Fi] at h
   rw[Fi]
   cases hx:y==n with
   |true=>rw[hx] at h;exact .inl h
   |false=>rw[hx] at h;exact ih h
def K5 (N ls:List Str)(σ:St):Bool:=true
theorem uL {X:Cx}{pins:List (Ig×Ij)}{σ:St}{H2:Hp}{s2:Ii}{ls:List Str}{scope:IE}{fp:List Ig}{C:Ig}{h1:Ie}{m:Str->Option H0}{tk:Nat}
  (I:Inv X pins σ H2 s2)(S:CScope X ls scope)(hh:K5 X.N ls σ=true)(f2: ∀b∈fp,JV X pins H2 b)(ho: ∀b∈fp,∃o,s2.heap.get? b=some o)(hC:s2.heap.objs.size<=C)(hn:h1.Ns C m)
  (old: ∀b o,s2.heap.get? b=some o->h1.get? b=some o):
  Inv (cxC X ls scope C s2 H2 fp) [] (List.replicate ls.length none++σ) H2 {s2 with heap:=h1,toks:=tk}:=by
 have cf: ∀p∈scope.names,p.2=.free-> ∃c,X.env.cells.lookup p.1=some c:=fun p hp e=>I.ok.has _ (S.free p hp e)
 have c1: ∀y a,(Kp scope X.env).lookup y=some a->X.env.cells.lookup y=some a:=lq X.env scope.names [] cf (fun y a e=>by simp at e)
 have c2: ∀y,scope.names.lookup y=some .free-> ∃a,(Kp scope X.env).lookup y=some a:=fun y hy=>tf X.env scope.names [] y (PySem.mem_of_lookup hy)
 have lt2: ∀b∈fp,b<s2.heap.objs.size:=fun b hb=>let ⟨o,e⟩:=ho b hb;Eu e
 have kinds: ∀y k,(Jr scope X.env).names.lookup y=some k->k=.cell\/k=.free->scope.names.lookup y=some .free:=fun y k h hk=>by
  rcases cB (env:=X.env) h with q|⟨q,_⟩
  ·rcases hk with rfl|rfl
   ·exact absurd rfl (S.nocell _ (PySem.mem_of_lookup q))
   ·exact q
  ·exact q
 refine⟨⟨I.ok.mod,S.kind,I.ok.glob,I.ok.blt,hC,fun x y c e1 e2=>I.ok.inj x y c (c1 x c e1) (c1 y c e2),fun x hx=>?_,fun x c h=>absurd h EE,I.ok.hd,I.ok.frames,.inl rfl,fun b hb=>⟨?_,fun x c e=>(f2 b hb).2.2.2.2.1 x c (c1 x c e)⟩,I.bs,EG I.ok.bsz I.sz,fun b o e hb=>?_,fun b hb hz=>?_,I.stack,I.stkFree⟩,
  rfl,I.bare,Un.kept old,⟨m,hn,fun i y v e1 e2 e3=>?_⟩,fun x c e=>?_,I.hok.fresh hC,fun x c e=>I.freeC x c (c1 x c e),fun p hp=>absurd (show p∈([]:List (Ig×Ij)) from hp) (by simp),I.hok.kept old,?_⟩
 ·have hx:(Jr scope X.env).names.lookup x=some .cell\/(Jr scope X.env).names.lookup x=some .free:=hx
  rcases hx with hx|hx
  ·exact c2 x (kinds x _ hx (.inl rfl))
  ·exact c2 x (kinds x _ hx (.inr rfl))
 ·exact EK (EM (lt2 b hb) hC)
 ·rcases (f2 b hb).2.2.2.1 with z|z
  ·exact I.ok.noex b o e z
  ·exact absurd (EM (Eu e) (EG I.ok.bsz z)) (Fz _)
 ·rcases En.mp (I.stkSub b hz) with z|z
  ·exact (f2 b hb).2.1 z
  ·exact (f2 b hb).2.2.1 z
 ·have e1:(ls++X.N.map (hid ls))[i]?=some y:=e1
  by_cases hi:i<ls.length
  ·rw[ET (by simpa using hi),GU] at e2
   rw[if_pos hi] at e2
   cases e2
  ·rw[Fp (by omega)] at e1
   rw[Fp (by simpa using hi),FD] at e2
   rw[ED] at e1
   obtain⟨y0,e1',ey⟩:=EH.mp e1
   have e3:(Jr scope X.env).names.lookup y=some .local \/(Jr scope X.env).names.lookup y=some .cell\/(Jr scope X.env).names.lookup y=some .free:=e3
   have ny:y0 ∉ ls:=fun hm=>by
    unfold hid at ey
    rw[if_pos (by simpa using hm)] at ey
    subst ey
    have no: ∀k,(Jr scope X.env).names.lookup ⟨#[63]++y0.cps⟩=some k->False:=fun k q=>by
     rcases cB (env:=X.env) q with z|⟨z,_⟩
     ·exact S.noq y0 hm _ z
     ·exact S.noq y0 hm _ z
    rcases e3 with q|q|q<;>exact no _ q
   unfold hid at ey
   rw[if_neg (by simpa using ny)] at ey
   rw[ey] at e1' ny
   have e1:=e1'
   have fr:scope.names.lookup y=some .free:=by
    rcases e3 with q|q|q
    ·rcases cB (env:=X.env) q with z|⟨_,z⟩
     ·exact absurd (S.loc y z) ny
     ·cases z
    ·exact kinds y _ q (.inl rfl)
    ·exact kinds y _ q (.inr rfl)
   have kx:=S.free _ (PySem.mem_of_lookup fr) rfl
   obtain⟨m2,_,hl⟩:=I.loc
   obtain⟨u,r,l⟩:=hl _ y v e1 e2 (.inr kx)
   refine⟨u,r,?_⟩
   have knd:(Jr scope X.env).names.lookup y=some .cell\/(Jr scope X.env).names.lookup y=some .free:=by
    rcases e3 with q|q
    ·rcases cB (env:=X.env) q with z|⟨_,z⟩
     ·exact absurd (S.loc y z) ny
     ·cases z
    ·exact q
   rcases l with⟨k1,_⟩|⟨_,c,hc,hcell⟩
   ·have kx:X.env.kindOf y=some .cell\/X.env.kindOf y=some .free:=kx
    rcases kx with z|z<;>(rw[k1] at z;cases z)
   ·obtain⟨c',hc'⟩:=c2 y fr
    have:=c1 y c' hc'
    rw[hc] at this
    cases this
    refine .inr ⟨knd,c,hc',?_⟩
    obtain⟨o,ho,hd⟩:=hcell
    exact⟨o,old _ _ ho,hd⟩
 ·obtain⟨v,o,ho,hd⟩:=I.cell x c (c1 x c e)
  exact⟨v,o,old _ _ ho,hd⟩
 ·show (List.replicate ls.length none++σ).length=(ls++X.N.map (hid ls)).length
  rw[Ep,Ep,FD,El,I.len]
theorem w5 {X:Cx}{pins:List (Ig×Ij)}{σ σ':St}{H2 H3:Hp}{s2 s':Ii}{ls:List Str}{scope:IE}{fp:List Ig}{C D:Ig}{h':Ie}{ys:List V}{its:List H0}{n:Nat}{pl:List (Ig×Ij)}
  (I:Inv X pins σ H2 s2)(f2: ∀b∈fp,JV X pins H2 b)(J:Inv (cxC X ls scope C s2 H2 fp) pl σ' H3 s')(hD:s2.heap.objs.size<=D)(hC:s2.heap.objs.size<=C)(hDC:D≠C)
  (sb:Fb C s'.heap h')(hD3:H3 D=none)(e:s'.heap.get? D=some {cls:=.type "list",data:=.seq its.toArray n})(r:Vals ys its)(z:ys.length<=sizeLine):Inv X pins σ (upd H3 D (.lst ys)) {s' with heap:=h'}:=by
 have ext: ∀b o,b≠C->s'.heap.get? b=some o->h'.get? b=some o:=fun b o hb e=>sb.extBut b o hb e
 have neD: ∀b,b<s2.heap.objs.size->b≠D:=fun b hb=>EK (EM hb hD)
 have neC: ∀b,b<s2.heap.objs.size->b≠C:=fun b hb=>EK (EM hb hC)
 have lt: ∀b u,H2 b=some u->b<s2.heap.objs.size:=fun b u q=>by
  apply Classical.byContradiction
  intro hb
  have:=I.hok.fresh (Nat.le_of_not_lt hb)
  rw[this] at q
  cases q
 have fC:H3 C=none:=J.free
 refine I.call' (s':={s' with heap:=h'}) (ch:=fp) J.os ⟨fun b o q n hb hx=>?_,fun b o q n hb hx=>?_,fun b o q n hx=>?_,fun b o q hx=>?_,fun b xs q=>?_,fun b o u q=>?_,fun b ps q=>?_⟩ (fun b u q=>?_) J.bare fun b hb=>?_
 ·exact ext b o (neC b (Eu q)) (J.base.keep b o q n hb hx)
 ·obtain⟨sl,w⟩:=J.base.slot b o q n hb hx
  exact⟨sl,ext b _ (neC b (Eu q)) w⟩
 ·rw[af (neD b (Eu q))]
  exact J.base.free b o q n hx
 ·obtain⟨o',w⟩:=J.base.there b o q hx
  exact⟨o',ext b _ (neC b (Eu q)) w⟩
 ·rw[af (neD b (lt b _ q))];exact J.base.tups b xs q
 ·rw[af (neD b (lt b _ q))];exact J.base.frzs b o u q
 ·rw[af (neD b (lt b _ q))];exact J.base.tbls b ps q
 ·by_cases hb:b=D
  ·subst hb
   rw[aq] at q
   cases q
   exact⟨z,its,n,r,ext _ _ hDC e⟩
  ·rw[af hb] at q
   have ne1:b≠C:=fun w=>by rw[w,fC] at q;cases q
   have ow: ∀c u,H3 c=some u->c≠D:=fun c u w z=>by rw[z,hD3] at w;cases w
   have oc: ∀c u,H3 c=some u->c≠C:=fun c u w z=>by rw[z,fC] at w;cases w
   refine (J.hok b u q).stay (fun c v hc w=>ext c v ?_ w) (fun c w=>by rw[af (ow c _ w)];exact w) fun c xs w=>by rw[af (ow c _ w)];exact w
   rcases hc with rfl|hc
   ·exact ne1
   ·exact oc c _ hc
 ·obtain⟨a1,a2,a3,a4,a5,a6⟩:=f2 b hb
  exact⟨a4,a2,a5,a6⟩
def J1 (X:Cx)(ifs:List Expr)(t:TT):Prop:=
 ∀ (pins:List (Ig×Ij)) (s:Ii) (σ:St) (H:Hp) (Q:Bool->Hp->Prop),Inv X pins σ H s->t σ H Q->
   Im (Io X.prog X.w) X.A (forIn ifs true fun c r=>if r=true then do let ok<-isTrue c X.env (IG c X.env);pure (ForInStep.yield ok) else pure (ForInStep.yield r)) (TP X pins σ Q) X.xe s
def OE:TT:=fun _ H Q=>Q true H
theorem nj {X:Cx}:J1 X [] OE:=fun _ _ _ H _ I h=>wpAny_tests_nil ⟨H,I,h⟩
theorem yx {X:Cx}{c:Expr}{t:TT}(h:PT X c t):J1 X [c] t:=fun pins s σ H Q I q=>wpAny_tests_one (h pins s σ H Q I q)
def JK (J:It)(ls:List Str)(g:TG)(tt:TT)(te:TE)(σ:St)(H1:Hp)(Q:VK):Prop:= ∃W:Nat->Nat->List V->Hp->Prop,(∃m,W 0 m [] H1)/\ ∀i m ys H,W i m ys H->
 (J.stop i H/\ ∀D,H D=none->Q (.ref D) (upd H D (.lst ys)))\/
 (J.go i H/\ ∃R:List V->Hp->Prop,(∀ys' H',R ys' H'-> ∃m',m'<m/\W (i+1) m' ys' H')/\ ∀y H',J.yld i H y H'->
  g y (List.replicate ls.length none++σ) H' fun σ2 H2=>σ2.drop ls.length=σ/\σ2.length=ls.length+σ.length/\tt σ2 H2 fun b H3=>if b=true then te σ2 H3 fun v H4=>ys.length<sizeLine/\R (ys++[v]) H4 else R ys H3)
def Ox (N ls:List Str)(wi:TI)(g:TG)(tt:TT)(te:TE):TE:=fun σ H Q=>K5 N ls σ=true/\wi σ H fun J H1=>JK J ls g tt te σ H1 Q
theorem gL {prog:Ib}{w:Ic}{A:Ik}{R:Result->Ii->Prop}{s:Ii}{elt target iter:Expr}{ifs:List Expr}{scope:IE}{pos:IH}{it acc:H0}{env:Env}(I:Nat->Ii->Prop)
  (turn: ∀n s,I n s->Im (Io prog w) A (IV it) (fun r s₁=>match r with
   |none=>R (.ok .next) s₁
   |some v=>Im (Io prog w) A (IW target it v) (fun _ s₁=>Im (Io prog w) A (assign target env v) (fun _ s₂=>
    Im (Io prog w) A (forIn ifs true fun c r=>if r=true then do let ok<-isTrue c env (IG c env);pure (ForInStep.yield ok) else pure (ForInStep.yield r)) (fun ok s₃=>
     if ok=true then Im (Io prog w) A (IG elt env) (fun x s₄=>
      Im (Io prog w) A (call (.builtin "list.append") [acc,x]) (fun _ s₅=> ∃m,m<n/\I m s₅) (notedBy (Io prog w) A env fun e s'=>R (.error e) s') s₄) (notedBy (Io prog w) A env fun e s'=>R (.error e) s') s₃
     else∃m,m<n/\I m s₃) (notedBy (Io prog w) A env fun e s'=>R (.error e) s') s₂) (notedBy (Io prog w) A env fun e s'=>R (.error e) s') s₁) (notedBy (Io prog w) A env fun e s'=>R (.error e) s') s₁) (notedBy (Io prog w) A env fun e s'=>R (.error e) s') s)
  (n:Nat)(h:I n s):
  codeAny (Io prog w) A (.compLoop (.ListComp elt [⟨target,iter,ifs,0⟩] scope pos) 0 it acc env) R s:=by
 refine codeAny_loop rfl I (fun n s hI=>?_) n h
 show Im _ A ((compTurn (.ListComp elt [⟨target,iter,ifs,0⟩] scope pos) 0 it acc env).onRaise (fun x=>do noteFrame x env;theTreesLotGoes x)) _ _ s
 refine wpAny_noted ?_
 rw[compTurn_list]
 refine Ip (wpAny_standAt (Ip (IL (turn n s hI) (fun r s₁ h₁=>?_) fun _ _ h'=>h')))
 cases r with
 |none=>exact Iu h₁
 |some v=>
  refine Ip (IL h₁ (fun _ s₁ h₁=>?_) fun _ _ h'=>h')
  refine Ip (IL h₁ (fun _ s₂ h₂=>Ip (IL h₂ (fun ok s₃ h₃=>?_) fun _ _ h'=>h')) fun _ _ h'=>h')
  cases ok with
  |false=>exact Iu ⟨rfl,h₃⟩
  |true=>
   exact Ip (Ip (IL h₃ (fun x s₄ h₄=>Ip (IL h₄ (fun _ s₅ h₅=>Iu (Iu ⟨rfl,h₅⟩)) fun _ _ h'=>h')) fun _ _ h'=>h'))
theorem thx {α:Type}{t:Sem α}{Q Q':α->Ii->Prop}{M:Model}{A:Ik}{E:H0->Ii->Prop}{s:Ii}(h:Im M A t Q (fun _ _=>False) s)(hQ: ∀a s,Q a s->Q' a s):Im M A t Q' E s:=IL h hQ fun _ _ x=>x.elim
section
variable {X:Cx}{elt iter tg:Expr}{ifs:List Expr}{scope:IE}{pos:IH}{ls:List Str}{wi:TI}{g:TG}{tt:TT}{te:TE}
theorem uT {use:Option (H0->Sem Unit)}{pins:List (Ig×Ij)}{s:Ii}{σ:St}{H:Hp}{Q:VK}{QQ:H0->Ii->Prop}{pos':IH}(hcalm:X.calm=true)(S:CScope X ls scope)(hi:PI X tg iter wi)
  (hg: ∀C s2 H2 fp,PG (cxC X ls scope C s2 H2 fp) tg g)(ht: ∀C s2 H2 fp,J1 (cxC X ls scope C s2 H2 fp) ifs tt)(he: ∀C s2 H2 fp,PE (cxC X ls scope C s2 H2 fp) elt te)
  (hs: ∀x,IZ iter X.env x=pure x)(I:Inv X pins σ H s)(h:Ox X.N ls wi g tt te σ H Q)
  (hQQ: ∀ (D C:Ig) (s':Ii) (H':Hp),(∃m,s'.heap.Ns C m)->JV X pins H' C->(∀h',Fb C s'.heap h'->Inv X pins σ H' {s' with heap:=h'})->Q (.ref D) H'->compPost (Io X.prog X.w) X.A X.xe use QQ (.ref D) C (.ok .next) s'):
  Im (Io X.prog X.w) X.A (comprehension (.ListComp elt [⟨tg,iter,ifs,0⟩] scope pos) scope X.env pos' (newList []) false (IG iter X.env) use) QQ X.xe s:=by
 obtain⟨hh,h⟩:=h
 have cf: ∀p∈scope.names,p.2=.free-> ∃c,X.env.cells.lookup p.1=some c:=fun p hp e=>I.ok.has _ (S.free p hp e)
 refine wpAny_comprehension_free (use:=use) rfl hs (rK cf) S.kind S.names (thn (hi pins s σ H _ I h) fun v s1 h1=>thn h1 fun itv s2 h2=>?_)
 obtain⟨it,fp,tn,J,H2,rfl,I2,T,st2,f2,W,⟨m0,w0⟩,turn⟩:=h2
 refine Jl (wpAny_newFunctionEnv S.nocell (by intro y hy;simp at hy) (fun h₁ hns₁ hsb₁=>?_) S.kind)
 dsimp only at hns₁ hsb₁ ⊢
 generalize hH2:s2.heap.push {cls:=.type "list",dict:=none,data:=.seq ([]:List H0).toArray}=G2 at hns₁ hsb₁ ⊢
 have hC:G2.objs.size=s2.heap.objs.size+1:=by rw[<-hH2,E7]
 have hDC:s2.heap.objs.size≠G2.objs.size:=by rw[hC];exact EK (GR _)
 have hCle:s2.heap.objs.size<=G2.objs.size:=by rw[hC];exact FZ _
 have old: ∀b o,s2.heap.get? b=some o->h₁.get? b=some o:=fun b o e=>hsb₁.extBut b o (EK (EM (Eu e) hCle)) (Ey _ (hH2▸Ey _ e))
 have hacc:h₁.get? s2.heap.objs.size=some {cls:=.type "list",data:=.seq ([]:List H0).toArray}:=hsb₁.extBut _ _ hDC (Ey _ (hH2▸EJ _ rfl))
 have hobj: ∀b∈fp,∃o,s2.heap.get? b=some o:=fun b hb=>let ⟨o,e,_⟩:=T.obj 0 _ st2 b hb;⟨o,e⟩
 have ltf: ∀b∈fp,b<s2.heap.objs.size:=fun b hb=>let ⟨o,e⟩:=hobj b hb;Eu e
 have nofD:s2.heap.objs.size ∉ (cxC X ls scope G2.objs.size s2 H2 fp).fs:=fun z=>by
  rcases En.mp (I2.stkSub _ z) with z|z
  ·exact absurd I2.lt (by rw[<-z];exact Fz _)
  ·exact I2.nofs (Em _) z
 have st1:tn 0 h₁:=T.keep 0 _ _ st2 fun b _ o e=>old b o e
 have J0: ∀tk,Inv (cxC X ls scope G2.objs.size s2 H2 fp) [] (List.replicate ls.length none++σ) H2 {s2 with heap:=h₁,toks:=tk}:=fun tk=>uL I2 S hh f2 hobj hCle hns₁ old
 have fpY: ∀ (Hx:Hp) (pl:List (Ig×Ij)),(∀b∈fp,Hx b=none)->(∀p∈pl,s2.heap.objs.size<=p.1)-> ∀b∈fp,JV (cxC X ls scope G2.objs.size s2 H2 fp) pl Hx b:=fun Hx pl hx hp b hb=>
  ⟨hx b hb,((J0 0).ok.exf b hb).1,(J0 0).ok.exfs b hb,.inl hb,((J0 0).ok.exf b hb).2,fun p hpp=>by
   have hpp:p∈pl:=by simpa [cxC] using hpp
   exact FK (EM (ltf b hb) (hp p hpp))⟩
 have loop: ∀s₃:Ii,s₃={s2 with heap:=h₁,toks:=s2.toks+([]:List (Str×H0)).length}->
   codeAny (Io X.prog X.w) X.A (.compLoop (.ListComp elt [⟨tg,iter,ifs,0⟩] scope pos) 0 (.ref it) (.ref s2.heap.objs.size) (compEnvC scope (Kp scope X.env) G2.objs.size X.env))
    (compPost (Io X.prog X.w) X.A X.xe use QQ (.ref s2.heap.objs.size) G2.objs.size) s₃:=by
  rintro s₃ rfl
  refine gL (fun n s'=> ∃ (i:Nat) (ys:List V) (its:List H0) (k:Nat) (H':Hp),Inv (cxC X ls scope G2.objs.size s2 H2 fp) [] (List.replicate ls.length none++σ) H' s'/\tn i s'.heap/\(∀b∈fp,H' b=none)/\H' s2.heap.objs.size=none/\
   s'.heap.get? s2.heap.objs.size=some {cls:=.type "list",data:=.seq its.toArray k}/\Vals ys its/\ys.length<=sizeLine/\W i n ys H') ?_ m0
   ⟨0,[],[],0,H2,J0 _,st1,fun b hb=>(f2 b hb).1,I2.hok.fresh (Em _),hacc,.nil,EI _,w0⟩
  rintro n s3 ⟨i,ys,its,k,H3,I3,st3,fr3,d3,e3,r3,z3,w3⟩
  have big: ∀p∈[((s2.heap.objs.size:Ig),({cls:=.type "list",data:=.seq its.toArray k}:Ij))],s2.heap.objs.size<=p.1:=fun p hp=>by
   have this:=EC.mp hp
   subst this
   exact Em _
  rcases turn i n ys H3 w3 with⟨stop,qn⟩|⟨go,R,hR,step⟩
  ·
   have P3:Inv (cxC X ls scope G2.objs.size s2 H2 fp) [(s2.heap.objs.size,{cls:=.type "list",data:=.seq its.toArray k})] (List.replicate ls.length none++σ) H3 s3:=I3.pins_of fun p hp=>by
    have this:=EC.mp hp
    subst this
    exact⟨e3,d3,hDC,nofD,fun v z=>by cases z⟩
   refine thx (T.done (cxC X ls scope G2.objs.size s2 H2 fp) rfl rfl rfl hcalm i _ s3 _ H3 (fun _ _=>False) P3 (fpY H3 _ fr3 big) st3 stop) fun r s4 qz=>?_
   obtain⟨hr,I4⟩:=qz
   subst hr
   obtain⟨m,hm,_⟩:=I4.loc
   have e4:=(I4.pin _ (E3 _ (EC.mpr rfl))).1
   exact hQQ _ _ s4 _ ⟨m,hm⟩ (I2.fpOk hCle (by rw[af (Ne.symm hDC)];exact I4.free)) (fun h' sb=>w5 I2 f2 I4 (Em _) hCle hDC sb d3 e4 r3 z3) (qn _ d3)
  ·
   have P3:Inv (cxC X ls scope G2.objs.size s2 H2 fp) [(s2.heap.objs.size,{cls:=.type "list",data:=.seq its.toArray k})] (List.replicate ls.length none++σ) H3 s3:=I3.pins_of fun p hp=>by
    have this:=EC.mp hp
    subst this
    exact⟨e3,d3,hDC,nofD,fun v z=>by cases z⟩
   refine thx (T.item (cxC X ls scope G2.objs.size s2 H2 fp) rfl rfl rfl hcalm i _ s3 _ H3 (fun _ _=>False) P3 (fpY H3 _ fr3 big) st3 go) fun r s4 qz=>?_
   obtain⟨u,hr,h4⟩:=qz
   subst hr
   refine thx h4 fun _ s5 qz=>?_
   obtain⟨x,H5,I5,r5,y5,st5,fr5⟩:=qz
   have I5':=I5.pinned (fpY H5 _ fr5 big) (T.obj _ _ st5)
   refine thx (hg _ _ _ _ _ s5 _ H5 x u _ I5' r5 (step x H5 y5)) fun _ s6 qz=>?_
   obtain⟨σ6,H6,I6,q6⟩:=qz
   obtain⟨dr,ln,q6⟩:=q6
   have back: ∀ {s7:Ii}{H7:Hp},Inv (cxC X ls scope G2.objs.size s2 H2 fp) ([((s2.heap.objs.size:Ig),({cls:=.type "list",data:=.seq its.toArray k}:Ij))]++kG fp s5.heap) σ6 H7 s7->
     Inv (cxC X ls scope G2.objs.size s2 H2 fp) [] (List.replicate ls.length none++σ) H7 s7/\tn (i+1) s7.heap/\(∀b∈fp,H7 b=none)/\H7 s2.heap.objs.size=none/\s7.heap.get? s2.heap.objs.size=some {cls:=.type "list",data:=.seq its.toArray k}:=fun{s7 H7} I7=>by
    have pD:=I7.pin _ (E3 _ (FY _ (EC.mpr rfl)))
    have pF: ∀b∈fp,∀o,s5.heap.get? b=some o->s7.heap.get? b=some o/\H7 b=none:=fun b hb o e=>by
     have q:=I7.pin (b,o) (E3 _ (E3 _ (ir hb e)))
     exact⟨q.1,q.2.1⟩
    refine⟨(I7.pins_of (pins':=[]) fun p hp=>absurd hp (by simp)).weak ?_ ?_,T.keep _ _ _ st5 fun b hb o e=>(pF b hb o e).1,fun b hb=>?_,pD.2.1,pD.1⟩
    ·rw[ln,Ep,FD]
    ·intro j v ej
     by_cases hj:j<ls.length
     ·rw[ET (by simpa using hj),GU,if_pos hj] at ej
      cases ej
     ·rw[Fp (by simpa using hj),FD,<-dr,G6] at ej
      rw[<-ej]
      congr 1
      omega
    ·obtain⟨o,e,_⟩:=T.obj _ _ st5 b hb
     exact (pF b hb o e).2
   refine thx (ht _ _ _ _ _ s6 σ6 H6 _ I6 q6) fun b s7 qz=>?_
   obtain⟨H7,I7,q7⟩:=qz
   cases b with
   |false=>
    rw[if_neg EE] at q7 ⊢
    obtain⟨m',hm,w7⟩:=hR _ _ q7
    obtain⟨a1,a2,a3,a4,a5⟩:=back I7
    exact⟨m',hm,i+1,ys,its,k,H7,a1,a2,a3,a4,a5,r3,z3,w7⟩
   |true=>
    rw[if_pos rfl] at q7 ⊢
    refine thx (he _ _ _ _ _ s7 σ6 H7 _ I7 q7) fun y s8 qz=>?_
    obtain⟨v,H8,I8,r8,z8,q8⟩:=qz
    obtain⟨m',hm,w8⟩:=hR _ _ q8
    obtain⟨a1,a2,a3,a4,a5⟩:=back I8
    have pl:s8.heap.PlainList s2.heap.objs.size its.toArray:=⟨k,a5⟩
    refine wpAny_list_append_plain (hsz:=by rw[Ez,<-r3.length];exact z3) pl fun h9 hl9 hs9=>?_
    obtain⟨k9,e9⟩:=hl9
    have cellN: ∀ (y:Str) (c:Ig),(cxC X ls scope G2.objs.size s2 H2 fp).env.cells.lookup y=some c->c≠s2.heap.objs.size:=fun y c e=>by
     have e1:X.env.cells.lookup y=some c:=lq X.env scope.names [] cf (fun y a e=>by simp at e) y c e
     obtain⟨v,o,ho,_⟩:=I2.cell y c e1
     exact EK (Eu ho)
    have I9:Inv (cxC X ls scope G2.objs.size s2 H2 fp) [] (List.replicate ls.length none++σ) H8 {s8 with heap:=h9}:=
     a1.turned (t':=s8.toks) (fun b o hb e=>hs9.extBut b o hb e) a4 hDC (.inr (Em _)) cellN (fun p hp=>absurd (show p∈([]:List (Ig×Ij)) from hp) (by simp))
    refine⟨m',hm,i+1,ys++[v],its++[y],k9,H8,I9,T.keep _ _ _ a2 fun b hb o e=>hs9.extBut b o (EK (ltf b hb)) e,a3,a4,?_,r3.append (.cons r8 .nil),?_,w8⟩
    ·simpa using e9
    ·rw[Ep,ER];exact z8
 exact codeAny_compStart_list (loop _ rfl) (T.self _ 0 _ _ _ st1 (loop _ rfl))
theorem nq (hcalm:X.calm=true)(S:CScope X ls scope)(hi:PI X tg iter wi)
  (hg: ∀C s2 H2 fp,PG (cxC X ls scope C s2 H2 fp) tg g)(ht: ∀C s2 H2 fp,J1 (cxC X ls scope C s2 H2 fp) ifs tt)(he: ∀C s2 H2 fp,PE (cxC X ls scope C s2 H2 fp) elt te)
  (hs: ∀x,IZ iter X.env x=pure x:=by intro _;rfl):PE X (.ListComp elt [⟨tg,iter,ifs,0⟩] scope pos) (Ox X.N ls wi g tt te):=by
 intro pins s σ H Q I h
 rw[eval_ListComp]
 refine uT (use:=none) hcalm S hi hg ht he hs I h fun D C s' H' hm _ hI q=>?_
 obtain⟨m,hm⟩:=hm
 exact⟨m,hm,fun h' sb=>⟨.ref D,H',hI h' sb,rfl,q⟩⟩
end
end
section
noncomputable def sW (ls:List Str)(sc outer:IE):Bool:=(sc.kind==.function && ls.all fun y=>(sc.names.lookup ⟨#[63]++y.cps⟩).isNone) && sc.names.all fun y=>(y.2 !=.cell) && (y.2 !=.local ||(sc.names.lookup y.1==some .local && ls.contains y.1)) && (y.2 !=.free||outer.names.lookup y.1==some .cell||outer.names.lookup y.1==some .free)
theorem CScope.of {X:Cx}{ls:List Str}{scope:IE}(outer:IE)(h:sW ls scope outer=true:=by decide+kernel)(ho:X.env.scope=outer:=by rfl):CScope X ls scope:=by
 unfold sW at h
 rw[ES,Fk] at h
 obtain⟨h0,h⟩:=h
 rw[ES,Fk] at h0
 obtain⟨h0,hq⟩:=h0
 refine⟨by simpa using h0,fun y hy e=>?_,fun y hy e=>?_,fun y hy=>?_,fun y hy e=>?_,fun y hy k e=>by have q:=hq y hy;rw[e] at q;cases q⟩
 ·have q:=h y hy
  simp [e] at q
 ·have q:=h y hy
  simp [e] at q
  exact q.1
 ·have q:=h _ (PySem.mem_of_lookup hy)
  simp at q
  exact q.2
 ·have q:=h y hy
  simp [e] at q
  show X.env.scope.names.lookup y.1=_\/X.env.scope.names.lookup y.1=_
  rw[ho]
  exact q
noncomputable def CMulB (i j:Int):Prop:=i.natAbs<2 ^ 65536/\j.natAbs<2 ^ 65536
theorem tp {i:Int}{n:Nat}(h:i.natAbs<2 ^ n):H9.Int.intBits i<=n:=by
 unfold H9.Int.intBits
 split
 ·exact EI _
 ·rename_i hz
  have hz':i.natAbs≠0:=by
   intro e
   exact hz (by simp_all)
  have:=(Nat.log2_lt hz').mpr h
  omega
theorem CMulB.ok {i j:Int}(h:CMulB i j):IntMulOk i j:=.of_bits (EG (tp h.1) (by decide)) (EG (tp h.2) (by decide))
section
variable {X:Cx}
theorem d8: ∀ {ns:List Int}{us:List H0},Vals (ns.map V.int) us->IntsAre us ns
 |[],_,.nil=>.nil
 |n::r,_,.cons h t=>by
  obtain⟨tk,rfl⟩:=h
  exact .cons n tk (d8 t)
theorem xD (hc:X.calm=true):CallR X (.builtin "sum") (fun xs H Q=> ∃ (p:Ig) (ns:List Int),xs=[.ref p]/\SqL X.K H p (ns.map V.int)/\Q (.int ns.sum) H):=by
 intro pins s σ H xs us Q I r h
 obtain⟨p,ns,rfl,hq,q⟩:=h
 obtain⟨u,rfl,ru⟩:=OS r
 cases ru
 obtain⟨its,rv,pl,hz⟩:=I.list hq
 have hi:=d8 rv
 obtain⟨xs,e⟩:=hi.allInts.items
 have hl:s.heap.IsList p (intItems xs):=by rw[<-e];exact pl.isList
 refine sum_intListG (I.ok.hd hc) hl fun h' tk t' hk=>?_
 have es:preSum (Js xs) xs.size=ns.sum:=by
  rw[preSum_eq,Go (by simp),<-nums_intItems,<-e]
  rw[show its.toArray.toList=its from rfl,hi.numsOf]
 exact⟨.int ns.sum,H,I.kept (t':=tk) hk,⟨t',by rw[es]⟩,q⟩
theorem Kh:CallR X (.builtin "isinstance") (fun xs H Q=> ∃ (x c:V) (cv t:H0) (b:Bool),xs=[x,c]/\RelV c cv/\J8 X.K H x t/\kitOne X.K t cv=some b/\Q (.bl b) H):=by
 intro pins s σ H xs us Q I r h
 obtain⟨x,c,cv,t,b,rfl,rc,ty,e,q⟩:=h
 obtain⟨u,u',rfl,ru,ru'⟩:=OT r
 have:u'=cv:=by
  cases c with
  |ref a=>cases rc;cases ru';rfl
  |ty n=>cases rc;cases ru';rfl
  |non=>cases rc;cases ru';rfl
  |bl _=>cases rc;cases ru';rfl
  |int _=>obtain⟨t1,rfl⟩:=rc;exact absurd e (by simp [kitOne,PySem.W.kitCls];intro h;cases ty<;>cases h)
  |str _=>obtain⟨t1,rfl⟩:=rc;exact absurd e (by simp [kitOne,PySem.W.kitCls];intro h;cases ty<;>cases h)
  |byt _=>obtain⟨t1,rfl⟩:=rc;exact absurd e (by simp [kitOne,PySem.W.kitCls];intro h;cases ty<;>cases h)
  |flt _=>obtain⟨t1,rfl⟩:=rc;exact absurd e (by simp [kitOne,PySem.W.kitCls];intro h;cases ty<;>cases h)
 subst this
 exact uI I ru ty e fun tk=>⟨.bl b,H,I.tok tk,rfl,q⟩
mutual
inductive Den (K:PySem.W.Frag)(H:Hp):V->Jt->Prop
 |non:Den K H .non .none
 |bl (b):Den K H (.bl b) (.bool b)
 |int (i):Den K H (.int i) (.int i)
 |str (x):Den K H (.str x) (.str x)
 |lst {a xs ds}:SqL K H a xs->JM K H xs ds->Den K H (.ref a) (.list ds)
 |tup {a xs ds}:SqT K H a xs->JM K H xs ds->Den K H (.ref a) (.tuple ds)
inductive JM (K:PySem.W.Frag)(H:Hp):List V->List Jt->Prop
 |nil:JM K H [] []
 |cons {x xs d ds}:Den K H x d->JM K H xs ds->JM K H (x::xs) (d::ds)
end
mutual
theorem fk {pins:List (Ig×Ij)}{σ:St}{H:Hp}{s:Ii}(I:Inv X pins σ H s): ∀ {x:V}{d:Jt}{u:H0},Den X.K H x d->RelV x u-> ∃as,Reads s.heap u d as
 |_,_,_,.non,r=>by cases r;exact⟨_,.none⟩
 |_,_,_,.bl b,r=>by cases r;exact⟨_,.bool b⟩
 |_,_,_,.int i,r=>by obtain⟨t,rfl⟩:=r;exact⟨_,.int i t⟩
 |_,_,_,.str i,r=>by obtain⟨t,rfl⟩:=r;exact⟨_,.str i t⟩
 |_,_,_,.lst hq ha,r=>by
  cases r
  obtain⟨its,rv,⟨o,n,e1,e2,e3,e4⟩,hz⟩:=I.list hq
  obtain⟨as,h⟩:=f6 I ha rv
  exact⟨_,.list e1 e2 e4 (by simpa using h)⟩
 |_,_,_,.tup hq ha,r=>by
  cases r
  obtain⟨its,rv,⟨o,e1,e2,n,e3⟩,hz⟩:=I.tuple hq
  obtain⟨as,h⟩:=f6 I ha rv
  exact⟨_,.tuple e1 e2 e3 (by simpa using h)⟩
theorem f6 {pins:List (Ig×Ij)}{σ:St}{H:Hp}{s:Ii}(I:Inv X pins σ H s): ∀ {xs:List V}{ds:List Jt}{us:List H0},JM X.K H xs ds->Vals xs us-> ∃as,ReadsAll s.heap us ds as
 |_,_,_,.nil,.nil=>⟨_,.nil⟩
 |_,_,_,.cons h t,.cons r rs=>by
  obtain⟨as,h1⟩:=fk I h r
  obtain⟨bs,h2⟩:=f6 I t rs
  exact⟨_,.cons h1 h2⟩
end
def Nn (K:PySem.W.Frag)(A:Ik)(neg:Bool):R2:=fun x y H Q=> ∃d e,Den K H x d/\Den K H y e/\d.canLay0=true/\e.canLay0=true/\A.units+min d.depth e.depth<Il/\Q (.bl (if neg then !Jt.eqv d e else Jt.eqv d e)) H
theorem Bj:OpR X (IM .Eq) (Nn X.K X.A false):=by
 intro pins s σ H x y v u Q I rx ry h
 obtain⟨d,e,hd,he,cd,ce,hu,q⟩:=h
 obtain⟨as,ra⟩:=fk I hd rx
 obtain⟨bs,rb⟩:=fk I he ry
 exact SeqAt.compareEq_reads ra rb cd ce hu ⟨.bl _,H,I,rfl,q⟩
theorem Be:OpR X (IM .NotEq) (Nn X.K X.A true):=by
 intro pins s σ H x y v u Q I rx ry h
 obtain⟨d,e,hd,he,cd,ce,hu,q⟩:=h
 obtain⟨as,ra⟩:=fk I hd rx
 obtain⟨bs,rb⟩:=fk I he ry
 exact SeqAt.compareNe_reads ra rb cd ce hu ⟨.bl _,H,I,rfl,q⟩
end
end
section
def CXx (P:Ib)(w:Ic):CXT:=fun outer H s E e s'=>
 ∃ (ea:Ig) (cls a0:H0) (H':Hp) (B:Ie),e=.ref ea/\s'.os=s.os/\IF s'.gens/\Un (frs outer) [] H H' s.heap s'.heap/\HOk P w H' s'.heap/\Ie.FlyingW B outer ea cls a0 s'.heap/\
   (∀b o,s'.heap.get? b=some o->b ∉ frs outer->(H' b≠none\/ ∃o',s.heap.get? b=some o')->B.get? b=some o)/\s.heap.get? ea=none/\H' ea=none/\E cls none H'
theorem HOk.there {P:Ib}{w:Ic}{H:Hp}{h:Ie}(x:HOk P w H h){a:Ig}{o:HO}(e:H a=some o): ∃ob,h.get? a=some ob:=by
 have q:=x a o e
 cases o with
 |lst xs=>obtain⟨_,its,n,_,e⟩:=q;exact⟨_,e⟩
 |tup xs=>obtain⟨_,its,_,⟨ob,e,_⟩,_⟩:=q;exact⟨_,e⟩
 |dK kvs=>obtain⟨_,_,vs,_,ob,es,ep,e,_⟩:=q;exact⟨_,e⟩
 |dT kvs=>obtain⟨_,_,xs,_,ob,es,ep,e,_⟩:=q;exact⟨_,e⟩
 |dN b xs ep=>obtain⟨_,_,xs,_,ob,es,e,_⟩:=q;exact⟨_,e⟩
 |set S n=>obtain⟨ob,_,_,_,e,_⟩:=q;exact⟨_,e⟩
 |ins C dx fs=>obtain⟨_,_,_,e,_⟩:=q;exact⟨_,e⟩
 |own y=>exact q
 |xd fs=>obtain⟨_,⟨_,_,_,e,_⟩,_⟩:=q;exact⟨_,e⟩
 |met f y=>exact⟨_,q⟩
 |rng lo hi=>obtain⟨_,_,_,e⟩:=q;exact⟨_,e⟩
 |frz ob u=>exact⟨_,q.1⟩
 |tbl ps=>exact⟨_,q⟩
 |ext φ=>exact q.2.1
structure InDef (X:Cx):Prop where
 stk:X.stack=X.env::X.outer
 fr:X.env.frame=some X.env.locals
 ex:X.ex=[]
theorem InDef.frs {X:Cx}(D:InDef X):frs X.stack=X.env.locals::X.fs:=by
 rw[D.stk]
 unfold L2.frs
 rw[FX,D.fr]
 rfl
section
variable {X:Cx}{pins:List (Ig×Ij)}{σ:St}{H:Hp}{s:Ii}
theorem Inv.frame_obj (I:Inv X pins σ H s){b:Ig}(hb:b∈frs X.stack): ∃o,s.heap.get? b=some o/\ ∀vs,o.data≠.fields vs:=(I.stack.mem hb).2
theorem pN (I:Inv X pins σ H s)(D:InDef X){h':Ie}{e:Ig}{C:H0}{args:List H0}(hx:G7 s.heap h' e C args){M:Model}{Q:Unit->Ii->Prop}{E:H0->Ii->Prop}
  (hQ: ∀ (h'':Ie) (a0:H0) (B:Ie),Ie.FlyingW B X.outer e C a0 h''->(∀b o,s.heap.get? b=some o->b ∉ frs X.stack->B.get? b=some o)->(∀b∈frs X.stack,B.get? b=none)->s.heap.UpToSlots h''->Q () {s with heap:=h''}):
  Im M X.A (leaving X.env (.ref e)) Q E {s with heap:=h'}:=by
 have hin: ∀env∈X.stack,∀b,env.frame=some b->b∈frs X.stack:=fun env he b hb=>GQ.mpr ⟨env,he,hb⟩
 have hl:=PySem.W.funFrames_hide I.stack hin
 have fr:=I.ok.frames
 rw[D.stk] at fr
 have hl':s.heap.FunFrames (PySem.W.hideAll s.heap (frs X.stack)) (X.env::X.outer):=by rw[<-D.stk];exact hl
 exact wpAny_leaves_madeW (s:={s with heap:=h'}) fr D.fr (fun b o q=>PySem.W.of_hideAll _ q) hl' hx fun h'' t x1 x2 x3 x4=>
  hQ h'' (.ref t) _ x1 (fun b o q hb=>PySem.W.hideAll_get _ q hb) (fun b hb=>PySem.W.hideAll_none _ hb) ((Ie.UpToSlots.of_keeps hx.keeps).trans x4)
end
section
variable {P:Ib}{w:Ic}{K:PySem.W.Frag}{mg:Str->Option H0}{base:Ie}{N:List Str}{qual:Str}{scope:IE}{f:Ig}{cd:H0}{A:Ik}{outer:List Env}{s:Ii}{H:Hp}{E:XK}
theorem kY {CX:CXT}:InDef (Kw CX P w K mg base N qual scope f cd A outer s H E):=⟨rfl,rfl,rfl⟩
theorem mW {pins:List (Ig×Ij)}{σ:St}{H1:Hp}{s1:Ii}{h':Ie}{e:Ig}{C:H0}{args:List H0}(I:Inv (Kw (CXx P w) P w K mg base N qual scope f cd A outer s H E) pins σ H1 s1)
  (hx:G7 s1.heap h' e C args)(hE:E C none H1):(Kw (CXx P w) P w K mg base N qual scope f cd A outer s H E).xe (.ref e) {s1 with heap:=h'}:=by
 refine pN I kY hx fun h'' a0 B fl cov nof up=>?_
 have fr2: ∀b,b∈frs (Kw (CXx P w) P w K mg base N qual scope f cd A outer s H E).stack↔b=s.heap.objs.size\/b∈frs outer:=fun b=>by
  rw[(kY (CX:=CXx P w)).frs]
  exact En
 have old: ∀b o,s.heap.get? b=some o->b≠s.heap.objs.size:=fun b o q=>EK (Eu q)
 have keepB: ∀b o,s1.heap.get? b=some o->b≠s.heap.objs.size->b ∉ frs outer->h''.get? b=some o:=fun b o q h1 h2=>fl.1 b o (cov b o q fun z=>((fr2 b).mp z).elim h1 h2)
 have tr: ∀b u,H1 b=some u->b≠s.heap.objs.size/\b ∉ frs outer:=fun b u q=>by
  refine⟨fun z=>?_,fun z=>?_⟩
  ·have:=I.stkFree b ((fr2 b).mpr (.inl z));rw[this] at q;cases q
  ·have:=I.stkFree b ((fr2 b).mpr (.inr z));rw[this] at q;cases q
 have slotB: ∀b o,s1.heap.get? b=some o->b∈frs outer-> ∃sl,h''.get? b=some {o with slots:=sl}:=fun b o q hb=>by
  obtain⟨o',e',nd⟩:=I.frame_obj ((fr2 b).mpr (.inr hb))
  rw[q] at e';cases e'
  exact up b o q nd
 have baseU:Un (frs outer) [] H H1 s.heap s1.heap:=I.base
 refine⟨e,C,a0,H1,B,rfl,I.os,I.bare,⟨fun b o q n hb hx=>?_,fun b o q n hb hx=>?_,fun b o q n hx=>baseU.free b o q n hx,fun b o q hx=>?_,baseU.tups,baseU.frzs,baseU.tbls⟩,fun b u q=>?_,fl,fun b o q hb hh=>?_,?_,?_,hE⟩
 ·exact keepB b o (baseU.keep b o q n hb hx) (old b o q) hb
 ·obtain⟨sl,q1⟩:=baseU.slot b o q n hb hx
  obtain⟨sl',q2⟩:=slotB b _ q1 hb
  exact⟨sl',q2⟩
 ·obtain⟨o',q1⟩:=baseU.there b o q hx
  by_cases hb:b∈frs outer
  ·obtain⟨sl',q2⟩:=slotB b _ q1 hb
   exact⟨_,q2⟩
  ·exact⟨o',keepB b o' q1 (old b o q) hb⟩
 ·refine (I.hok b u q).stay (fun c v hc r=>?_) (fun _ r=>r) fun _ _ r=>r
  have: ∃u,H1 c=some u:=by
   rcases hc with rfl|hc
   ·exact⟨u,q⟩
   ·exact⟨_,hc⟩
  obtain⟨u',qu⟩:=this
  exact keepB c v r (tr c u' qu).1 (tr c u' qu).2
 ·have: ∃o1,s1.heap.get? b=some o1/\b≠s.heap.objs.size:=by
   rcases hh with hh|⟨o',hh⟩
   ·cases qu:H1 b with
    |none=>exact absurd qu hh
    |some u=>
     obtain⟨o1,q1⟩:=I.hok.there qu
     exact⟨o1,q1,(tr b u qu).1⟩
   ·obtain⟨o1,q1⟩:=baseU.there b o' hh (by simp)
    exact⟨o1,q1,old b o' hh⟩
  obtain⟨o1,q1,hne⟩:=this
  have q2:=keepB b o1 q1 hne hb
  rw[q] at q2
  cases q2
  exact cov b o q1 fun z=>((fr2 b).mp z).elim hne hb
 ·cases q:s.heap.get? e with
  |none=>rfl
  |some o'=>
   obtain⟨o1,q1⟩:=baseU.there e o' q (by simp)
   rw[hx.new] at q1;cases q1
 ·cases q:H1 e with
  |none=>rfl
  |some u=>
   obtain⟨o1,q1⟩:=I.hok.there q
   rw[hx.new] at q1;cases q1
theorem d4:ga (CXx P w) (Kw (CXx P w) P w K mg base N qual scope f cd A outer s H E) E:=by
 intro pins σ H1 s1 e s2 I hc
 obtain⟨ea,cls,a0,H2,B,rfl,os,bare,un,hok,fly,cov,new,hn,hE⟩:=hc
 have frm:=I.ok.frames
 refine wpAny_leaves_onW (show (A.deeper (Jj qual scope s.heap.objs.size f cd)).frames=some (Jj qual scope s.heap.objs.size f cd::outer) from frm) rfl fly fun h' fl up=>?_
 have fr2: ∀b,b∈frs (Kw (CXx P w) P w K mg base N qual scope f cd A outer s H E).stack↔b=s.heap.objs.size\/b∈frs outer:=fun b=>by
  rw[(kY (CX:=CXx P w)).frs]
  exact En
 have old: ∀b o,s.heap.get? b=some o->b≠s.heap.objs.size:=fun b o q=>EK (Eu q)
 have baseU:Un (frs outer) [] H H1 s.heap s1.heap:=I.base
 have frN: ∀b,b∈frs (Kw (CXx P w) P w K mg base N qual scope f cd A outer s H E).stack->H2 b=none:=fun b hb=>by
  obtain⟨o,q,_⟩:=I.frame_obj hb
  exact un.free b o q (I.stkFree b hb) (by simp)
 have tr: ∀b u,H2 b=some u->b ∉ frs (Kw (CXx P w) P w K mg base N qual scope f cd A outer s H E).stack:=fun b u q z=>by rw[frN b z] at q;cases q
 have slotB: ∀b o,s2.heap.get? b=some o->b∈frs (Kw (CXx P w) P w K mg base N qual scope f cd A outer s H E).stack-> ∃sl,h'.get? b=some {o with slots:=sl}:=fun b o q hb=>by
  obtain⟨o',e',nd⟩:=(fly.2.2.1.mem hb).2
  rw[q] at e';cases e'
  exact up b o q nd
 have noSt: ∀b o,s.heap.get? b=some o->b ∉ frs outer->b ∉ frs (Kw (CXx P w) P w K mg base N qual scope f cd A outer s H E).stack:=fun b o q hb z=>((fr2 b).mp z).elim (old b o q) hb
 refine⟨ea,cls,a0,H2,B,rfl,os.trans I.os,bare,⟨fun b o q n hb hx=>?_,fun b o q n hb hx=>?_,fun b o q n hx=>?_,fun b o q hx=>?_,fun b xs q=>un.tups b xs (baseU.tups b xs q),fun b o u q=>un.frzs b o u (baseU.frzs b o u q),fun b ps q=>?_⟩,fun b u q=>?_,fl,fun b o q hb hh=>?_,?_,hn,hE⟩
 ·have q1:=baseU.keep b o q n hb hx
  have q2:=un.keep b o q1 (baseU.free b o q n hx) (noSt b o q hb) hx
  exact fl.1 b o (cov b o q2 (noSt b o q hb) (.inr ⟨o,q1⟩))
 ·obtain⟨sl,q1⟩:=baseU.slot b o q n hb hx
  obtain⟨sl2,q2⟩:=un.slot b _ q1 (baseU.free b o q n hx) ((fr2 b).mpr (.inr hb)) hx
  obtain⟨sl3,q3⟩:=slotB b _ q2 ((fr2 b).mpr (.inr hb))
  exact⟨sl3,q3⟩
 ·obtain⟨o1,q1⟩:=baseU.there b o q hx
  exact un.free b o1 q1 (baseU.free b o q n hx) hx
 ·obtain⟨o1,q1⟩:=baseU.there b o q hx
  obtain⟨o2,q2⟩:=un.there b o1 q1 hx
  by_cases hb:b∈frs outer
  ·obtain⟨sl,q3⟩:=slotB b o2 q2 ((fr2 b).mpr (.inr hb))
   exact⟨_,q3⟩
  ·exact⟨o2,fl.1 b o2 (cov b o2 q2 (noSt b o q hb) (.inr ⟨o1,q1⟩))⟩
 ·obtain⟨m1,e1⟩:=baseU.tbls b ps q
  obtain⟨m2,e2⟩:=un.tbls b _ e1
  exact⟨m1++m2,by rw[e2,Hr]⟩
 ·refine (hok b u q).stay (fun c v hc r=>?_) (fun _ r=>r) fun _ _ r=>r
  have: ∃u,H2 c=some u:=by
   rcases hc with rfl|hc
   ·exact⟨u,q⟩
   ·exact⟨_,hc⟩
  obtain⟨u',qu⟩:=this
  exact fl.1 c v (cov c v r (tr c u' qu) (.inl (by rw[qu];simp)))
 ·have: ∃o2,s2.heap.get? b=some o2/\B.get? b=some o2:=by
   rcases hh with hh|⟨o',hh⟩
   ·cases qu:H2 b with
    |none=>exact absurd qu hh
    |some u=>
     obtain⟨o2,q2⟩:=hok.there qu
     exact⟨o2,q2,cov b o2 q2 (tr b u qu) (.inl hh)⟩
   ·obtain⟨o1,q1⟩:=baseU.there b o' hh (by simp)
    obtain⟨o2,q2⟩:=un.there b o1 q1 (by simp)
    exact⟨o2,q2,cov b o2 q2 (noSt b o' hh hb) (.inr ⟨o1,q1⟩)⟩
  obtain⟨o2,q2,q3⟩:=this
  have q4:=fl.1 b o2 q3
  rw[q] at q4
  cases q4
  exact q3
 ·cases q:s.heap.get? ea with
  |none=>rfl
  |some o'=>
   obtain⟨o1,q1⟩:=baseU.there ea o' q (by simp)
   rw[new] at q1;cases q1
end
end
section
noncomputable def Its (x:Str):It:=⟨fun i _=>i<x.cps.size,fun i H v H'=>H'=H/\ ∃c,x.cps.toList[i]?=some c/\v=.str ⟨#[c]⟩,fun i _=>i=x.cps.size⟩
theorem qx (x:Str):["enumerate", "zip", "dict_itemiterator", "dict_reverseitemiterator", "odict_iterator", "itertools.zip_longest", "itertools.pairwise"].contains (Ju x)=false:=by
 unfold Ju
 split<;>decide
theorem lN {prog:Ib}{w:Ic}{A:Ik}(hh:A.handled=none)(I:Ig)(x:Str)(t:Tok):Walks prog w A I [I] [I] x.cps.size (SignAt x) (fun i h=>h.IsStrIter I (Ju x) x t i):=by
 unfold Ju
 split
 ·exact Walks.strAscii hh I x t
 ·exact Walks.strWide hh I x t
theorem uH {prog:Ib}{w:Ic}{A:Ik}{E:H0->Ii->Prop}{s:Ii}{it:Ig}{x:Str}{t:Tok}{i:Nat}{Q:H0->Ii->Prop}(hit:s.heap.IsStrIter it (Ju x) x t i)(h:Q (.ref it) s):
  Im (Io prog w) A (pyIter (.ref it)) Q E s:=by
 unfold Ju at hit
 split at hit
 ·exact wpAny_pyIter_striter_ascii hit h
 ·exact wpAny_pyIter_striter_wide hit h
theorem vf {P:Ib}{w:Ic}{K:PySem.W.Frag}{tg:Expr}(it:Ig)(x:Str)(t:Tok):J7 P w K tg (Its x) [it] it (fun i h=>h.IsStrIter it (Ju x) x t i) where
 mem:=by simp
 obj:=fun i h st b hb=>by
  have e:b=it:=by simpa using hb
  subst e
  obtain⟨o,e,c,d⟩:=st
  exact⟨o,e,fun v z=>by rw[d] at z;cases z⟩
 keep:=fun i h h' st k=>by
  obtain⟨o,e,r⟩:=st
  exact⟨o,k it (by simp) o e,r⟩
 item:=by
  intro X hP hw hK hc i pins s σ H E I hf st hg
  subst hP hw hK
  obtain⟨f0,f1,f2,f3,f4,f5⟩:=hf it (by simp)
  refine (lN (I.ok.hd hc) it x t).item i s _ _ hg st fun v h' tk hv st' kk=>?_
  obtain⟨c,u,hcu,rfl⟩:=hv
  have I1:Inv X pins σ H {s with heap:=h',toks:=tk}:=I.turned (fun b o hb e=>kk b o (by simpa using hb) e) f0 f1 f3 f4 f5
  obtain⟨o,e,c',d⟩:=id st'
  exact⟨_,rfl,sO (s:={s with heap:=h',toks:=tk}) e c' d (qx x) ⟨.str ⟨#[c]⟩,H,I1,⟨u,rfl⟩,⟨rfl,c,by simpa using hcu,rfl⟩,st',fun b hb=>(hf b hb).1⟩⟩
 done:=by
  intro X hP hw hK hc i pins s σ H E I hf st hg
  subst hP hw hK
  obtain⟨f0,f1,f2,f3,f4,f5⟩:=hf it (by simp)
  have hg:i=x.cps.size:=hg
  subst hg
  exact (lN (I.ok.hd hc) it x t).done s _ _ st fun h' tk kk=>⟨rfl,I.turned (fun b o hb e=>kk b o (by simpa using hb) e) f0 f1 f3 f4 f5⟩
 self:=fun _ _ _ _ _ st h=>uH st h
section
variable {X:Cx}{tg:Expr}
def iStr (tl:TE):TI:=fun σ H R=>tl σ H fun v H1=> ∃x,v=.str x/\R (Its x) H1
theorem vU {l:Expr}{tl:TE}(hl:PE X l tl):PI X tg l (iStr tl):=by
 intro pins s σ H R I h
 refine thn (hl pins s σ H _ I h) fun v s1 qz=>?_
 obtain⟨y,H1,I1,r1,q1⟩:=qz
 obtain⟨x,rfl,q⟩:=q1
 obtain⟨t,rfl⟩:=r1
 refine wpAny_pyIter_strU ?_
 refine⟨s1.heap.objs.size,[s1.heap.objs.size],_,_,H1,rfl,I1.kept (t':=s1.toks) fun b o e=>Ey _ e,vf _ x t,⟨_,EJ _ rfl,rfl,rfl⟩,fun b hb=>?_,q⟩
 have e:b=s1.heap.objs.size:=by simpa using hb
 subst e
 exact I1.fpOk (Em _) (I1.hok.fresh (Em _))
end
theorem DZ {x:Str}{g:TG}{tb:TS}{D:JN}{σ:St}{H:Hp}(Pv:Nat->St->Hp->Prop)(h0:Pv 0 σ H)
  (hs: ∀i c σ H,x.cps.toList[i]?=some c->Pv i σ H->g (.str ⟨#[c]⟩) σ H fun σ2 H2=>tb {D with nx:=Pv (i+1),ct:=Pv (i+1),bk:=D.nx} σ2 H2)(hd: ∀σ H,Pv x.cps.size σ H->D.nx σ H):
  ∃W:Nat->Nat->St->Hp->Prop,(∃m,W 0 m σ H)/\ ∀i m σ H,W i m σ H->
   ((Its x).stop i H/\D.nx σ H)\/((Its x).go i H/\ ∃N:St->Hp->Prop,(∀σ' H',N σ' H'-> ∃m',m'<m/\W (i+1) m' σ' H')/\ ∀v H',(Its x).yld i H v H'->g v σ H' fun σ2 H2=>tb {D with nx:=N,ct:=N,bk:=D.nx} σ2 H2):=by
 refine⟨fun i m σ H=>m=x.cps.size - i/\i<=x.cps.size/\Pv i σ H,⟨x.cps.size,by simp,EI _,h0⟩,?_⟩
 rintro i m σ H ⟨rfl,hi,p⟩
 by_cases hlt:i<x.cps.size
 ·refine .inr ⟨hlt,Pv (i+1),fun σ' H' p'=>⟨x.cps.size - (i+1),by omega,rfl,hlt,p'⟩,fun v H' y=>?_⟩
  obtain⟨e,c,hc,rfl⟩:=y
  subst e
  exact hs i c σ _ hc p
 ·have e:i=x.cps.size:=by omega
  subst e
  exact .inl ⟨rfl,hd σ H p⟩
theorem pV {x:Str}{ls:List Str}{g:TG}{tt:TT}{te:TE}{σ:St}{H:Hp}{Q:VK}(Pv:Nat->List V->Hp->Prop)(h0:Pv 0 [] H)
  (hs: ∀i c ys H,x.cps.toList[i]?=some c->Pv i ys H->g (.str ⟨#[c]⟩) (List.replicate ls.length none++σ) H fun σ2 H2=>σ2.drop ls.length=σ/\σ2.length=ls.length+σ.length/\tt σ2 H2 fun b H3=>if b=true then te σ2 H3 fun v H4=>ys.length<sizeLine/\Pv (i+1) (ys++[v]) H4 else Pv (i+1) ys H3)
  (hd: ∀ys H,Pv x.cps.size ys H-> ∀D,H D=none->Q (.ref D) (upd H D (.lst ys))):JK (Its x) ls g tt te σ H Q:=by
 refine⟨fun i m ys H=>m=x.cps.size - i/\i<=x.cps.size/\Pv i ys H,⟨x.cps.size,by simp,EI _,h0⟩,?_⟩
 rintro i m ys H ⟨rfl,hi,p⟩
 by_cases hlt:i<x.cps.size
 ·refine .inr ⟨hlt,Pv (i+1),fun ys' H' p'=>⟨x.cps.size - (i+1),by omega,rfl,hlt,p'⟩,fun v H' y=>?_⟩
  obtain⟨e,c,hc,rfl⟩:=y
  subst e
  exact hs i c ys _ hc p
 ·have e:i=x.cps.size:=by omega
  subst e
  exact .inl ⟨rfl,hd ys H p⟩
section
variable {X:Cx}
theorem qb: ∀ {bs:List Bool}{us:List H0},Vals (bs.map V.bl) us->LSm.BoolsAre us bs
 |[],_,.nil=>.nil
 |b::r,_,.cons h t=>by
  have h:_=H0.bool b:=h
  subst h
  exact .cons b (qb t)
theorem p4 (hc:X.calm=true):CallR X (.builtin "all") (fun xs H Q=> ∃ (p:Ig) (bs:List Bool),xs=[.ref p]/\SqL X.K H p (bs.map V.bl)/\Q (.bl (bs.all id)) H):=by
 intro pins s σ H xs us Q I r h
 obtain⟨p,bs,rfl,hq,q⟩:=h
 obtain⟨u,rfl,ru⟩:=OS r
 cases ru
 obtain⟨its,rv,pl,hz⟩:=I.list hq
 have hb:=qb rv
 have hl:=pl.isList
 have hlt:p<s.heap.objs.size:=by obtain⟨_,e,_⟩:=hl;exact Eu e
 refine call_all_walk (wpAny_pyIter_list hl ?_)
 refine⟨s.heap.objs.size,[s.heap.objs.size,p],[s.heap.objs.size],its.toArray.size,_,_,fun i=>(bs[i]?).getD true,rfl,Walks.list (A:=X.A.in1) (I.ok.hd hc) _ p (EK hlt) its.toArray,
  ⟨⟨_,EJ _ rfl,rfl,rfl⟩,hl.push _⟩,fun i v s' Q' E' hP hQ=>?_,fun h' tk hk=>?_⟩
 ·obtain⟨b,e,rfl⟩:=hb.get i v (by simpa using hP)
  simp only[e,Option.getD_some] at hQ
  exact Iy hQ
 ·have e:((List.range its.toArray.size).all fun i=>(bs[i]?).getD true)=bs.all id:=by
   rw[Ez,hb.length];exact LSm.range_all bs
  rw[e]
  exact⟨.bl _,H,I.kept (t':=tk) (LSm.kept_iter hk),rfl,q⟩
theorem Oc:SlR X (fun x lo hi H Q=> ∃z,x=.str z/\z.length<=sizeLine/\Q (.str (StrLaws.sliceText z lo hi)) H):=by
 intro pins s σ H x v vl vu lo hi sl Q I rx hs pl pu h
 obtain⟨z,rfl,hz,q⟩:=h
 obtain⟨t,rfl⟩:=rx
 have part: ∀ {v:H0}{o:Option Int},IsPart v o-> ∃p:Option (Int×Tok),v=partValue p/\p.map (·.1)=o:=fun{v o} h=>by
  cases h with
  |none=>exact⟨none,rfl,rfl⟩
  |int i t=>exact⟨some (i,t),rfl,rfl⟩
 obtain⟨l,rfl,el⟩:=part pl
 obtain⟨u,rfl,eu⟩:=part pu
 refine⟨"str",_,slot_str_getitem.lookup,Jm s z t,?_⟩
 obtain⟨o,h1,h2,h3⟩:=hs
 refine wpAny_getItem_str_slice (l:=l) (u:=u) (st:=none) ⟨o,h1,h2,h3⟩ rfl ?_
 subst el eu
 unfold sliceMade slicePicked
 unfold StrLaws.sliceText at q
 simp only[Option.map_none,GX]
 split
 ·rename_i hc
  rw[if_pos hc] at q
  exact⟨.str z,H,I,⟨t,rfl⟩,q⟩
 ·rename_i hc
  rw[if_neg hc] at q
  refine⟨?_,.str _,H,I.tok _,⟨_,rfl⟩,q⟩
  show ((_:List Nat).toArray).size<=sizeLine
  rw[Ez]
  exact EG (List.length_filterMap_le _ _) (EG (sliceIndices_le _ _ _) hz)
theorem i8:CallR X (.type "int") (fun xs H Q=> ∃ (z:Str) (n:Int),xs=[.str z]/\PySem.intText? z=some n/\z.length<=640/\Q (.int n) H):=by
 intro pins s σ H xs us Q I r h
 obtain⟨z,n,rfl,hn,hl,q⟩:=h
 obtain⟨u,rfl,t,rfl⟩:=OS r
 exact PySem.W.KIN.call_text hn hl ⟨.int n,H,I.tok _,⟨_,rfl⟩,q⟩
theorem nV:CallR X (.type "str") (fun xs H Q=> ∃ (z:Str),xs=[.str z]/\Q (.str z) H):=by
 intro pins s σ H xs us Q I r h
 obtain⟨z,rfl,q⟩:=h
 obtain⟨u,rfl,t,rfl⟩:=OS r
 exact P.str_of_str ⟨.str z,H,I,⟨_,rfl⟩,q⟩
theorem MK:OpR X (I0 .Mult) (fun x y H Q=> ∃ (z:Str) (n:Int),x=.str z/\y=.int n/\MulOk z n/\Q (.str (Txt.mul z n)) H):=by
 intro pins s σ H x y v u Q I rx ry h
 obtain⟨z,n,rfl,rfl,ho,q⟩:=h
 obtain⟨t,rfl⟩:=rx
 obtain⟨t',rfl⟩:=ry
 exact SB.mul ho fun t' k=>⟨.str _,H,I.tok k,⟨_,rfl⟩,q⟩
end
theorem rB (x:Str)(c:Nat):(!(H9.Str.occurrences x ⟨#[c]⟩ 0 x.length 1).isEmpty)=decide (c∈x.cps.toList):=StrLaws.found_one x c
def tH (X:Cx)(E:XK):Prop:= ∀ (pins:List (Ig×Ij)) (σ:St) (H:Hp) (s:Ii) (h':Ie) (e:Ig) (C:H0) (args:List H0),Inv X pins σ H s->G7 s.heap h' e C args->E C none H->X.xe (.ref e) {s with heap:=h'}
theorem eU {P:Ib}{w:Ic}{K:PySem.W.Frag}{mg:Str->Option H0}{base:Ie}{N:List Str}{qual:Str}{scope:IE}{f:Ig}{cd:H0}{A:Ik}{outer:List Env}{s:Ii}{H:Hp}{E:XK}:
 tH (Kw (CXx P w) P w K mg base N qual scope f cd A outer s H E) E:=fun _ _ _ _ _ _ _ _ I hx hE=>mW I hx hE
def At (C:H0)(E:XK)(t:TA):TS:=fun _ σ H=>t σ H fun vs H1=>vs.length<=sizeLine/\E C none H1
noncomputable abbrev Kd:List H0:=[.type "ValueError",.type "Exception",.type "BaseException",.type "object"]
section
variable {X:Cx}{C:Ig}{E:XK}{x:Str}{np cpos pos:IH}{a:Expr}{es:List Expr}{t:TA}
theorem eV (hX:tH X E)(hc:X.calm=true)(hg:Gl X x)(hm:X.mg x=some (.ref C))(q:PySem.W.excIn X.K C Kd "ValueError.__new__"=true)(ha:PA X (a::es) t)
  (he:IJ (a::es) X.env=(false,IG a X.env)::IJ es X.env:=by rfl)(hplain:(II cpos (IJ es X.env)).any (·.1)=false:=by rfl)(hd:(x==("__debug__":Str))=false:=by decide):
  PS X (.Raise (some (.Call (.Name x np) (a::es) [] cpos)) none pos) (At (.ref C) E t):=by
 intro pins s σ H D I h
 unfold PySem.W.excIn at q
 split at q
 ·rename_i dd cd sl ho
  split at q
  ·rename_i C' bm k0 k1 k2 k3 n k5 hm' hs
   simp only[ES,beq_iff_eq,Bool.not_eq_true'] at q
   obtain⟨⟨⟨⟨⟨rfl,rfl⟩,hdel⟩,ht⟩,hok⟩,hni⟩:=q
   obtain⟨nm,bs,mro,ns,qn,hd',sn,sub,ab,col,del⟩:=cd
   dsimp only at hm' hdel hok hni
   subst hm' hdel
   have hsl:sl= #[k0,k1,k2,k3,some (.builtin "ValueError.__new__"),k5]:=by
    obtain⟨l⟩:=sl
    simp only at hs
    rw[hs]
   subst hsl
   have obj: ∀ {hh:Ie},X.K.In hh->_:=fun{hh} (XX:X.K.In hh)=>(⟨XX _ _ ho,PySem.Heap.Ns.of_isNs (PySem.W.isNs_of_in XX hok),PySem.W.nsMap_none_of_in XX hok hni,PySem.W.tail_of_in XX ht⟩:
    hh.get? C'=some (excClassObj nm qn C' ns bs bm hd' sn sub ab col dd k0 k1 k2 k3 k5 "ValueError.__new__")/\hh.Ns ns (hh.nsMap ns)/\hh.nsMap ns "__init__"=none/\OwnTail hh Kd bm)
   have o0:=obj I.ok.mod.kin
   refine wpAny_Raise_call_subT (C:=C') (nm:=nm) (q:=qn) (N:=ns) (bs:=bs) (bm:=bm) (hdct:=hd') (sn:=sn) (sub:=sub) (ab:=ab) (col:=col) (dd:=dd) (k0:=k0) (k1:=k1) (k2:=k2) (k3:=k3) (k5:=k5)
    F.excBase_ValueError (mN:=X.base.nsMap ns) (o0.2.2.2.hasType F.excBase_ValueError.hasBase) (I.ok.hd hc) (by rw[he];show (false||(II cpos (IJ es X.env)).any (·.1))=false;rw[hplain];rfl) o0.2.2.1 (iX I hg hm ⟨rfl,?_⟩ hd)
   rw[he]
   refine Calls.evalArgs_plain ?_
   have hq:=ha cpos pins s σ H _ I h
   rw[he] at hq
   refine thn hq fun us s2 qz=>?_
   obtain⟨vs,H1,I1,r1,z,q1⟩:=qz
   have kp: ∀b o,X.base.get? b=some o->s2.heap.get? b=some o:=I1.bk
   exact⟨rfl,by rw[<-r1.length];exact z,(obj I1.kIn).1,o0.2.1.keeps kp,(obj I1.kIn).2.2.2,fun h' e hx=>hX pins σ H1 s2 h' e _ _ I1 hx q1⟩
  ·cases q
 ·cases q
end
end
section
noncomputable def excO (ea:Ig)(cls:H0):HO:=.ext fun h=> ∃o vs,h.get? ea=some o/\o.cls=cls/\o.data=.fields vs
section
variable {X:Cx}{pins:List (Ig×Ij)}{σ:St}{H:Hp}{s:Ii}{pn:List (Ig×Ij)}{xe:H0->Ii->Prop}
end
section
variable {X:Cx}{CX:CXT}{k:Nat}{f C:Ig}{fd:Je}{ps:List Str}{sp:Sp}{dvs:List V}{ds:List H0}{Z:St->XK}{x m:Str}{p pos apos:IH}{e o:Expr}{es:List Expr}{ta:TE}{t:TA}
end
section
variable {X:Cx}{x:Str}{C:H0}{body suite:List IK}{b0:IK}{np hpos pos:IH}{tb:(St->XK)->TS}{ts:TS}
end
section
variable {P:Ib}{w:Ic}{K:PySem.W.Frag}{mg:Str->Option H0}{base:Ie}
theorem Fun.okX {x qual:Str}{st:IK}{f:Ig}{fd:Je}{N ps:List Str}{k:Nat}{sp:Sp}(F:Fun K x qual st f fd)(S:JU N ps (ae st))(len: ∀vs H Q E,sp vs H Q E->vs.length=ps.length)
  (hbody: ∀ (cdv:H0) (A:Ik) (outer:List Env) (s:Ii) (H:Hp) (vs:List V) (Q:VK) (E:XK),Room k (A.deeper (Jj qual (ae st) s.heap.objs.size f cdv))->sp vs H Q E->
   ∃t,PSs (Kw (CXx P w) P w K mg base N qual (ae st) f cdv A outer s H E) (bC st) t/\t {nx:=fun _ H'=>Q .non H',rt:=Q} (Oq N vs) H):FnOk P w K mg base (CXx P w) (k+1) f fd ps sp:=by
 obtain⟨oc,od,kV,doc,pm,an,cdv,ct,osl,rfl,lk,hcd⟩:=F.ex
 exact Ai lk hcd S len fun A outer s H vs Q E hr hsp=>hbody cdv A outer s H vs Q E hr hsp
end
end
section
section
variable {X:Cx}
end
end
section
section
variable {X:Cx}
end
def Ite (K:PySem.W.Frag)(a:Ig):It:=
 ⟨fun i H=> ∃xs x,SqL K H a xs/\xs[i]?=some x,fun i H v H'=> ∃T x,H T=none/\v=.ref T/\(∀xs,SqL K H a xs->xs[i]?=some x)/\H'=upd H T (.tup [.int i,x]),fun i H=> ∃xs,SqL K H a xs/\xs.length=i⟩
theorem tU {P:Ib}{w:Ic}{K:PySem.W.Frag}{elts:List Expr}{x1}{tpos:IH}(a e it:Ig)(hei:e≠it):J7 P w K (.Tuple elts x1 tpos) (Ite K a) [e,it] e (fun i h=>(∃old,IsEnum h e it i old)/\h.IsListIter it a i) where
 mem:=by simp
 obj:=fun i h st b hb=>by
  obtain⟨⟨old,he⟩,st⟩:=st
  rcases En.mp hb with rfl|hb
  ·exact⟨_,he,fun v z=>by cases z⟩
  ·have e':b=it:=by simpa using hb
   subst e'
   obtain⟨o,e,c,d⟩:=st
   exact⟨o,e,fun v z=>by rw[d] at z;cases z⟩
 keep:=fun i h h' st k=>⟨let ⟨old,he⟩:=st.1;⟨old,k e (by simp) _ he⟩,st.2.at fun o e=>k it (by simp) o e⟩
 item:=by
  intro X hP hw hK hc i pins s σ H E I hf st hg
  subst hP hw hK
  obtain⟨⟨old,he⟩,st⟩:=st
  obtain⟨xs,x,hq,hx⟩:=hg
  obtain⟨its,rv,p,hz⟩:=I.list hq
  obtain⟨u,hu,ru⟩:=rv.get hx
  have fe:=hf e (by simp)
  have fi:=hf it (by simp)
  obtain⟨oi,hoi,hoc,hod⟩:=id st
  have nai:a≠it:=fun z=>by
   obtain⟨o,h1,h2,_⟩:=p.isList
   rw[z,hoi] at h1
   cases h1
   rw[hoc] at h2
   exact absurd h2 (by decide)
  have nae:e≠a:=fun z=>by
   obtain⟨o,h1,h2,_⟩:=p.isList
   rw[<-z,show s.heap.get? e=_ from he] at h1
   cases h1
   exact absurd (show H0.type "enumerate"=H0.type "list" from h2) (by decide)
  have D:=Draws.list (prog:=X.prog) (w:=X.w) (A:=X.A.in1) (I.ok.hd hc) it a nai its.toArray
  refine wpAny_pyNext_enum_itemD D he ⟨st,p.isList⟩ (by
   have:=Ev.mp hu
   obtain⟨z,_⟩:=this
   simpa using z) hei (by simp [hei,nae]) fun v h' tk hP hout hst hT hsz hk=>?_
  have hv:v=u:=by
   have hP:its.toArray[i]?=some v:=hP
   rw[G8,hu] at hP
   exact (Option.some.inj hP).symm
  subst hv
  have nT:H s.heap.objs.size=none:=I.hok.fresh (Em _)
  have lt: ∀b o,s.heap.get? b=some o->b≠s.heap.objs.size:=fun b o q=>EK (Eu q)
  have ltH: ∀b o,H b=some o->b≠s.heap.objs.size:=fun b o q z=>by rw[z,nT] at q;cases q
  have neH: ∀b o,H b=some o->b≠e/\b≠it:=fun b o q=>⟨fun z=>by (rw[z,fe.1] at q;cases q),fun z=>by (rw[z,fi.1] at q;cases q)⟩
  have I1:Inv X pins σ (upd H s.heap.objs.size (.tup [.int i,x])) {s with heap:=h',toks:=tk+1}:=by
   refine I.call' (s':={s with heap:=h',toks:=tk+1}) (ch:=[e,it]) rfl ⟨fun b o q n hb hx=>?_,fun b o q n hb hx=>?_,fun b o q n hx=>?_,fun b o q hx=>?_,fun b xs q=>?_,fun b o u q=>?_,fun b ps q=>?_⟩ (fun b o q=>?_) I.bare fun b hb=>?_
   ·exact hk b o (fun z=>hx (by simp [z])) (fun z=>hx (by simp [z])) q
   ·exact⟨o.slots,hk b o (fun z=>hx (by simp [z])) (fun z=>hx (by simp [z])) q⟩
   ·rw[af (lt b o q)];exact n
   ·exact⟨o,hk b o (fun z=>hx (by simp [z])) (fun z=>hx (by simp [z])) q⟩
   ·rw[af (ltH b _ q)];exact q
   ·rw[af (ltH b _ q)];exact q
   ·exact⟨#[],by rw[af (ltH b _ q),q];simp⟩
   ·by_cases hb:b=s.heap.objs.size
    ·subst hb
     rw[aq] at q
     cases q
     exact⟨by show 2<=sizeLine;decide,_,.cons ⟨tk,rfl⟩ (.cons ru .nil),⟨_,hT,rfl,_,rfl⟩,_,hT,rfl⟩
    ·rw[af hb] at q
     refine (I.hok b o q).stay (fun c v hc r=>?_) (fun c r=>by rw[af (ltH c _ r)];exact r) fun c xs r=>by rw[af (ltH c _ r)];exact r
     have: ∃o,H c=some o:=by
      rcases hc with rfl|hc
      ·exact⟨o,q⟩
      ·exact⟨_,hc⟩
     obtain⟨o',qo⟩:=this
     exact hk c v (neH c o' qo).1 (neH c o' qo).2 r
   ·have fb:JV X pins H b:=by
     rcases En.mp hb with rfl|hb
     ·exact fe
     ·have e':b=it:=by simpa using hb
      subst e';exact fi
    exact⟨fb.2.2.2.1,fb.2.1,fb.2.2.2.2.1,fb.2.2.2.2.2⟩
  refine⟨_,rfl,wpAny_letOwnedTupleGo_enum (s:={s with heap:=h',toks:=tk+1}) hout fun h2 he2 hs2=>?_⟩
  have neT: ∀b∈[e,it],b≠s.heap.objs.size:=fun b hb=>by
   rcases En.mp hb with rfl|hb
   ·exact lt _ _ he
   ·have e':b=it:=by simpa using hb
    subst e';exact lt _ _ hoi
  have fe':(upd H s.heap.objs.size (.tup [.int i,x])) e=none:=by rw[af (neT e (by simp))];exact fe.1
  refine⟨.ref s.heap.objs.size,upd H s.heap.objs.size (.tup [.int i,x]),?_,rfl,⟨s.heap.objs.size,x,nT,rfl,fun ys hy=>by rw[I.list_inj hy hq];exact hx,rfl⟩,⟨⟨_,by simpa using he2⟩,hst.1.at fun o eo=>(hs2.2 it (Ne.symm hei)).trans eo⟩,fun b hb=>?_⟩
  ·exact I1.turned (t':=tk+1) (fun b o hb eo=>(hs2.2 b hb).trans eo) fe' fe.2.1 fe.2.2.2.1 fe.2.2.2.2.1 fe.2.2.2.2.2
  ·rw[af (neT b hb)]
   exact (hf b hb).1
 done:=by
  intro X hP hw hK hc i pins s σ H E I hf st hg
  subst hP hw hK
  obtain⟨⟨old,he⟩,st⟩:=st
  obtain⟨xs,hq,hx⟩:=hg
  obtain⟨its,rv,p,hz⟩:=I.list hq
  have fi:=hf it (by simp)
  obtain⟨oi,hoi,hoc,hod⟩:=id st
  have nai:a≠it:=fun z=>by
   obtain⟨o,h1,h2,_⟩:=p.isList
   rw[z,hoi] at h1
   cases h1
   rw[hoc] at h2
   exact absurd h2 (by decide)
  have D:=Draws.list (prog:=X.prog) (w:=X.w) (A:=X.A.in1) (I.ok.hd hc) it a nai its.toArray
  have ei:i=its.toArray.size:=by rw[Ez,<-rv.length];exact hx.symm
  refine wpAny_pyNext_enum_endD D he (by rw[<-ei];exact⟨st,p.isList⟩) fun h' eb=>⟨rfl,I.turned (t':=s.toks) (fun b o hb e=>eb b o hb e) fi.1 fi.2.1 fi.2.2.2.1 fi.2.2.2.2.1 fi.2.2.2.2.2⟩
 self:=fun _ _ _ _ _ st h=>let ⟨_,he⟩:=st.1;Jv he h
section
variable {X:Cx}
def iEnum (K:PySem.W.Frag)(ta:TA):TI:=fun σ H R=>ta σ H fun vs H1=> ∃a,vs=[.ref a]/\(∃xs,SqL K H1 a xs)/\R (Ite K a) H1
theorem yA {a:Expr}{ta:TA}{p pos:IH}{elts:List Expr}{x1}{tpos:IH}(hg:Gl X "enumerate")(hm:X.mg "enumerate"=none)(ha:PA X [a] ta)(hs:IJ [a] X.env=[(false,IG a X.env)]:=by rfl):PI X (.Tuple elts x1 tpos) (.Call (.Name "enumerate" p) [a] [] pos) (iEnum X.K ta):=by
 intro pins s σ H R I h
 refine Call_ (d6 I hg hm boot_enumerate (PyProof.Rows.callWith_type1 (thn (ha pos pins s σ H _ I h) fun us s1 qz=>?_) hs rfl))
 obtain⟨vs,H1,I1,r1,q1⟩:=qz
 obtain⟨b,e,⟨xs,hq⟩,q⟩:=q1
 subst e
 cases r1 with
 |cons r rr=>
  cases rr
  cases r
  obtain⟨its,rv,pl,hz⟩:=I1.list hq
  refine call_enumerate_list pl.isList fun h' he hi hsz hk=>?_
  refine Jv he ?_
  have I2:Inv X pins σ H1 {s1 with heap:=h'}:=I1.kept (t':=s1.toks) hk
  refine⟨s1.heap.objs.size+1,[s1.heap.objs.size+1,s1.heap.objs.size],_,_,H1,rfl,I2,tU b _ _ (by simp),⟨⟨_,he⟩,hi⟩,fun c hc=>?_,q⟩
  have hc':s1.heap.objs.size<=c:=by
   rcases En.mp hc with rfl|hc
   ·exact FZ _
   ·have:c=s1.heap.objs.size:=by simpa using hc
    exact FO this.symm
  exact I1.fpOk hc' (I1.hok.fresh hc')
end
end
end L2
namespace L2
open PySem PySem.Spec PyProof.Rows PySem.W
section
variable {prog:Ib}{w:Ic}{A:Ik}{E:H0->Ii->Prop}{h:Ie}{g:Array GenState}{d:Drawn}{t:Nat}{os:OsState}{a C:Ig}{o:Ij}{K:PySem.W.Frag}
end
section
variable {X:Cx}
end
section
section
variable {X:Cx}{pins:List (Ig×Ij)}{σ:St}{H:Hp}{s:Ii}
end
section
variable {X:Cx}{x n:Str}{C:H0}{body suite:List IK}{b0:IK}{np hpos pos:IH}{tb:(St->XK)->TS}{ts:TS}{i:Nat}
end
end
end L2
namespace L2
open PySem PySem.Spec PyProof.Rows
theorem rX: ∀ {ts:List Str}{us:List H0},Vals (ts.map V.str) us-> ∃l:List (Str×Tok),us=strValues l/\l.map (·.1)=ts
 |[],_,.nil=>⟨[],rfl,rfl⟩
 |t::ts,_,.cons h r=>by
  obtain⟨k,rfl⟩:=h
  obtain⟨l,e,e2⟩:=rX r
  exact⟨(t,k)::l,by rw[e];rfl,by rw[<-e2];rfl⟩
theorem tE (a b:Str):(a++b).length=a.length+b.length:=by
 show (a.cps++b.cps).size=_
 rw[Hv];rfl
theorem kT (sep:Str): ∀ (ts:List Str),(Str.join sep ts).length<=(ts.map (·.length)).sum+ts.length * sep.length
 |[]=>EI _
 |[x]=>by
  show x.length<=_
  simp
 |x::y::r=>by
  show (x++sep++Str.join sep (y::r)).length<=_
  have ih:=kT sep (y::r)
  rw[tE,tE,Er,Fe,Es]
  have:((y::r).length+1) * sep.length=(y::r).length * sep.length+sep.length:=by rw[Nat.succ_mul]
  omega
section
variable {X:Cx}
def rJoin (K:PySem.W.Frag):V->List V->Hp->VK->Prop:=fun x vs H Q=> ∃ (sep:Str) (p:Ig) (ts:List Str),x=.str sep/\vs=[.ref p]/\SqL K H p (ts.map V.str)/\(ts.map (·.length)).sum+ts.length * sep.length<=sizeLine/\Q (.str (Str.join sep ts)) H
theorem yX:MtM X "str.join" (rJoin X.K):=by
 intro pins s σ H x vs v us Q I rx rv h
 obtain⟨sep,p,ts,rfl,rfl,hq,hz,q⟩:=h
 obtain⟨t,rfl⟩:=rx
 obtain⟨u,rfl,ru⟩:=rv.one
 cases ru
 obtain⟨its,r,pl,_⟩:=I.list hq
 obtain⟨l,rfl,rfl⟩:=rX r
 refine Jo F.slot_str_join (Jm s sep t) F.entry_str_join (F.args_str_join_2 _ _) (meets_str_join_list sep t p l (by
  rw[StrLaws.joinTotal]
  unfold H9.Str.tooLong
  exact decide_eq_false (by omega))) ⟨pl.isList,?_⟩
 cases l with
 |nil=>exact⟨by rw[StrLaws.glued_eq_join];exact EG (kT sep _) hz,.str _,H,I.tok _,⟨_,by rw[StrLaws.glued_eq_join]⟩,q⟩
 |cons a l=>
  cases l with
  |nil=>exact⟨.str a.1,H,I,⟨a.2,rfl⟩,q⟩
  |cons b l=>exact⟨by rw[StrLaws.glued_eq_join];exact EG (kT sep _) hz,.str _,H,I.tok _,⟨_,by rw[StrLaws.glued_eq_join]⟩,q⟩
end
section
variable {X:Cx}
end
end L2
namespace L2
open PySem
end L2
namespace L2
open PySem PySem.Spec PyProof.Rows
open Sem (wp)
open Builtin
section
variable {prog:Ib}{w:Ic}{A:Ik}{E:H0->Ii->Prop}{s:Ii}
theorem vj {j t:Ig}{i:Nat}{its:Array H0}{x:H0}{Q:H0->Ii->Prop}(g:s.heap.IsTupleIter j t i)(gt:s.heap.IsTuple t its)(hx:its[i]?=some x)(k:∀h',h'.IsTupleIter j t (i+1)->Fb j s.heap h'->Q x {s with heap:=h'}):Im (Io prog w) A (SmallTypes.nextOf (.ref j)) Q E s:=by
 obtain⟨o,q1,q2,q3⟩:=id g
 obtain⟨u,z1,_,n,z2⟩:=gt
 unfold SmallTypes.nextOf
 refine Ip (wpAny_callSpecial?_slot (name:=Str.ofString "__next__") g.typeIs F.slot_tuple_iterator_next (Ir F.slot_tuple_iterator_next g.typeIs F.entry_tuple_iterator_next ?_ (F.args_tuple_iterator_next_1 _)))
 show Im _ _ (field (.ref j) 0>>=_) _ _ s
 refine Ip (Jk q1 q3 (x:=.ref t) rfl ?_)
 show Im _ _ (if (H0.ref t==H0.none)=true then _ else _) _ _ s;rw[if_neg (show¬((H0.ref t==H0.none)=true) from EE)]
 show Im _ _ (field (.ref j) 1>>=_) _ _ s
 refine Ip (Jk q1 q3 (x:=.int i 0) rfl ?_)
 show Im _ _ (seqItems? (.ref t)>>=_) _ _ s;refine Ip (Iz z1 z2 ?_)
 simp only[GV,hx]
 refine Ip (wpAny_setField q1 q3 (by simp) (Iu ⟨x,rfl,Iu (k _ ?_ (Fb.update ..))⟩))
 exact⟨_,Ht _ q1 (Ij.isFreed_of_fields (Ij.data_mapFields q3 _)),(Ij.cls_mapFields ..).trans q2,by rw[Ij.data_mapFields q3];simp [IX]⟩
theorem vk {j t:Ig}{i:Nat}{its:Array H0}{Q:H0->Ii->Prop}(hh:A.handled=none)(g:s.heap.IsTupleIter j t i)(gt:s.heap.IsTuple t its)(hx:its[i]?=none)(k:∀h' e,Ie.ExtBut j s.heap h'->(∃o,h'.get? e=some o/\o.cls=.type "StopIteration")->E (.ref e) {s with heap:=h'}):Im (Io prog w) A (SmallTypes.nextOf (.ref j)) Q E s:=by
 obtain⟨o,q1,q2,q3⟩:=id g
 obtain⟨u,z1,_,n,z2⟩:=gt
 unfold SmallTypes.nextOf
 refine Ip (wpAny_callSpecial?_slot (name:=Str.ofString "__next__") g.typeIs F.slot_tuple_iterator_next (Ir F.slot_tuple_iterator_next g.typeIs F.entry_tuple_iterator_next ?_ (F.args_tuple_iterator_next_1 _)))
 show Im _ _ (field (.ref j) 0>>=_) _ _ s
 refine Ip (Jk q1 q3 (x:=.ref t) rfl ?_)
 show Im _ _ (if (H0.ref t==H0.none)=true then _ else _) _ _ s;rw[if_neg (show¬((H0.ref t==H0.none)=true) from EE)]
 show Im _ _ (field (.ref j) 1>>=_) _ _ s
 refine Ip (Jk q1 q3 (x:=.int i 0) rfl ?_)
 show Im _ _ (seqItems? (.ref t)>>=_) _ _ s;refine Ip (Iz z1 z2 ?_)
 simp only[GV,hx]
 refine Ip (Iv (Ip (wpAny_setField q1 q3 (by simp) ?_)))
 show Im _ _ (newExc (.type "StopIteration") []>>=_) _ _ _;refine Ip ?_
 simp only[newExc,newTuple];refine Ip (Jl ?_ (by size_fits))
 refine Ip (m:=firstArgMember _ _) (wpAny_of_eq (a:=H0.none) (by first|rfl|(simp only[firstArgMember];rfl)) (Jl ?_ (by size_fits)))
 simp only[raiseNew];refine Ip (wpAny_handled ?_)
 first|rw[show A.in1.handled=none from hh]|rw[hh]
 exact Ip (Iu (wpAny_throw (k _ _ (((Fb.update ..).extBut.push _).push _) ⟨_,EJ _ rfl,rfl⟩)))
end
theorem g9 {prog:Ib}{w:Ic}{A:Ik}(hh:A.handled=none)(j t:Ig)(hne:t≠j)(its:Array H0):Draws prog w A j [j,t] its.size (fun i v=>its[i]?=some v) (fun i h=>h.IsTupleIter j t i/\h.IsTuple t its) where
 live:=fun _ _ st=>let ⟨o,q,_⟩:=st.1;⟨o,q⟩
 frame:=fun _ _ _ st k=>⟨let ⟨o,q,r⟩:=st.1;⟨o,k j (by simp) o q,r⟩,let ⟨o,q,r⟩:=st.2;⟨o,k t (by simp) o q,r⟩⟩
 item:=fun i s Q E hi st k=>vj st.1 st.2 (x:=its[i]) (by simp [hi]) fun h' a b=>k _ h' s.toks (by simp [hi]) ⟨a,st.2.extBut b.extBut hne⟩ b
 done:=fun s Q E st k=>vk hh st.1 st.2 (by simp) k
theorem OK {h:Ie}{a:Ig}{its:Array H0}(p:IsTup h a its):h.IsTuple a its:=p
set_option maxRecDepth 100000 in
theorem ph (l:Ig)(its:Array H0)(n:Nat)(dct:Option Ig)(sl:Array (Option H0)):
  Meets (H9.«enumerate.__new__» ⟨[.type "enumerate",.ref l],[]⟩) (fun _ R s=>s.heap.get? l=some {cls:=.type "tuple",dict:=dct,data:=.seq its n,slots:=sl}/\
   R (.ok (.ret (.ref (s.heap.push {cls:=.type "tuple_iterator",data:=.fields #[.ref l,.int 0 0]}).objs.size))) {s with heap:=(s.heap.push {cls:=.type "tuple_iterator",data:=.fields #[.ref l,.int 0 0]}).push {cls:=.type "enumerate",data:=.fields #[.none,.bool false,.ref s.heap.objs.size,IX 0,.none,.none]}}):=
 .of_wp fun prog w A R s h=>by
  obtain⟨hp,g,d,tk,os⟩:=s;obtain⟨hl,h⟩:=h
  have hsub:=sub_enumerate
  have hT:Ie.IsTuple (Ii.heap ⟨hp,g,d,tk,os⟩) l its:=⟨_,hl,rfl,n,rfl⟩
  wp_walk using AutoSeq1.wpAny_loadPart' hl
  refine wpAny_stack_any fun st=>Iu ?_
  split
  ·rename_i c _ _ _ _ _
   cases (c==H0.type "enumerate")<;>(wp_walk using AutoSeq1.wpAny_loadPart' hl,IY hT;exact⟨_,rfl,h⟩)
  ·wp_walk using AutoSeq1.wpAny_loadPart' hl,IY hT
   exact⟨_,rfl,h⟩
section
variable {prog:Ib}{w:Ic}{A:Ik}{E:H0->Ii->Prop}{s:Ii}
theorem rL {l:Ig}{its:Array H0}{Q:H0->Ii->Prop}(hT:s.heap.IsTuple l its)
  (k:∀h',IsEnum h' (s.heap.objs.size+1) s.heap.objs.size 0 .none->h'.IsTupleIter s.heap.objs.size l 0->h'.objs.size=s.heap.objs.size+2->(∀b o,s.heap.get? b=some o->h'.get? b=some o)->Q (.ref (s.heap.objs.size+1)) {s with heap:=h'}):
  Im (Io prog w) A (call (.type "enumerate") [.ref l]) Q E s:=by
 obtain⟨⟨c,dct,dt,sl⟩,hl,hc,n,hd⟩:=hT
 replace hc:c=.type "tuple":=hc
 replace hd:dt=.seq its n:=hd
 subst hc hd
 refine callType_new F.called_enumerate (by decide) (F.typeCall_enumerate_1 _) (F.newCall_enumerate_1 _) (fun obj=>F.args_object_init_2 obj _) F.entry_enumerate_new (ph l its n dct sl) ⟨hl,?_⟩
 have hz:(s.heap.push {cls:=.type "tuple_iterator",data:=.fields #[.ref l,.int 0 0]}).objs.size=s.heap.objs.size+1:=E7 ..
 show _/\_
 rw[hz]
 have he:IsEnum ((s.heap.push {cls:=.type "tuple_iterator",data:=.fields #[.ref l,.int 0 0]}).push {cls:=.type "enumerate",data:=.fields #[.none,.bool false,.ref s.heap.objs.size,IX 0,.none,.none]}) (s.heap.objs.size+1) s.heap.objs.size 0 .none:=by
  have z:=EJ (s.heap.push {cls:=.type "tuple_iterator",data:=.fields #[.ref l,.int 0 0]}) (o:={cls:=.type "enumerate",data:=.fields #[.none,.bool false,.ref s.heap.objs.size,IX 0,.none,.none]}) rfl
  rw[hz] at z;exact z
 refine⟨⟨_,he,rfl⟩,k _ he ⟨_,Ey _ (EJ _ rfl),rfl,rfl⟩ (by rw[E7,hz]) fun b o x=>Ey _ (Ey _ x)⟩
end
def IteT (K:PySem.W.Frag)(a:Ig):It:=
 ⟨fun i H=> ∃xs x,SqT K H a xs/\xs[i]?=some x,fun i H v H'=> ∃T x,H T=none/\v=.ref T/\(∀xs,SqT K H a xs->xs[i]?=some x)/\H'=upd H T (.tup [.int i,x]),fun i H=> ∃xs,SqT K H a xs/\xs.length=i⟩
theorem qm {P:Ib}{w:Ic}{K:PySem.W.Frag}{elts:List Expr}{x1}{tpos:IH}(a e it:Ig)(hei:e≠it):J7 P w K (.Tuple elts x1 tpos) (IteT K a) [e,it] e (fun i h=>(∃old,IsEnum h e it i old)/\h.IsTupleIter it a i) where
 mem:=by simp
 obj:=fun i h st b hb=>by
  obtain⟨⟨old,he⟩,st⟩:=st
  rcases En.mp hb with rfl|hb
  ·exact⟨_,he,fun v z=>by cases z⟩
  ·have e':b=it:=by simpa using hb
   subst e'
   obtain⟨o,e,c,d⟩:=st
   exact⟨o,e,fun v z=>by rw[d] at z;cases z⟩
 keep:=fun i h h' st k=>⟨let ⟨old,he⟩:=st.1;⟨old,k e (by simp) _ he⟩,st.2.at fun o e=>k it (by simp) o e⟩
 item:=by
  intro X hP hw hK hc i pins s σ H E I hf st hg
  subst hP hw hK
  obtain⟨⟨old,he⟩,st⟩:=st
  obtain⟨xs,x,hq,hx⟩:=hg
  obtain⟨its,rv,p,hz⟩:=I.tuple hq
  obtain⟨u,hu,ru⟩:=rv.get hx
  have fe:=hf e (by simp)
  have fi:=hf it (by simp)
  obtain⟨oi,hoi,hoc,hod⟩:=id st
  have nai:a≠it:=fun z=>by
   obtain⟨o,h1,h2,_⟩:=(OK p)
   rw[z,hoi] at h1
   cases h1
   rw[hoc] at h2
   exact absurd h2 (by decide)
  have nae:e≠a:=fun z=>by
   obtain⟨o,h1,h2,_⟩:=(OK p)
   rw[<-z,show s.heap.get? e=_ from he] at h1
   cases h1
   exact absurd (show H0.type "enumerate"=H0.type "tuple" from h2) (by decide)
  have D:=g9 (prog:=X.prog) (w:=X.w) (A:=X.A.in1) (I.ok.hd hc) it a nai its.toArray
  refine wpAny_pyNext_enum_itemD D he ⟨st,(OK p)⟩ (by
   have:=Ev.mp hu
   obtain⟨z,_⟩:=this
   simpa using z) hei (by simp [hei,nae]) fun v h' tk hP hout hst hT hsz hk=>?_
  have hv:v=u:=by
   have hP:its.toArray[i]?=some v:=hP
   rw[G8,hu] at hP
   exact (Option.some.inj hP).symm
  subst hv
  have nT:H s.heap.objs.size=none:=I.hok.fresh (Em _)
  have lt: ∀b o,s.heap.get? b=some o->b≠s.heap.objs.size:=fun b o q=>EK (Eu q)
  have ltH: ∀b o,H b=some o->b≠s.heap.objs.size:=fun b o q z=>by rw[z,nT] at q;cases q
  have neH: ∀b o,H b=some o->b≠e/\b≠it:=fun b o q=>⟨fun z=>by (rw[z,fe.1] at q;cases q),fun z=>by (rw[z,fi.1] at q;cases q)⟩
  have I1:Inv X pins σ (upd H s.heap.objs.size (.tup [.int i,x])) {s with heap:=h',toks:=tk+1}:=by
   refine I.call' (s':={s with heap:=h',toks:=tk+1}) (ch:=[e,it]) rfl ⟨fun b o q n hb hx=>?_,fun b o q n hb hx=>?_,fun b o q n hx=>?_,fun b o q hx=>?_,fun b xs q=>?_,fun b o u q=>?_,fun b ps q=>?_⟩ (fun b o q=>?_) I.bare fun b hb=>?_
   ·exact hk b o (fun z=>hx (by simp [z])) (fun z=>hx (by simp [z])) q
   ·exact⟨o.slots,hk b o (fun z=>hx (by simp [z])) (fun z=>hx (by simp [z])) q⟩
   ·rw[af (lt b o q)];exact n
   ·exact⟨o,hk b o (fun z=>hx (by simp [z])) (fun z=>hx (by simp [z])) q⟩
   ·rw[af (ltH b _ q)];exact q
   ·rw[af (ltH b _ q)];exact q
   ·exact⟨#[],by rw[af (ltH b _ q),q];simp⟩
   ·by_cases hb:b=s.heap.objs.size
    ·subst hb
     rw[aq] at q
     cases q
     exact⟨by show 2<=sizeLine;decide,_,.cons ⟨tk,rfl⟩ (.cons ru .nil),⟨_,hT,rfl,_,rfl⟩,_,hT,rfl⟩
    ·rw[af hb] at q
     refine (I.hok b o q).stay (fun c v hc r=>?_) (fun c r=>by rw[af (ltH c _ r)];exact r) fun c xs r=>by rw[af (ltH c _ r)];exact r
     have: ∃o,H c=some o:=by
      rcases hc with rfl|hc
      ·exact⟨o,q⟩
      ·exact⟨_,hc⟩
     obtain⟨o',qo⟩:=this
     exact hk c v (neH c o' qo).1 (neH c o' qo).2 r
   ·have fb:JV X pins H b:=by
     rcases En.mp hb with rfl|hb
     ·exact fe
     ·have e':b=it:=by simpa using hb
      subst e';exact fi
    exact⟨fb.2.2.2.1,fb.2.1,fb.2.2.2.2.1,fb.2.2.2.2.2⟩
  refine⟨_,rfl,wpAny_letOwnedTupleGo_enum (s:={s with heap:=h',toks:=tk+1}) hout fun h2 he2 hs2=>?_⟩
  have neT: ∀b∈[e,it],b≠s.heap.objs.size:=fun b hb=>by
   rcases En.mp hb with rfl|hb
   ·exact lt _ _ he
   ·have e':b=it:=by simpa using hb
    subst e';exact lt _ _ hoi
  have fe':(upd H s.heap.objs.size (.tup [.int i,x])) e=none:=by rw[af (neT e (by simp))];exact fe.1
  refine⟨.ref s.heap.objs.size,upd H s.heap.objs.size (.tup [.int i,x]),?_,rfl,⟨s.heap.objs.size,x,nT,rfl,fun ys hy=>by rw[I.tuple_inj hy hq];exact hx,rfl⟩,⟨⟨_,by simpa using he2⟩,hst.1.at fun o eo=>(hs2.2 it (Ne.symm hei)).trans eo⟩,fun b hb=>?_⟩
  ·exact I1.turned (t':=tk+1) (fun b o hb eo=>(hs2.2 b hb).trans eo) fe' fe.2.1 fe.2.2.2.1 fe.2.2.2.2.1 fe.2.2.2.2.2
  ·rw[af (neT b hb)]
   exact (hf b hb).1
 done:=by
  intro X hP hw hK hc i pins s σ H E I hf st hg
  subst hP hw hK
  obtain⟨⟨old,he⟩,st⟩:=st
  obtain⟨xs,hq,hx⟩:=hg
  obtain⟨its,rv,p,hz⟩:=I.tuple hq
  have fi:=hf it (by simp)
  obtain⟨oi,hoi,hoc,hod⟩:=id st
  have nai:a≠it:=fun z=>by
   obtain⟨o,h1,h2,_⟩:=(OK p)
   rw[z,hoi] at h1
   cases h1
   rw[hoc] at h2
   exact absurd h2 (by decide)
  have D:=g9 (prog:=X.prog) (w:=X.w) (A:=X.A.in1) (I.ok.hd hc) it a nai its.toArray
  have ei:i=its.toArray.size:=by rw[Ez,<-rv.length];exact hx.symm
  refine wpAny_pyNext_enum_endD D he (by rw[<-ei];exact⟨st,(OK p)⟩) fun h' eb=>⟨rfl,I.turned (t':=s.toks) (fun b o hb e=>eb b o hb e) fi.1 fi.2.1 fi.2.2.2.1 fi.2.2.2.2.1 fi.2.2.2.2.2⟩
 self:=fun _ _ _ _ _ st h=>let ⟨_,he⟩:=st.1;Jv he h
section
variable {X:Cx}
def Ch (K:PySem.W.Frag)(ta:TA):TI:=fun σ H R=>ta σ H fun vs H1=> ∃a,vs=[.ref a]/\(∃xs,SqT K H1 a xs)/\R (IteT K a) H1
theorem vV {a:Expr}{ta:TA}{p pos:IH}{elts:List Expr}{x1}{tpos:IH}(hg:Gl X "enumerate")(hm:X.mg "enumerate"=none)(ha:PA X [a] ta)(hs:IJ [a] X.env=[(false,IG a X.env)]:=by rfl):PI X (.Tuple elts x1 tpos) (.Call (.Name "enumerate" p) [a] [] pos) (Ch X.K ta):=by
 intro pins s σ H R I h
 refine Call_ (d6 I hg hm boot_enumerate (PyProof.Rows.callWith_type1 (thn (ha pos pins s σ H _ I h) fun us s1 qz=>?_) hs rfl))
 obtain⟨vs,H1,I1,r1,q1⟩:=qz
 obtain⟨b,e,⟨xs,hq⟩,q⟩:=q1
 subst e
 cases r1 with
 |cons r rr=>
  cases rr
  cases r
  obtain⟨its,rv,pl,hz⟩:=I1.tuple hq
  refine rL (OK pl) fun h' he hi hsz hk=>?_
  refine Jv he ?_
  have I2:Inv X pins σ H1 {s1 with heap:=h'}:=I1.kept (t':=s1.toks) hk
  refine⟨s1.heap.objs.size+1,[s1.heap.objs.size+1,s1.heap.objs.size],_,_,H1,rfl,I2,qm b _ _ (by simp),⟨⟨_,he⟩,hi⟩,fun c hc=>?_,q⟩
  have hc':s1.heap.objs.size<=c:=by
   rcases En.mp hc with rfl|hc
   ·exact FZ _
   ·have:c=s1.heap.objs.size:=by simpa using hc
    exact FO this.symm
  exact I1.fpOk hc' (I1.hok.fresh hc')
end
section
open Sem (wp)
open Builtin
noncomputable def ItAt (h:Ie)(T:String)(j l:Ig)(i:Nat):Prop:= ∃o,h.get? j=some o/\o.cls=.type T/\o.data=.fields #[.ref l,.int i 0]
noncomputable def SeqAt (h:Ie)(T:String)(l:Ig)(its:Array H0):Prop:=(T= "list_iterator"/\h.IsList l its)\/(T= "tuple_iterator"/\h.IsTuple l its)
theorem SeqAt.keep {h h':Ie}{T:String}{l:Ig}{its:Array H0}(x:SeqAt h T l its)(k:∀o,h.get? l=some o->h'.get? l=some o):SeqAt h' T l its:=
 x.imp (fun⟨e,o,a,b⟩=>⟨e,o,k o a,b⟩) fun⟨e,o,a,b⟩=>⟨e,o,k o a,b⟩
theorem ItAt.keep {h h':Ie}{T:String}{j l:Ig}{i:Nat}(x:ItAt h T j l i)(k:∀o,h.get? j=some o->h'.get? j=some o):ItAt h' T j l i:=let ⟨o,a,b⟩:=x;⟨o,k o a,b⟩
theorem bf {prog:Ib}{w:Ic}{A:Ik}(hh:A.handled=none)(T:String)(j l:Ig)(hne:l≠j)(its:Array H0):Draws prog w A j [j,l] its.size (fun i v=>its[i]?=some v) (fun i h=>ItAt h T j l i/\SeqAt h T l its) where
 live:=fun _ _ st=>let ⟨o,q,_⟩:=st.1;⟨o,q⟩
 frame:=fun _ _ _ st k=>⟨st.1.keep fun o q=>k j (by simp) o q,st.2.keep fun o q=>k l (by simp) o q⟩
 item:=fun i s Q E hi st k=>by
  obtain⟨a,⟨rfl,b⟩|⟨rfl,b⟩⟩:=st
  ·exact (Draws.list (prog:=prog) (w:=w) hh j l hne its).item i s Q E hi ⟨a,b⟩ fun x h' tk p st sb=>k x h' tk p ⟨st.1,.inl ⟨rfl,st.2⟩⟩ sb
  ·exact (g9 (prog:=prog) (w:=w) hh j l hne its).item i s Q E hi ⟨a,b⟩ fun x h' tk p st sb=>k x h' tk p ⟨st.1,.inr ⟨rfl,st.2⟩⟩ sb
 done:=fun s Q E st k=>by
  obtain⟨a,⟨rfl,b⟩|⟨rfl,b⟩⟩:=st
  ·exact (Draws.list (prog:=prog) (w:=w) hh j l hne its).done s Q E ⟨a,b⟩ k
  ·exact (g9 (prog:=prog) (w:=w) hh j l hne its).done s Q E ⟨a,b⟩ k
section
variable {prog:Ib}{w:Ic}{A:Ik}{E:H0->Ii->Prop}{s:Ii}
theorem pH {l:Ig}{T:String}{its:Array H0}{Q:H0->Ii->Prop}(hl:SeqAt s.heap T l its)(k:Q (.ref s.heap.objs.size) {s with heap:=s.heap.push {cls:=.type T,data:=.fields #[.ref l,.int 0 0]}}):Im (Io prog w) A (pyIter (.ref l)) Q E s:=by
 obtain⟨rfl,hl⟩|⟨rfl,hl⟩:=hl
 ·exact wpAny_pyIter_list hl k
 ·exact IY hl k
structure ZA (z TI TO i1 i2 l1 l2:Ig):Prop where
 a1:TI≠z
 a2:TO≠z
 a3:i1≠z
 a4:i2≠z
 a5:TI≠TO
 a6:TI≠i1
 a7:TI≠i2
 a8:TO≠i1
 a9:TO≠i2
 b1:i1≠i2
 b2:l1≠z
 b3:l1≠TO
 b4:l1≠i1
 b5:l1≠i2
 b6:l2≠z
 b7:l2≠TO
 b8:l2≠i1
 b9:l2≠i2
structure ZS (h:Ie)(z TI TO i1 i2 l1 l2:Ig)(T1 T2:String)(xs ys:Array H0)(n:Nat)(f0:H0):Prop where
 z:IsZip h z TI TO f0
 ti:Jw h TI (.ref i1) (.ref i2)
 to: ∃a b,Jw h TO a b
 u1:ItAt h T1 i1 l1 n
 u2:ItAt h T2 i2 l2 n
 s1:SeqAt h T1 l1 xs
 s2:SeqAt h T2 l2 ys
theorem u5 {z TI TO i1 i2 l1 l2:Ig}{T1 T2:String}{n:Nat}{xs ys:Array H0}{x y:H0}{Q:H0->Ii->Prop}(hh:A.handled=none)(D:ZA z TI TO i1 i2 l1 l2)(Z:ZS s.heap z TI TO i1 i2 l1 l2 T1 T2 xs ys n .none)(hx:xs[n]?=some x)(hy:ys[n]?=some y)
  (k:∀h' tk,ZS h' z TI TO i1 i2 l1 l2 T1 T2 xs ys (n+1) (IX s.heap.objs.size)->Jw h' s.heap.objs.size x y->h'.objs.size=s.heap.objs.size+1->(∀c o,c≠z->c≠TO->c≠i1->c≠i2->s.heap.get? c=some o->h'.get? c=some o)->Q (.ref s.heap.objs.size) {s with heap:=h',toks:=tk}):
  Im (Io prog w) A (H9.«zip.__next__» ⟨[.ref z],[]⟩) (fun fin s'=> ∃v,fin=.done (.ret v)/\Q v s') E s:=by
 obtain⟨hz,hti,⟨a,b,hto⟩,u1,u2,s1,s2⟩:=Z
 have nx:n<xs.size:=(Gp.mp hx).1
 have ny:n<ys.size:=(Gp.mp hy).1
 show Im _ _ (field (.ref z) 2>>=_) _ _ s;refine Ip (Jk hz rfl (x:=.bool false) rfl ?_)
 show Im _ _ (field (.ref z) 3>>=_) _ _ s;refine Ip (Jk hz rfl (x:=.ref TI) rfl (Ip (Iz hti rfl ?_)))
 show Im _ _ (SmallTypes.ownedTupleIsFree (.ref z)>>=_) _ _ s
 refine Ip ?_;unfold SmallTypes.ownedTupleIsFree
 refine Ip (Jk hz rfl (x:=.none) rfl (Iu ?_));simp only[if_true]
 refine Ip (Iv (Ip (Jk hz rfl (x:=.ref TO) rfl (Ip (Jx hz (by simp) fun h1 z1 e1=>?_)))))
 replace z1:IsZip h1 z TI TO .ellipsis:=z1
 refine Ip ?_;simp only[Gq,Gr,E4,Fc]
 refine Ip (Ip (Jy ?_));show Im _ _ (SmallTypes.nextOf (.ref i1)>>=_) _ _ _
 refine Ip ((bf (prog:=prog) (w:=w) hh T1 i1 l1 D.b4 xs).item n _ _ _ nx ⟨u1.keep fun o q=>e1.extBut _ _ D.a3 q,s1.keep fun o q=>e1.extBut _ _ D.b2 q⟩ fun x' h2 tk2 px st2 e2=>Iu ?_)
 have:x'=x:=Option.some.inj (px.symm.trans hx)
 subst this
 have to2:Jw h2 TO a b:=e2.extBut _ _ D.a8 (e1.extBut _ _ D.a2 hto)
 refine Ip (Iz to2 rfl (Ip (Jz to2 fun h3 to3 e3=>?_)))
 replace to3:Jw h3 TO x' b:=to3
 refine Ip (JB (Iu (Ip (Ip (Jy ?_)))));show Im _ _ (SmallTypes.nextOf (.ref i2)>>=_) _ _ _
 refine Ip ((bf (prog:=prog) (w:=w) hh T2 i2 l2 D.b9 ys).item n _ _ _ ny ⟨u2.keep fun o q=>e3.extBut _ _ (Ne.symm D.a9) (e2.extBut _ _ (Ne.symm D.b1) (e1.extBut _ _ D.a4 q)),s2.keep fun o q=>e3.extBut _ _ D.b7 (e2.extBut _ _ D.b8 (e1.extBut _ _ D.b6 q))⟩ fun y' h4 tk4 py st4 e4=>Iu ?_)
 have:y'=y:=Option.some.inj (py.symm.trans hy)
 subst this
 have to4:Jw h4 TO x' b:=e4.extBut _ _ D.a9 to3
 refine Ip (Iz to4 rfl (Ip (Jz to4 fun h5 to5 e5=>?_)))
 replace to5:Jw h5 TO x' y':=to5
 refine Ip (JB (Iu (Iu ?_)));refine Ip (Iz to5 rfl (Ip (wpAny_newTuple ?_)))
 have zs:h5.objs.size=s.heap.objs.size:=by rw[e5.1,e4.1,e3.1,e2.1,e1.1]
 have z5:IsZip h5 z TI TO .ellipsis:=e5.extBut _ _ (Ne.symm D.a2) (e4.extBut _ _ (Ne.symm D.a4) (e3.extBut _ _ (Ne.symm D.a2) (e2.extBut _ _ (Ne.symm D.a3) z1)))
 have k5: ∀c o,c≠z->c≠TO->c≠i1->c≠i2->s.heap.get? c=some o->h5.get? c=some o:=fun c o c1 c2 c3 c4 e=>e5.extBut _ _ c2 (e4.extBut _ _ c4 (e3.extBut _ _ c2 (e2.extBut _ _ c3 (e1.extBut _ _ c1 e))))
 have zl:z<h5.objs.size:=Eu z5
 show Im _ _ (SmallTypes.ownedTupleHandOut (.ref z) (.ref h5.objs.size)>>=_) _ _ _
 refine Ip ?_;unfold SmallTypes.ownedTupleHandOut
 have z6:IsZip (h5.push {cls:=.type "tuple",data:=.seq #[x',y']}) z TI TO .ellipsis:=Ey _ z5
 refine Ip (Jx z6 (by simp) fun h7 z7 e7=>?_)
 replace z7:IsZip h7 z TI TO (IX h5.objs.size):=z7
 refine Jx z7 (by simp) fun h8 z8 e8=>?_
 replace z8:IsZip h8 z TI TO (IX h5.objs.size):=z8
 have up: ∀c o,c≠z->h5.get? c=some o->h8.get? c=some o:=fun c o c1 e=>e8.extBut _ _ c1 (e7.extBut _ _ c1 (Ey _ e))
 have pr8:Jw h8 h5.objs.size x' y':=e8.extBut _ _ (FK zl) (e7.extBut _ _ (FK zl) (EJ _ rfl))
 have sz8:h8.objs.size=h5.objs.size+1:=by rw[e8.1,e7.1,E7]
 rw[zs] at z8 pr8 sz8
 refine Iu ⟨_,rfl,?_⟩
 show Q (.ref h5.objs.size) _
 rw[zs]
 refine k h8 _ ⟨z8,up _ _ D.a1 (k5 _ _ D.a1 D.a5 D.a6 D.a7 hti),⟨_,_,up _ _ D.a2 to5⟩,?_,?_,s1.keep fun o q=>up _ _ D.b2 (k5 _ _ D.b2 D.b3 D.b4 D.b5 q),s2.keep fun o q=>up _ _ D.b6 (k5 _ _ D.b6 D.b7 D.b8 D.b9 q)⟩ pr8 sz8 fun c o c1 c2 c3 c4 e=>up c o c1 (k5 c o c1 c2 c3 c4 e)
 ·exact st2.1.keep fun o q=>up _ _ D.a3 (e5.extBut _ _ (Ne.symm D.a8) (e4.extBut _ _ D.b1 (e3.extBut _ _ (Ne.symm D.a8) q)))
 ·exact st4.1.keep fun o q=>up _ _ D.a4 (e5.extBut _ _ (Ne.symm D.a9) q)
theorem xX {z TI TO i1 i2 l1 l2:Ig}{T1 T2:String}{n:Nat}{xs ys:Array H0}{Q:Fin->Ii->Prop}(hh:A.handled=none)(D:ZA z TI TO i1 i2 l1 l2)(Z:ZS s.heap z TI TO i1 i2 l1 l2 T1 T2 xs ys n .none)(he:(n=xs.size/\n<=ys.size)\/(n<xs.size/\n=ys.size))
  (k:∀h' tk e,(∀c o,c≠z->c≠TO->c≠i1->c≠i2->s.heap.get? c=some o->h'.get? c=some o)->(∃o,h'.get? e=some o/\o.cls=.type "StopIteration")->E (.ref e) {s with heap:=h',toks:=tk}):
  Im (Io prog w) A (H9.«zip.__next__» ⟨[.ref z],[]⟩) Q E s:=by
 obtain⟨hz,hti,⟨a,b,hto⟩,u1,u2,s1,s2⟩:=Z
 show Im _ _ (field (.ref z) 2>>=_) _ _ s;refine Ip (Jk hz rfl (x:=.bool false) rfl ?_)
 show Im _ _ (field (.ref z) 3>>=_) _ _ s;refine Ip (Jk hz rfl (x:=.ref TI) rfl (Ip (Iz hti rfl ?_)))
 show Im _ _ (SmallTypes.ownedTupleIsFree (.ref z)>>=_) _ _ s
 refine Ip ?_;unfold SmallTypes.ownedTupleIsFree
 refine Ip (Jk hz rfl (x:=.none) rfl (Iu ?_));simp only[if_true]
 refine Ip (Iv (Ip (Jk hz rfl (x:=.ref TO) rfl (Ip (Jx hz (by simp) fun h1 z1 e1=>?_)))))
 replace z1:IsZip h1 z TI TO .ellipsis:=z1
 refine Ip ?_;simp only[Gq,Gr,E4,Fc]
 refine Ip (Ip (Jy ?_));show Im _ _ (SmallTypes.nextOf (.ref i1)>>=_) _ _ _
 have st1:ItAt h1 T1 i1 l1 n/\SeqAt h1 T1 l1 xs:=⟨u1.keep fun o q=>e1.extBut _ _ D.a3 q,s1.keep fun o q=>e1.extBut _ _ D.b2 q⟩
 rcases he with⟨rfl,_⟩|⟨nx,hy⟩
 ·refine Ip ((bf (prog:=prog) (w:=w) hh T1 i1 l1 D.b4 xs).done _ _ _ st1 fun h2 e e2 he=>?_)
  obtain⟨oe,g1,g2⟩:=he
  have z2:IsZip h2 z TI TO .ellipsis:=e2 _ _ (Ne.symm D.a3) z1
  have ez:e≠z:=fun q=>by subst q;rw[z2] at g1;cases g1;simp at g2
  exact Jx z2 (by simp) fun h3 _ e3=>k h3 _ e (fun c o c1 _ c3 _ q=>e3.extBut _ _ c1 (e2 _ _ c3 (e1.extBut _ _ c1 q))) ⟨oe,e3.extBut _ _ ez g1,g2⟩
 ·refine Ip ((bf (prog:=prog) (w:=w) hh T1 i1 l1 D.b4 xs).item n _ _ _ nx st1 fun x' h2 tk2 px st2 e2=>Iu ?_)
  have to2:Jw h2 TO a b:=e2.extBut _ _ D.a8 (e1.extBut _ _ D.a2 hto)
  refine Ip (Iz to2 rfl (Ip (Jz to2 fun h3 to3 e3=>?_)))
  refine Ip (JB (Iu (Ip (Ip (Jy ?_)))));show Im _ _ (SmallTypes.nextOf (.ref i2)>>=_) _ _ _
  subst hy
  refine Ip ((bf (prog:=prog) (w:=w) hh T2 i2 l2 D.b9 ys).done _ _ _ ⟨u2.keep fun o q=>e3.extBut _ _ (Ne.symm D.a9) (e2.extBut _ _ (Ne.symm D.b1) (e1.extBut _ _ D.a4 q)),s2.keep fun o q=>e3.extBut _ _ D.b7 (e2.extBut _ _ D.b8 (e1.extBut _ _ D.b6 q))⟩ fun h4 e e4 he=>?_)
  obtain⟨oe,g1,g2⟩:=he
  have z4:IsZip h4 z TI TO .ellipsis:=e4 _ _ (Ne.symm D.a4) (e3.extBut _ _ (Ne.symm D.a2) (e2.extBut _ _ (Ne.symm D.a3) z1))
  have ez:e≠z:=fun q=>by subst q;rw[z4] at g1;cases g1;simp at g2
  exact Jx z4 (by simp) fun h5 _ e5=>k h5 _ e (fun c o c1 c2 c3 c4 q=>e5.extBut _ _ c1 (e4 _ _ c4 (e3.extBut _ _ c2 (e2.extBut _ _ c3 (e1.extBut _ _ c1 q))))) ⟨oe,e5.extBut _ _ ez g1,g2⟩
theorem wu {z TI TO i1 i2 l1 l2:Ig}{T1 T2:String}{n:Nat}{xs ys:Array H0}{x y:H0}{Q:Option H0->Ii->Prop}(hh:A.in1.handled=none)(D:ZA z TI TO i1 i2 l1 l2)(Z:ZS s.heap z TI TO i1 i2 l1 l2 T1 T2 xs ys n .none)(hx:xs[n]?=some x)(hy:ys[n]?=some y)
  (k:∀h' tk,ZS h' z TI TO i1 i2 l1 l2 T1 T2 xs ys (n+1) (IX s.heap.objs.size)->Jw h' s.heap.objs.size x y->h'.objs.size=s.heap.objs.size+1->(∀c o,c≠z->c≠TO->c≠i1->c≠i2->s.heap.get? c=some o->h'.get? c=some o)->Q (some (.ref s.heap.objs.size)) {s with heap:=h',toks:=tk}):
  Im (Io prog w) A (IV (.ref z)) Q E s:=by
 have hT:s.TypeIs (.ref z) "zip":=⟨_,Z.z,rfl⟩
 unfold IV
 exact Ip (wpAny_attempt (wpAny_callSpecial?_slot (name:=Str.ofString "__next__") hT F.slot_zip_next (Ir F.slot_zip_next hT F.entry_zip_next (u5 hh D Z hx hy fun h' tk a1 a2 a3 a4=>Iu (k h' tk a1 a2 a3 a4)) (F.args_zip_next_1 _))))
theorem zI {z TI TO i1 i2 l1 l2:Ig}{T1 T2:String}{n:Nat}{xs ys:Array H0}{Q:Option H0->Ii->Prop}(hh:A.in1.handled=none)(D:ZA z TI TO i1 i2 l1 l2)(Z:ZS s.heap z TI TO i1 i2 l1 l2 T1 T2 xs ys n .none)(he:(n=xs.size/\n<=ys.size)\/(n<xs.size/\n=ys.size))
  (k:∀h' tk,(∀c o,c≠z->c≠TO->c≠i1->c≠i2->s.heap.get? c=some o->h'.get? c=some o)->Q none {s with heap:=h',toks:=tk}):Im (Io prog w) A (IV (.ref z)) Q E s:=by
 have hT:s.TypeIs (.ref z) "zip":=⟨_,Z.z,rfl⟩
 unfold IV
 refine Ip (wpAny_attempt (wpAny_callSpecial?_slot (name:=Str.ofString "__next__") hT F.slot_zip_next (Ir F.slot_zip_next hT F.entry_zip_next (xX hh D Z he fun h' tk e hk ⟨o,g1,g2⟩=>?_) (F.args_zip_next_1 _))))
 exact Ip (Iw (T:= "StopIteration") (b:=true) ⟨o,g1,g2⟩ isSubtype_stop (Iu (k _ _ hk)))
end
noncomputable abbrev zA (h:Ie)(T:String)(l:Ig):Ie:=h.push {cls:=.type T,data:=.fields #[.ref l,.int 0 0]}
theorem qZ (l1 l2:Ig)(T1 T2:String)(xs ys:Array H0):
  Meets (H9.«zip.__new__» ⟨[.type "zip",.ref l1,.ref l2],[]⟩) (fun _ R s=>SeqAt s.heap T1 l1 xs/\SeqAt s.heap T2 l2 ys/\
   R (.ok (.ret (.ref ((((zA (zA s.heap T1 l1) T2 l2).push {cls:=.type "tuple",data:=.seq #[.ref s.heap.objs.size,.ref (zA s.heap T1 l1).objs.size]}).push {cls:=.type "tuple",data:=.seq #[.none,.none]}).objs.size))))
     {s with heap:=(((zA (zA s.heap T1 l1) T2 l2).push {cls:=.type "tuple",data:=.seq #[.ref s.heap.objs.size,.ref (zA s.heap T1 l1).objs.size]}).push {cls:=.type "tuple",data:=.seq #[.none,.none]}).push {cls:=.type "zip",data:=.fields #[.none,.bool false,.bool false,.ref (zA (zA s.heap T1 l1) T2 l2).objs.size,.ref ((zA (zA s.heap T1 l1) T2 l2).push {cls:=.type "tuple",data:=.seq #[.ref s.heap.objs.size,.ref (zA s.heap T1 l1).objs.size]}).objs.size]}}):=
 .of_wp fun prog w A R s h=>by
  obtain⟨hp,g,d,tk,os⟩:=s;obtain⟨q1,q2,h⟩:=h
  have hsub:=sub_zip
  have r1:SeqAt (Ii.heap ⟨hp,g,d,tk,os⟩) T1 l1 xs:=q1
  have r2:SeqAt (Ii.heap ⟨hp.push {cls:=.type T1,data:=.fields #[.ref l1,.int 0 0]},g,d,tk,os⟩) T2 l2 ys:=q2.keep fun o e=>Ey _ e
  wp_walk using pH r1,pH r2
  exact⟨_,rfl,h⟩
section
variable {prog:Ib}{w:Ic}{A:Ik}{E:H0->Ii->Prop}{s:Ii}
theorem mt {l1 l2:Ig}{T1 T2:String}{xs ys:Array H0}{Q:H0->Ii->Prop}(q1:SeqAt s.heap T1 l1 xs)(q2:SeqAt s.heap T2 l2 ys)
  (k:∀h',ZS h' (s.heap.objs.size+4) (s.heap.objs.size+2) (s.heap.objs.size+3) s.heap.objs.size (s.heap.objs.size+1) l1 l2 T1 T2 xs ys 0 .none->h'.objs.size=s.heap.objs.size+5->(∀c o,s.heap.get? c=some o->h'.get? c=some o)->Q (.ref (s.heap.objs.size+4)) {s with heap:=h'}):
  Im (Io prog w) A (call (.type "zip") [.ref l1,.ref l2]) Q E s:=by
 refine callType_new F.called_zip (by decide) (F.typeCall_zip_2 _ _) (F.newCall_zip_2 _ _) (fun obj=>F.args_object_init_3 obj _ _) F.entry_zip_new (qZ l1 l2 T1 T2 xs ys) ⟨q1,q2,?_⟩
 have y1:(zA s.heap T1 l1).objs.size=s.heap.objs.size+1:=E7 ..
 have y2:(zA (zA s.heap T1 l1) T2 l2).objs.size=s.heap.objs.size+2:=by rw[E7,y1]
 generalize e2:zA (zA s.heap T1 l1) T2 l2=H2 at *
 have y3:(H2.push {cls:=.type "tuple",data:=.seq #[.ref s.heap.objs.size,.ref (zA s.heap T1 l1).objs.size]}).objs.size=s.heap.objs.size+3:=by rw[E7,y2]
 have g3:(H2.push {cls:=.type "tuple",data:=.seq #[.ref s.heap.objs.size,.ref (zA s.heap T1 l1).objs.size]}).get? H2.objs.size=some _:=EJ _ rfl
 have up3: ∀c o,H2.get? c=some o->(H2.push {cls:=.type "tuple",data:=.seq #[.ref s.heap.objs.size,.ref (zA s.heap T1 l1).objs.size]}).get? c=some o:=fun c o e=>Ey _ e
 generalize H2.push {cls:=.type "tuple",data:=.seq #[.ref s.heap.objs.size,.ref (zA s.heap T1 l1).objs.size]}=H3 at *
 have y4:(H3.push {cls:=.type "tuple",data:=.seq #[.none,.none]}).objs.size=s.heap.objs.size+4:=by rw[E7,y3]
 have g4:(H3.push {cls:=.type "tuple",data:=.seq #[.none,.none]}).get? H3.objs.size=some _:=EJ _ rfl
 have up4: ∀c o,H3.get? c=some o->(H3.push {cls:=.type "tuple",data:=.seq #[.none,.none]}).get? c=some o:=fun c o e=>Ey _ e
 generalize H3.push {cls:=.type "tuple",data:=.seq #[.none,.none]}=H4 at *
 have y5:(H4.push {cls:=.type "zip",data:=.fields #[.none,.bool false,.bool false,.ref H2.objs.size,.ref H3.objs.size]}).objs.size=s.heap.objs.size+5:=by rw[E7,y4]
 have g5:(H4.push {cls:=.type "zip",data:=.fields #[.none,.bool false,.bool false,.ref H2.objs.size,.ref H3.objs.size]}).get? H4.objs.size=some _:=EJ _ rfl
 have up5: ∀c o,H4.get? c=some o->(H4.push {cls:=.type "zip",data:=.fields #[.none,.bool false,.bool false,.ref H2.objs.size,.ref H3.objs.size]}).get? c=some o:=fun c o e=>Ey _ e
 generalize H4.push {cls:=.type "zip",data:=.fields #[.none,.bool false,.bool false,.ref H2.objs.size,.ref H3.objs.size]}=H5 at *
 have u2:H2.get? (s.heap.objs.size+1)=some {cls:=.type T2,data:=.fields #[.ref l2,.int 0 0]}:=by rw[<-e2,<-y1];exact EJ _ rfl
 have u1:H2.get? s.heap.objs.size=some {cls:=.type T1,data:=.fields #[.ref l1,.int 0 0]}:=by rw[<-e2];exact Ey _ (EJ _ rfl)
 have kk: ∀c o,s.heap.get? c=some o->H2.get? c=some o:=fun c o e=>by rw[<-e2];exact Ey _ (Ey _ e)
 have up: ∀c o,H2.get? c=some o->H5.get? c=some o:=fun c o e=>up5 c o (up4 c o (up3 c o e))
 show _/\_
 rw[y4] at g5 ⊢
 rw[y2,y3] at g5
 rw[y2,y1] at g3
 rw[y3] at g4
 exact⟨⟨_,g5,rfl⟩,k _ ⟨g5,up5 _ _ (up4 _ _ g3),⟨_,_,up5 _ _ g4⟩,⟨_,up _ _ u1,rfl,rfl⟩,⟨_,up _ _ u2,rfl,rfl⟩,q1.keep fun o e=>up _ _ (kk _ _ e),q2.keep fun o e=>up _ _ (kk _ _ e)⟩ y5 fun c o e=>up c o (kk c o e)⟩
end
end
section
def SqK (k:Bool)(K:PySem.W.Frag)(H:Hp)(a:Ig)(xs:List V):Prop:=match k with
 |true=>SqT K H a xs
 |false=>SqL K H a xs
noncomputable def tyK (k:Bool):String:=match k with
 |true=> "tuple_iterator"
 |false=> "list_iterator"
section
variable {X:Cx}{pins:List (Ig×Ij)}{σ:St}{H:Hp}{s:Ii}{a:Ig}{xs ys:List V}{k:Bool}
theorem Inv.seqK (I:Inv X pins σ H s)(h:SqK k X.K H a xs): ∃its:List H0,Vals xs its/\SeqAt s.heap (tyK k) a its.toArray:=by
 cases k with
 |false=>
  obtain⟨its,rv,p,_⟩:=I.list h
  exact⟨its,rv,.inl ⟨rfl,p.isList⟩⟩
 |true=>
  obtain⟨its,rv,p,_⟩:=I.tuple h
  exact⟨its,rv,.inr ⟨rfl,OK p⟩⟩
theorem Inv.seqK_inj (I:Inv X pins σ H s)(h:SqK k X.K H a xs)(g:SqK k X.K H a ys):xs=ys:=by
 cases k with
 |false=>exact I.list_inj h g
 |true=>exact I.tuple_inj h g
end
def Itz (j k:Bool)(K:PySem.W.Frag)(a b:Ig):It:=
 ⟨fun i H=> ∃xs ys x y,SqK j K H a xs/\SqK k K H b ys/\xs[i]?=some x/\ys[i]?=some y,fun i H v H'=> ∃T x y,H T=none/\v=.ref T/\(∀xs ys,SqK j K H a xs->SqK k K H b ys->xs[i]?=some x/\ys[i]?=some y)/\H'=upd H T (.tup [x,y]),fun i H=> ∃xs ys,SqK j K H a xs/\SqK k K H b ys/\min xs.length ys.length=i⟩
structure ZO (h:Ie)(z TI TO i1 i2 a b:Ig)(T1 T2:String)(n:Nat)(f0:H0):Prop where
 z:IsZip h z TI TO f0
 ti:Jw h TI (.ref i1) (.ref i2)
 to: ∃u v,Jw h TO u v
 u1:ItAt h T1 i1 a n
 u2:ItAt h T2 i2 b n
theorem ZO.keep {h h':Ie}{z TI TO i1 i2 a b:Ig}{T1 T2:String}{n:Nat}{f0:H0}(Z:ZO h z TI TO i1 i2 a b T1 T2 n f0)(k:∀c∈[z,TI,TO,i1,i2],∀o,h.get? c=some o->h'.get? c=some o):ZO h' z TI TO i1 i2 a b T1 T2 n f0:=
 ⟨k z (by simp) _ Z.z,k TI (by simp) _ Z.ti,let ⟨u,v,q⟩:=Z.to;⟨u,v,k TO (by simp) _ q⟩,Z.u1.keep fun o q=>k i1 (by simp) o q,Z.u2.keep fun o q=>k i2 (by simp) o q⟩
theorem ve {P:Ib}{w:Ic}{K:PySem.W.Frag}{elts:List Expr}{x1}{tpos:IH}{a b z TI TO i1 i2:Ig}{j k:Bool}(D:ZA z TI TO i1 i2 a b):J7 P w K (.Tuple elts x1 tpos) (Itz j k K a b) [z,TI,TO,i1,i2] z (fun i h=>ZO h z TI TO i1 i2 a b (tyK j) (tyK k) i .none) where
 mem:=by simp
 obj:=fun i h st c hc=>by
  simp only[En,EF,or_false] at hc
  rcases hc with rfl|rfl|rfl|rfl|rfl
  ·exact⟨_,st.z,fun v z=>by cases z⟩
  ·exact⟨_,st.ti,fun v z=>by cases z⟩
  ·obtain⟨_,_,q⟩:=st.to
   exact⟨_,q,fun v z=>by cases z⟩
  ·obtain⟨o,e,c,d⟩:=st.u1
   exact⟨o,e,fun v z=>by rw[d] at z;cases z⟩
  ·obtain⟨o,e,c,d⟩:=st.u2
   exact⟨o,e,fun v z=>by rw[d] at z;cases z⟩
 keep:=fun i h h' st kk=>st.keep kk
 item:=by
  intro X hP hw hK hc i pins s σ H E I hf st hg
  subst hP hw hK
  obtain⟨xs,ys,x,y,hq1,hq2,hx,hy⟩:=hg
  obtain⟨is1,rv1,q1⟩:=I.seqK hq1
  obtain⟨is2,rv2,q2⟩:=I.seqK hq2
  obtain⟨u,hu,ru⟩:=rv1.get hx
  obtain⟨v,hv,rv⟩:=rv2.get hy
  have fz:=hf z (by simp)
  have fO:=hf TO (by simp)
  have f1:=hf i1 (by simp)
  have f2:=hf i2 (by simp)
  refine wu (I.ok.hd hc) D ⟨st.z,st.ti,st.to,st.u1,st.u2,q1,q2⟩ (by simpa using hu) (by simpa using hv) fun h' tk Z' hT hsz hk=>?_
  have nT:H s.heap.objs.size=none:=I.hok.fresh (Em _)
  have lt: ∀c o,s.heap.get? c=some o->c≠s.heap.objs.size:=fun c o q=>EK (Eu q)
  have ltH: ∀c o,H c=some o->c≠s.heap.objs.size:=fun c o q z=>by rw[z,nT] at q;cases q
  have neH: ∀c o,H c=some o->c≠z/\c≠TO/\c≠i1/\c≠i2:=fun c o q=>⟨fun z=>by (rw[z,fz.1] at q;cases q),fun z=>by (rw[z,fO.1] at q;cases q),fun z=>by (rw[z,f1.1] at q;cases q),fun z=>by (rw[z,f2.1] at q;cases q)⟩
  have hk': ∀c o,c ∉ [z,TO,i1,i2]->s.heap.get? c=some o->h'.get? c=some o:=fun c o n q=>hk c o (fun z=>n (by simp [z])) (fun z=>n (by simp [z])) (fun z=>n (by simp [z])) (fun z=>n (by simp [z])) q
  have I1:Inv X pins σ (upd H s.heap.objs.size (.tup [x,y])) {s with heap:=h',toks:=tk}:=by
   refine I.call' (s':={s with heap:=h',toks:=tk}) (ch:=[z,TO,i1,i2]) rfl ⟨fun b o q n hb hx=>?_,fun b o q n hb hx=>?_,fun b o q n hx=>?_,fun b o q hx=>?_,fun b xs q=>?_,fun b o u q=>?_,fun b ps q=>?_⟩ (fun b o q=>?_) I.bare fun b hb=>?_
   ·exact hk' b o hx q
   ·exact⟨o.slots,hk' b o hx q⟩
   ·rw[af (lt b o q)];exact n
   ·exact⟨o,hk' b o hx q⟩
   ·rw[af (ltH b _ q)];exact q
   ·rw[af (ltH b _ q)];exact q
   ·exact⟨#[],by rw[af (ltH b _ q),q];simp⟩
   ·by_cases hb:b=s.heap.objs.size
    ·subst hb
     rw[aq] at q
     cases q
     exact⟨by show 2<=sizeLine;decide,_,.cons ru (.cons rv .nil),⟨_,hT,rfl,_,rfl⟩,_,hT,rfl⟩
    ·rw[af hb] at q
     refine (I.hok b o q).stay (fun c v hc r=>?_) (fun c r=>by rw[af (ltH c _ r)];exact r) fun c xs r=>by rw[af (ltH c _ r)];exact r
     have: ∃o,H c=some o:=by
      rcases hc with rfl|hc
      ·exact⟨o,q⟩
      ·exact⟨_,hc⟩
     obtain⟨o',qo⟩:=this
     obtain⟨n1,n2,n3,n4⟩:=neH c o' qo
     exact hk c v n1 n2 n3 n4 r
   ·have fb:JV X pins H b:=by
     simp only[En,EF,or_false] at hb
     rcases hb with rfl|rfl|rfl|rfl
     ·exact fz
     ·exact fO
     ·exact f1
     ·exact f2
    exact⟨fb.2.2.2.1,fb.2.1,fb.2.2.2.2.1,fb.2.2.2.2.2⟩
  refine⟨_,rfl,wpAny_letOwnedTupleGo_zip (s:={s with heap:=h',toks:=tk}) Z'.z fun h2 hz2 hs2=>?_⟩
  have nn: ∀c∈[z,TI,TO,i1,i2],c≠s.heap.objs.size:=fun c hc=>by
   simp only[En,EF,or_false] at hc
   rcases hc with rfl|rfl|rfl|rfl|rfl
   ·exact lt _ _ st.z
   ·exact lt _ _ st.ti
   ·obtain⟨_,_,q⟩:=st.to;exact lt _ _ q
   ·obtain⟨o,e,_⟩:=st.u1;exact lt _ _ e
   ·obtain⟨o,e,_⟩:=st.u2;exact lt _ _ e
  have fe':(upd H s.heap.objs.size (.tup [x,y])) z=none:=by rw[af (nn z (by simp))];exact fz.1
  refine⟨.ref s.heap.objs.size,upd H s.heap.objs.size (.tup [x,y]),?_,rfl,⟨s.heap.objs.size,x,y,nT,rfl,fun xs' ys' h1 h2=>by rw[I.seqK_inj h1 hq1,I.seqK_inj h2 hq2];exact⟨hx,hy⟩,rfl⟩,?_,fun c hc=>?_⟩
  ·exact I1.turned (t':=tk) (fun b o hb eo=>(hs2.2 b hb).trans eo) fe' fz.2.1 fz.2.2.2.1 fz.2.2.2.2.1 fz.2.2.2.2.2
  ·have up: ∀c o,c≠z->h'.get? c=some o->h2.get? c=some o:=fun c o n q=>hs2.extBut _ _ n q
   obtain⟨u',v',q⟩:=Z'.to
   exact⟨hz2,up _ _ D.a1 Z'.ti,⟨u',v',up _ _ D.a2 q⟩,Z'.u1.keep fun o q=>up _ _ D.a3 q,Z'.u2.keep fun o q=>up _ _ D.a4 q⟩
  ·rw[af (nn c hc)]
   exact (hf c hc).1
 done:=by
  intro X hP hw hK hc i pins s σ H E I hf st hg
  subst hP hw hK
  obtain⟨xs,ys,hq1,hq2,hx⟩:=hg
  obtain⟨is1,rv1,q1⟩:=I.seqK hq1
  obtain⟨is2,rv2,q2⟩:=I.seqK hq2
  have l1:=rv1.length
  have l2:=rv2.length
  have fz:=hf z (by simp)
  have fO:=hf TO (by simp)
  have f1:=hf i1 (by simp)
  have f2:=hf i2 (by simp)
  refine zI (I.ok.hd hc) D ⟨st.z,st.ti,st.to,st.u1,st.u2,q1,q2⟩ (by
   rw[Ez,Ez]
   omega) fun h' tk hk=>⟨rfl,?_⟩
  refine I.call' (s':={s with heap:=h',toks:=tk}) (ch:=[z,TO,i1,i2]) rfl ⟨fun b o q n hb hx=>?_,fun b o q n hb hx=>?_,fun b o q n hx=>n,fun b o q hx=>?_,fun b xs q=>q,fun b o u q=>q,fun b ps q=>⟨#[],by rw[q];simp⟩⟩ (fun b o q=>?_) I.bare fun b hb=>?_
  ·exact hk b o (fun z=>hx (by simp [z])) (fun z=>hx (by simp [z])) (fun z=>hx (by simp [z])) (fun z=>hx (by simp [z])) q
  ·exact⟨o.slots,hk b o (fun z=>hx (by simp [z])) (fun z=>hx (by simp [z])) (fun z=>hx (by simp [z])) (fun z=>hx (by simp [z])) q⟩
  ·exact⟨o,hk b o (fun z=>hx (by simp [z])) (fun z=>hx (by simp [z])) (fun z=>hx (by simp [z])) (fun z=>hx (by simp [z])) q⟩
  ·refine (I.hok b o q).stay (fun c v hc r=>?_) (fun c r=>r) fun c xs r=>r
   have: ∃o,H c=some o:=by
    rcases hc with rfl|hc
    ·exact⟨o,q⟩
    ·exact⟨_,hc⟩
   obtain⟨o',qo⟩:=this
   exact hk c v (fun z=>by rw[z,fz.1] at qo;cases qo) (fun z=>by rw[z,fO.1] at qo;cases qo) (fun z=>by rw[z,f1.1] at qo;cases qo) (fun z=>by rw[z,f2.1] at qo;cases qo) r
  ·have fb:JV X pins H b:=by
    simp only[En,EF,or_false] at hb
    rcases hb with rfl|rfl|rfl|rfl
    ·exact fz
    ·exact fO
    ·exact f1
    ·exact f2
   exact⟨fb.2.2.2.1,fb.2.1,fb.2.2.2.2.1,fb.2.2.2.2.2⟩
 self:=fun _ _ _ _ _ st h=>wpAny_pyIter_zip st.z h
section
variable {X:Cx}
def iZip (j k:Bool)(K:PySem.W.Frag)(ta:TA):TI:=fun σ H R=>ta σ H fun vs H1=> ∃a b,vs=[.ref a,.ref b]/\(∃xs,SqK j K H1 a xs)/\(∃ys,SqK k K H1 b ys)/\R (Itz j k K a b) H1
theorem Ak (n a b:Nat)(h1:a<n)(h2:b<n):(n+2≠n+4/\n+3≠n+4/\n≠n+4/\n+1≠n+4/\n+2≠n+3/\n+2≠n/\n+2≠n+1/\n+3≠n/\n+3≠n+1)/\(n≠n+1/\a≠n+4/\a≠n+3/\a≠n/\a≠n+1/\b≠n+4/\b≠n+3/\b≠n/\b≠n+1):=by omega
theorem u7 {n l1 l2:Ig}(h1:l1<n)(h2:l2<n):ZA (n+4) (n+2) (n+3) n (n+1) l1 l2:=
 by
 obtain⟨⟨a1,a2,a3,a4,a5,a6,a7,a8,a9⟩,b1,b2,b3,b4,b5,b6,b7,b8,b9⟩:=Ak n l1 l2 h1 h2
 exact⟨a1,a2,a3,a4,a5,a6,a7,a8,a9,b1,b2,b3,b4,b5,b6,b7,b8,b9⟩
theorem AS {j k:Bool}{a b:Expr}{ta:TA}{p pos:IH}{elts:List Expr}{x1}{tpos:IH}(hg:Gl X "zip")(hm:X.mg "zip"=none)(ha:PA X [a,b] ta)(hs:IJ [a,b] X.env=[(false,IG a X.env),(false,IG b X.env)]:=by rfl)(hs2:IJ [b] X.env=[(false,IG b X.env)]:=by rfl):PI X (.Tuple elts x1 tpos) (.Call (.Name "zip" p) [a,b] [] pos) (iZip j k X.K ta):=by
 intro pins s σ H R I h
 refine Call_ (d6 I hg hm boot_zip (PyProof.Rows.callWith_type1 (thn (ha pos pins s σ H _ I h) fun us s1 qz=>?_) (by rw[hs,hs2]) (by rw[hs2];rfl)))
 obtain⟨vs,H1,I1,r1,q1⟩:=qz
 obtain⟨a',b',e,⟨xs,hq1⟩,⟨ys,hq2⟩,q⟩:=q1
 subst e
 obtain⟨u,v,rfl,ru,rv⟩:=r1.two
 cases ru
 cases rv
 obtain⟨is1,rv1,t1⟩:=I1.seqK hq1
 obtain⟨is2,rv2,t2⟩:=I1.seqK hq2
 have lt: ∀ {T:String}{l:Ig}{u:Array H0},SeqAt s1.heap T l u->l<s1.heap.objs.size:=fun{T l u} h=>by
  rcases h with⟨_,o,e,_⟩|⟨_,o,e,_⟩<;>exact Eu e
 refine mt t1 t2 fun h' Z hsz hk=>wpAny_pyIter_zip Z.z ?_
 have I2:Inv X pins σ H1 {s1 with heap:=h'}:=I1.kept (t':=s1.toks) hk
 refine⟨s1.heap.objs.size+4,[s1.heap.objs.size+4,s1.heap.objs.size+2,s1.heap.objs.size+3,s1.heap.objs.size,s1.heap.objs.size+1],_,_,H1,rfl,I2,ve (j:=j) (k:=k) (u7 (lt t1) (lt t2)),⟨Z.z,Z.ti,Z.to,Z.u1,Z.u2⟩,fun c hc=>?_,q⟩
 have hc':s1.heap.objs.size<=c:=by
  simp only[En,EF,or_false] at hc
  rcases hc with rfl|rfl|rfl|rfl|rfl
  ·exact Fx _ _
  ·exact Fx _ _
  ·exact Fx _ _
  ·exact Em _
  ·exact Fx _ _
 exact I1.fpOk hc' (I1.hok.fresh hc')
end
end
section
open Builtin
section
variable {prog:Ib}{w:Ic}{A:Ik}{E:H0->Ii->Prop}
theorem pJ (items:Array H0)(ns:List Int)(k:Int)(t:Tok)(j:Nat)(hv: ∀ (r:Nat) (x:Int),ns[r]?=some x-> ∃u,items[r]?=some (.int x u))(hj:ns[j]?=some k)(hn: ∀r,r<j->ns[r]?≠some k){Q:(Option Fin×Unit)->Ii->Prop}(s:Ii)(q:Q (some (.done (.ret (.int j s.toks))),()) {s with toks:=s.toks+1}):
  ∀ (m i:Nat),i+m=ns.length->i<=j->Im (Io prog w) A (forIn (G9 i m) ((none,()):Option Fin×Unit) (fun (i:Nat) _=>
   match items[i]? with
   |some y=>do
    let b<-eqBool y (H0.int k t)
    if b=true then do
      let r<-retInt ((i:Nat):Int)
      pure (ForInStep.done (some r,()))
     else pure (ForInStep.yield (none,()))
   |x=>pure (ForInStep.yield (none,())))) Q E s
 |0,i,h1,h2=>by
  have:=(Ev.mp hj).1
  omega
 |m+1,i,h1,h2=>by
  have hi:i<ns.length:=by omega
  obtain⟨x,hx⟩: ∃x,ns[i]?=some x:=⟨_,EL hi⟩
  obtain⟨u,hu⟩:=hv i x hx
  rw[List.range'_succ,E4]
  refine Ip ?_
  simp only[hu]
  refine Ip (wpAny_eqBool_int ?_)
  by_cases e:i=j
  ·subst e
   have:x=k:=Option.some.inj (hx.symm.trans hj)
   subst this
   rw[if_pos (by simp)]
   wp_walk
   exact q
  ·have: ¬x=k:=fun z=>hn i (by omega) (by rw[hx,z])
   rw[if_neg (by simpa using this)]
   exact Iu (pJ items ns k t j hv hj hn s q m (i+1) (by omega) (by omega))
end
theorem tV (l:Ig)(items:Array H0)(n:Nat)(dd:Option Ig)(sl:Array (Option H0))(ns:List Int)(k:Int)(t:Tok)(j:Nat)(hz:items.size=ns.length)(hv: ∀ (r:Nat) (x:Int),ns[r]?=some x-> ∃u,items[r]?=some (.int x u))(hj:ns[j]?=some k)(hn: ∀r,r<j->ns[r]?≠some k):
  Meets (H9.«tuple.index» ⟨[.ref l,.int k t],[]⟩) (fun _ R s=>s.heap.get? l=some {cls:=.type "tuple",dict:=dd,data:=.seq items n,slots:=sl}/\R (.ok (.ret (.int j s.toks))) {s with toks:=s.toks+1}):=
 .of_wp fun prog w A R s h=>by
  obtain⟨hp,g,d,tk,os⟩:=s;obtain⟨hl,h⟩:=h
  have f1:=AutoSeq1.idx_int;have f2:=AutoSeq1.sub_tuple_tuple
  unfold H9.«tuple.index»
  simp only[Std.Legacy.Range.forIn_eq_forIn_range']
  wp_walk using AutoSeq1.wpAny_loadPart' hl
  have e:([:Min.min items.size items.size]:Std.Legacy.Range).size=ns.length:=by
   show (min items.size items.size - 0+1 - 1) / 1=_
   rw[hz];simp
  rw[e]
  refine pJ items ns k t j hv hj hn _ ?_ ns.length 0 (by omega) (EI _)
  wp_walk
  exact⟨_,rfl,h⟩
section
variable {X:Cx}
def rTIdx (K:PySem.W.Frag):V->List V->Hp->VK->Prop:=fun x vs H Q=> ∃ (a:Ig) (ns:List Int) (k:Int) (j:Nat),x=.ref a/\vs=[.int k]/\SqT K H a (ns.map V.int)/\ns[j]?=some k/\(∀r,r<j->ns[r]?≠some k)/\Q (.int j) H
theorem ut:MtM X "tuple.index" (rTIdx X.K):=by
 intro pins s σ H x vs v us Q I rx rv h
 obtain⟨a,ns,k,j,rfl,rfl,hq,hj,hn,q⟩:=h
 cases rx
 obtain⟨u,rfl,ru⟩:=rv.one
 obtain⟨t,rfl⟩:=ru
 obtain⟨its,r,⟨⟨c,dd,dt,sl⟩,e1,e2,n,e3⟩,_⟩:=I.tuple hq
 replace e2:c=.type "tuple":=e2
 replace e3:dt=.seq its.toArray n:=e3
 subst e2 e3
 have hl:=r.length
 rw[El] at hl
 refine Jo F.slot_tuple_index ⟨_,e1,rfl⟩ F.entry_tuple_index (F.args_tuple_index_2 _ _) (tV a its.toArray n dd sl ns k t j (by rw[Ez];exact hl.symm) (fun r' x hx=>?_) hj hn) ⟨e1,.int j,H,I.tok _,⟨_,rfl⟩,q⟩
 obtain⟨w,hw,rw'⟩:=r.get (show (ns.map V.int)[r']?=some (.int x) by rw[ED,hx];rfl)
 obtain⟨u,rfl⟩:=rw'
 exact⟨u,by simpa using hw⟩
end
end
section
section
variable {X:Cx}
noncomputable def iI (K:PySem.W.Frag):Bool:=K.all fun p=>match p.2.cls with
 |.type n=>!(n== "tuple")||p.2.dict.isNone
 |_=>true
theorem oy {K:PySem.W.Frag}{a:Ig}{o:Ij}(h:iI K=true)(e:K.lookup a=some o)(c:o.cls=.type "tuple"):o.dict=none:=by
 have m: ∃b,(b,o)∈K:=by
  clear h c
  revert e
  show Fn a K=some o->_
  induction K with
  |nil=>intro e;cases e
  |cons p r ih=>
   intro e
   obtain⟨b,u⟩:=p
   rw[Fi] at e
   cases hb:(a==b) with
   |true=>rw[hb] at e;cases e;exact⟨b,Eo⟩
   |false=>rw[hb] at e;obtain⟨c,hc⟩:=ih e;exact⟨c,EA _ hc⟩
 obtain⟨b,hb⟩:=m
 have q:=Fk.mp h (b,o) hb
 simp only[c] at q
 cases hd:o.dict with
 |none=>rfl
 |some x=>rw[hd] at q;simp at q
def ownT (K:PySem.W.Frag)(x:V)(H:Hp):Prop:= ∃a xs,x=.ref a/\SqT K H a xs
def tTM (K:PySem.W.Frag)(r:V->List V->Hp->VK->Prop)(to:TE)(t:TA):TE:=fun σ H Q=>to σ H fun x H1=>ownT K x H1/\t σ H1 fun xs H2=>r x xs H2 Q
variable {o e:Expr}{es:List Expr}{to:TE}{t:TA}{name:Str}{apos cpos:IH}{id:String}{r:V->List V->Hp->VK->Prop}
theorem C3 (hK:iI X.K=true)(pa:PlainAttrs "tuple")(slot:Slot "tuple" name id)(hty:typeOf (.builtin id)=pure (.type "method_descriptor"))(hm:MtR X id r)(ho:PE X o to)(ha:PA X (e::es) t)
  (hbase:Jb o name X.env (IG o X.env)=IG o X.env:=by rfl)
  (hfew:((II cpos (IJ (e::es) X.env)).all (fun x=>!x.1) && (Jc cpos (Jd [] X.env)).all (fun x=>x.1.isSome) && decide ((e::es).length+([]:List Jh).length+(if ([]:List Jh).isEmpty then 0 else 1)<30))=true:=by rfl)
  (hline:(apos.endLine==cpos.line)=true:=by rfl)(hs:IJ (e::es) X.env=(false,IG e X.env)::IJ es X.env:=by rfl)(hplain:(II cpos (IJ es X.env)).any (·.1)=false:=by rfl):
  PE X (.Call (.Attribute o name apos) (e::es) [] cpos) (tTM X.K r to t):=by
 intro pins s σ H Q I h
 refine wpAny_Call_method_late hbase hfew hline rfl (thn (ho pins s σ H _ I h) fun v s1 qz=>?_)
 obtain⟨x,H1,I1,r1,ty,q1⟩:=qz
 obtain⟨a,xs,rfl,ea⟩:=ty
 cases r1
 have hh:(∃ob,s1.heap.get? a=some ob/\ob.cls=.type "tuple")/\ ∃ob,s1.heap.get? a=some ob/\ob.dict=none:=by
  rcases ea with ea|⟨o,its,n,hk,hc,_⟩
  ·obtain⟨_,its,_,⟨ob,g1,g2,_⟩,o2,g3,g4⟩:=ea.ok I1.hok
   exact⟨⟨ob,g1,g2⟩,o2,g3,g4⟩
  ·exact⟨⟨o,I1.kIn a o hk,hc⟩,o,I1.kIn a o hk,oy hK hk hc⟩
 obtain⟨⟨ob,g1,g2⟩,o2,g3,g4⟩:=hh
 refine⟨"tuple",id,pa,slot,hty,⟨ob,g1,g2⟩,fun b z=>by cases z;exact⟨o2,g3,g4⟩,?_⟩
 have hA:=ha cpos pins s1 σ H1 _ I1 q1
 rw[hs] at hA ⊢
 refine Calls.callWith_builtin (by show (false||(II cpos (IJ es X.env)).any (·.1))=false;rw[hplain]<;>rfl) (Calls.evalArgs_plain ?_)
 exact thn hA fun us s2 ⟨vs,H2,I2,r2,q2⟩=>hm pins s2 σ H2 (.ref a) vs _ us Q I2 rfl r2 q2
end
end
section
section
variable {X:Cx}
end
end
section
inductive W where
 |ty (n:String)|exc (c:Str)|cls (c:Str)|non|bl (b:Bool)|int (i:Int)|str (x:Str)
 |tup (l:List W)|tl (l:List W)|cl (l:List W)|dv (ks:List Key)(ws:List W)|dn (b:Bool)(ks:List PKy)(ws:List W)|kt (ks:List Key)|loc (k:Nat)
inductive Ob where
 |lst (l:List W)|dic (ks:List Key)(ws:List W)|dit (ks:List (List Key))(ws:List W)|din (b:Bool)(ks:List PKy)(ws:List W)|ins (c:Str)(ns:List Str)(ws:List W)|gone
structure Wo where
 mu:Nat->Ig
 h:List Ob
 H:Hp
noncomputable def Lv (o:Wo)(a:Ig):Prop:= ∃k b,o.h[k]?=some b/\b≠.gone/\o.mu k=a
def FrL (K:PySem.W.Frag)(a:Ig)(xs:List V):Prop:= ∃ (o:Ij) (its:Array H0) (n:Nat),K.lookup a=some o/\o.cls=.type "list"/\o.dict=none/\o.data=.seq its n/\its.size<=sizeLine/\Vals xs its.toList
def KeyN (K:PySem.W.Frag)(H:Hp)(b:Bool)(c:Ig)(k:PKy):Prop:= ∃d,SqT K H c (match b with
 |false=>[.int k.1,.ref d]
 |true=>[.ref d,.int k.1])/\SqT K H d (k.2.map V.int)
mutual
def Rv (K:PySem.W.Frag)(o:Wo):W->V->Prop
 |.ty n,v=>v=.ty n
 |.exc c,v=> ∃a C,v=.ref a/\HZ K IC c=some (some (.ref C))/\o.H a=some (excO a (.ref C))
 |.cls c,v=> ∃C,v=.ref C/\HZ K IC c=some (some (.ref C))
 |.non,v=>v=.non
 |.bl b,v=>v=.bl b
 |.int i,v=>v=.int i
 |.str x,v=>v=.str x
 |.tup l,v=> ∃a vs,v=.ref a/\SqT K o.H a vs/\Rvs K o l vs
 |.tl l,v=> ∃a vs,v=.ref a/\o.H a=some (.lst vs)/\ ¬Lv o a/\Rvs K o l vs
 |.cl l,v=> ∃a vs,v=.ref a/\((Rd o.H a (.lst vs)/\ ¬Lv o a)\/FrL K a vs)/\Rvs K o l vs
 |.dv ks ws,v=> ∃a kvs,v=.ref a/\Rd o.H a (.dK kvs)/\ ¬Lv o a/\kvs.map (·.1)=ks/\Rvs K o ws (kvs.map (·.2))
 |.dn b ks ws,v=> ∃a,∃xs:List (PKy×Ig×V)×Nat,v=.ref a/\o.H a=some (.dN b xs.1 xs.2)/\ ¬Lv o a/\xs.1.map (·.1)=ks/\(∀x∈xs.1,KeyN K o.H b x.2.1 x.1)/\Rvs K o ws (xs.1.map (·.2.2))
 |.kt ks,v=> ∃a,v=.ref a/\o.H a=some (.tup (ks.map kV))
 |.loc k,v=>k<o.h.length/\v=.ref (o.mu k)
def Rvs (K:PySem.W.Frag)(o:Wo):List W->List V->Prop
 |[],vs=>vs=[]
 |w::l,vs=> ∃v r,vs=v::r/\Rv K o w v/\Rvs K o l r
end
def Ro (K:PySem.W.Frag)(o:Wo)(a:Ig):Ob->Prop
 |.lst l=> ∃vs,o.H a=some (.lst vs)/\Rvs K o l vs
 |.dic ks ws=> ∃kvs,o.H a=some (.dK kvs)/\kvs.map (·.1)=ks/\Rvs K o ws (kvs.map (·.2))
 |.dit ks ws=> ∃kvs,o.H a=some (.dT kvs)/\kvs.map (·.1)=ks/\Rvs K o ws (kvs.map (·.2))
 |.din b ks ws=> ∃xs:List (PKy×Ig×V)×Nat,o.H a=some (.dN b xs.1 xs.2)/\xs.1.map (·.1)=ks/\(∀x∈xs.1,KeyN K o.H b x.2.1 x.1)/\Rvs K o ws (xs.1.map (·.2.2))
 |.ins c ns ws=> ∃C dx fs,HZ K IC c=some (some (.ref C))/\o.H a=some (.ins C dx fs)/\fs.map (·.1)=ns/\Rvs K o ws (fs.map (·.2))
 |.gone=>True
structure Rel (K:PySem.W.Frag)(o:Wo):Prop where
 ob: ∀k b,o.h[k]?=some b->Ro K o (o.mu k) b
 inj: ∀j k b c,o.h[j]?=some b->o.h[k]?=some c->b≠.gone->c≠.gone->o.mu j=o.mu k->j=k
structure Ex (o p:Wo):Prop where
 le:o.h.length<=p.h.length
 mu: ∀k,k<o.h.length->p.mu k=o.mu k
 fr: ∀a u,o.H a=some u-> ¬Lv o a->p.H a=some u/\ ¬Lv p a
theorem Ex.refl (o:Wo):Ex o o:=⟨Em _,fun _ _=>rfl,fun _ _ h n=>⟨h,n⟩⟩
theorem Ex.trans {o p q:Wo}(a:Ex o p)(b:Ex p q):Ex o q:=⟨EG a.le b.le,fun k h=>(b.mu k (EM h a.le)).trans (a.mu k h),fun c u h n=>let ⟨h1,n1⟩:=a.fr c u h n;b.fr c u h1 n1⟩
section
variable {K:PySem.W.Frag}{o p:Wo}
theorem Lv.kind (R:Rel K o){a:Ig}(h:Lv o a):(∃vs,o.H a=some (.lst vs))\/(∃kvs,o.H a=some (.dK kvs))\/(∃C dx fs,o.H a=some (.ins C dx fs))\/(∃kvs,o.H a=some (.dT kvs))\/ ∃b,∃xs:List (PKy×Ig×V)×Nat,o.H a=some (.dN b xs.1 xs.2):=by
 obtain⟨k,b,hk,hb,rfl⟩:=h
 have q:=R.ob k b hk
 cases b with
 |lst l=>exact .inl (let ⟨vs,e,_⟩:=q;⟨vs,e⟩)
 |dic ks ws=>exact .inr (.inl (let ⟨vs,e,_⟩:=q;⟨vs,e⟩))
 |ins c ns ws=>exact .inr (.inr (.inl (let ⟨C,dx,fs,_,e,_⟩:=q;⟨C,dx,fs,e⟩)))
 |dit ks ws=>exact .inr (.inr (.inr (.inl (let ⟨vs,e,_⟩:=q;⟨vs,e⟩))))
 |din b ks ws=>exact .inr (.inr (.inr (.inr (let ⟨vs,e,_⟩:=q;⟨b,vs,e⟩))))
 |gone=>exact absurd rfl hb
theorem Ex.keep (X:Ex o p)(R:Rel K o){a:Ig}{u:HO}(h:o.H a=some u)(n1: ∀vs,u≠.lst vs)(n2: ∀kvs,u≠.dK kvs)(n3: ∀C dx fs,u≠.ins C dx fs)(n4: ∀kvs,u≠.dT kvs)(n5: ∀b (xs:List (PKy×Ig×V)×Nat),u≠.dN b xs.1 xs.2):p.H a=some u:=by
 refine (X.fr a u h fun l=>?_).1
 rcases l.kind R with⟨vs,e⟩|⟨vs,e⟩|⟨C,dx,fs,e⟩|⟨vs,e⟩|⟨b,vs,e⟩
 ·rw[h] at e;exact n1 vs (Option.some.inj e)
 ·rw[h] at e;exact n2 vs (Option.some.inj e)
 ·rw[h] at e;exact n3 C dx fs (Option.some.inj e)
 ·rw[h] at e;exact n4 vs (Option.some.inj e)
 ·rw[h] at e;exact n5 b vs (Option.some.inj e)
theorem Ex.rdT (X:Ex o p)(R:Rel K o){a:Ig}{vs:List V}(h:SqT K o.H a vs):SqT K p.H a vs:=by
 rcases h with (h|⟨ob,h⟩)|h
 ·exact .inl (.inl (X.keep R h (fun _ z=>nomatch z) (fun _ z=>nomatch z) (fun _ _ _ z=>nomatch z) (fun _ z=>nomatch z) fun _ _ z=>nomatch z))
 ·exact .inl (.inr ⟨ob,X.keep R h (fun _ z=>nomatch z) (fun _ z=>nomatch z) (fun _ _ _ z=>nomatch z) (fun _ z=>nomatch z) fun _ _ z=>nomatch z⟩)
 ·exact .inr h
theorem KeyN.mono (X:Ex o p)(R:Rel K o){b:Bool}{c:Ig}{k:PKy}(h:KeyN K o.H b c k):KeyN K p.H b c k:=by
 obtain⟨d,h1,h2⟩:=h
 exact⟨d,X.rdT R h1,X.rdT R h2⟩
theorem Ex.rd (X:Ex o p){a:Ig}{u:HO}(h:Rd o.H a u)(n:¬Lv o a):Rd p.H a u/\ ¬Lv p a:=by
 rcases h with h|⟨ob,h⟩
 ·exact⟨.inl (X.fr a _ h n).1,(X.fr a _ h n).2⟩
 ·exact⟨.inr ⟨ob,(X.fr a _ h n).1⟩,(X.fr a _ h n).2⟩
mutual
theorem Rv.mono (R:Rel K o)(X:Ex o p): ∀ (w:W) (v:V),Rv K o w v->Rv K p w v
 |.ty n,v,h=>h
 |.exc c,v,h=>by
  unfold Rv at h ⊢
  obtain⟨a,C,e,h1,h2⟩:=h
  exact⟨a,C,e,h1,X.keep R h2 (fun _ z=>nomatch z) (fun _ z=>nomatch z) (fun _ _ _ z=>nomatch z) (fun _ z=>nomatch z) fun _ _ z=>nomatch z⟩
 |.cls c,v,h=>by
  unfold Rv at h ⊢
  exact h
 |.non,v,h=>h
 |.bl b,v,h=>h
 |.int i,v,h=>h
 |.str x,v,h=>h
 |.tup l,v,h=>by
  unfold Rv at h ⊢
  obtain⟨a,vs,e,h1,h2⟩:=h
  exact⟨a,vs,e,X.rdT R h1,Rvs.mono R X l vs h2⟩
 |.tl l,v,h=>by
  unfold Rv at h ⊢
  obtain⟨a,vs,e,h1,n,h2⟩:=h
  exact⟨a,vs,e,(X.fr a _ h1 n).1,(X.fr a _ h1 n).2,Rvs.mono R X l vs h2⟩
 |.cl l,v,h=>by
  unfold Rv at h ⊢
  obtain⟨a,vs,e,h1,h2⟩:=h
  refine⟨a,vs,e,?_,Rvs.mono R X l vs h2⟩
  rcases h1 with⟨h1,n⟩|h1
  ·exact .inl (X.rd h1 n)
  ·exact .inr h1
 |.dv ks ws,v,h=>by
  unfold Rv at h ⊢
  obtain⟨a,vs,e,h1,n,h2,h3⟩:=h
  exact⟨a,vs,e,(X.rd h1 n).1,(X.rd h1 n).2,h2,Rvs.mono R X ws _ h3⟩
 |.dn b ks ws,v,h=>by
  unfold Rv at h ⊢
  obtain⟨a,xs,e,h1,n,h2,hn,h3⟩:=h
  exact⟨a,xs,e,(X.fr a _ h1 n).1,(X.fr a _ h1 n).2,h2,fun x hx=>(hn x hx).mono X R,Rvs.mono R X ws _ h3⟩
 |.kt ks,v,h=>by
  unfold Rv at h ⊢
  obtain⟨a,e,h⟩:=h
  exact⟨a,e,X.keep R h (fun _ z=>nomatch z) (fun _ z=>nomatch z) (fun _ _ _ z=>nomatch z) (fun _ z=>nomatch z) fun _ _ z=>nomatch z⟩
 |.loc k,v,h=>by
  unfold Rv at h ⊢
  exact⟨EM h.1 X.le,by rw[X.mu k h.1];exact h.2⟩
theorem Rvs.mono (R:Rel K o)(X:Ex o p): ∀ (l:List W) (vs:List V),Rvs K o l vs->Rvs K p l vs
 |[],vs,h=>h
 |w::l,vs,h=>by
  unfold Rvs at h ⊢
  obtain⟨v,r,e,h1,h2⟩:=h
  exact⟨v,r,e,Rv.mono R X w v h1,Rvs.mono R X l r h2⟩
end
theorem Rel.keep (R:Rel K o)(X:Ex o p)(e1:p.h=o.h)(e2:p.mu=o.mu)(e3: ∀k b,o.h[k]?=some b->b≠.gone->p.H (o.mu k)=o.H (o.mu k)):Rel K p:=by
 refine⟨fun k b hk=>?_,fun j k b c h1 h2=>?_⟩
 ·rw[e1] at hk
  rw[e2]
  have q:=R.ob k b hk
  cases b with
  |lst l=>obtain⟨vs,h1,h2⟩:=q;exact⟨vs,by rw[e3 k _ hk (by simp)];exact h1,h2.mono R X⟩
  |dic ks ws=>obtain⟨vs,h1,h2,h3⟩:=q;exact⟨vs,by rw[e3 k _ hk (by simp)];exact h1,h2,h3.mono R X⟩
  |dit ks ws=>obtain⟨vs,h1,h2,h3⟩:=q;exact⟨vs,by rw[e3 k _ hk (by simp)];exact h1,h2,h3.mono R X⟩
  |din b ks ws=>obtain⟨vs,h1,h2,hn,h3⟩:=q;exact⟨vs,by rw[e3 k _ hk (by simp)];exact h1,h2,fun x hx=>(hn x hx).mono X R,h3.mono R X⟩
  |ins c ns ws=>obtain⟨C,dx,fs,h0,h1,h2,h3⟩:=q;exact⟨C,dx,fs,h0,by rw[e3 k _ hk (by simp)];exact h1,h2,h3.mono R X⟩
  |gone=>trivial
 ·rw[e1] at h1 h2
  rw[e2]
  exact R.inj j k b c h1 h2
theorem Lv.there (R:Rel K o){a:Ig}(h:Lv o a):o.H a≠none:=by
 rcases h.kind R with⟨vs,e⟩|⟨vs,e⟩|⟨C,dx,fs,e⟩|⟨vs,e⟩|⟨b,vs,e⟩<;>(rw[e];simp)
theorem Ex.new {q:Ig}{u:HO}(h:o.H q=none):Ex o ⟨o.mu,o.h,upd o.H q u⟩:=by
 refine⟨Em _,fun _ _=>rfl,fun a w e n=>⟨?_,n⟩⟩
 show upd o.H q u a=some w
 rw[af (ba e h)];exact e
theorem Rel.new (R:Rel K o){q:Ig}{u:HO}(h:o.H q=none):Rel K ⟨o.mu,o.h,upd o.H q u⟩:=by
 refine R.keep (Ex.new h) rfl rfl fun k b hk hb=>?_
 have l:Lv o (o.mu k):=⟨k,b,hk,hb,rfl⟩
 show upd o.H q u (o.mu k)=_
 rw[af fun z=>l.there R (by rw[z];exact h)]
theorem Ex.same {H':Hp}(g:Same o.H H'):Ex o ⟨o.mu,o.h,H'⟩:=⟨Em _,fun _ _=>rfl,fun a w e n=>⟨g a w e,n⟩⟩
theorem Rel.same (R:Rel K o){H':Hp}(g:Same o.H H'):Rel K ⟨o.mu,o.h,H'⟩:=by
 refine R.keep (Ex.same g) rfl rfl fun k b hk hb=>?_
 cases e:o.H (o.mu k) with
 |none=>exact absurd e (Lv.there R ⟨k,b,hk,hb,rfl⟩)
 |some u=>exact g _ _ e
def Wo.add (o:Wo)(q:Ig)(b:Ob)(u:HO):Wo:=⟨fun k=>if k=o.h.length then q else o.mu k,o.h++[b],upd o.H q u⟩
theorem Ex.add {q:Ig}{b:Ob}{u:HO}(h:o.H q=none):Ex o (o.add q b u):=by
 refine⟨by show _<=(o.h++[b]).length;simp,fun k hk=>?_,fun a w e n=>⟨?_,fun l=>?_⟩⟩
 ·show (if k=o.h.length then q else o.mu k)=_
  rw[if_neg (by omega)]
 ·show upd o.H q u a=some w
  rw[af (ba e h)];exact e
 ·obtain⟨k,c,hk,hc,ha⟩:=l
  have ha:(if k=o.h.length then q else o.mu k)=a:=ha
  have hk:(o.h++[b])[k]?=some c:=hk
  by_cases z:k=o.h.length
  ·rw[if_pos z] at ha
   exact absurd ha.symm (ba e h)
  ·rw[if_neg z] at ha
   have hl:k<o.h.length:=by
    have:=(Ev.mp hk).1
    rw[Ep,ER] at this
    omega
   rw[ET hl] at hk
   exact n ⟨k,c,hk,hc,ha⟩
theorem Rel.add (R:Rel K o){q:Ig}{b:Ob}{u:HO}(h:o.H q=none)(hb:Ro K (o.add q b u) q b):Rel K (o.add q b u):=by
 have X:Ex o (o.add q b u):=Ex.add h
 have old: ∀ {k:Nat}{c:Ob},(o.add q b u).h[k]?=some c->k≠o.h.length->o.h[k]?=some c/\(o.add q b u).mu k=o.mu k:=fun{k c} hk z=>by
  have hk:(o.h++[b])[k]?=some c:=hk
  have hl:k<o.h.length:=by
   have:=(Ev.mp hk).1
   rw[Ep,ER] at this
   omega
  rw[ET hl] at hk
  exact⟨hk,X.mu k hl⟩
 have new: ∀ {k:Nat}{c:Ob},(o.add q b u).h[k]?=some c->k=o.h.length->c=b/\(o.add q b u).mu k=q:=fun{k c} hk z=>by
  subst z
  have hk:(o.h++[b])[o.h.length]?=some c:=hk
  rw[Fp (Em _),Ha] at hk
  exact⟨(Option.some.inj hk).symm,if_pos rfl⟩
 have ne: ∀ {k:Nat}{c:Ob},o.h[k]?=some c->c≠.gone->o.mu k≠q:=fun{k c} hk hc z=>Lv.there R ⟨k,c,hk,hc,rfl⟩ (by rw[z];exact h)
 refine⟨fun k c hk=>?_,fun j k c d h1 h2 n1 n2 e=>?_⟩
 ·by_cases z:k=o.h.length
  ·obtain⟨rfl,e⟩:=new hk z
   rw[e];exact hb
  ·obtain⟨hk,e⟩:=old hk z
   rw[e]
   have r:=R.ob k c hk
   have st: ∀ {w:HO},c≠.gone->o.H (o.mu k)=some w->(o.add q b u).H (o.mu k)=some w:=fun{w} hc e=>by
    show upd o.H q u (o.mu k)=some w
    rw[af (ne hk hc)];exact e
   cases c with
   |lst l=>obtain⟨vs,h1,h2⟩:=r;exact⟨vs,st (by simp) h1,h2.mono R X⟩
   |dic ks ws=>obtain⟨vs,h1,h2,h3⟩:=r;exact⟨vs,st (by simp) h1,h2,h3.mono R X⟩
   |dit ks ws=>obtain⟨vs,h1,h2,h3⟩:=r;exact⟨vs,st (by simp) h1,h2,h3.mono R X⟩
   |din b ks ws=>obtain⟨vs,h1,h2,hn,h3⟩:=r;exact⟨vs,st (by simp) h1,h2,fun x hx=>(hn x hx).mono X R,h3.mono R X⟩
   |ins c ns ws=>obtain⟨C,dx,fs,h0,h1,h2,h3⟩:=r;exact⟨C,dx,fs,h0,st (by simp) h1,h2,h3.mono R X⟩
   |gone=>trivial
 ·by_cases z1:j=o.h.length
  ·by_cases z2:k=o.h.length
   ·omega
   ·obtain⟨_,e1⟩:=new h1 z1
    obtain⟨hk,e2⟩:=old h2 z2
    rw[e1,e2] at e
    exact absurd e.symm (ne hk n2)
  ·obtain⟨hj,e1⟩:=old h1 z1
   by_cases z2:k=o.h.length
   ·obtain⟨_,e2⟩:=new h2 z2
    rw[e1,e2] at e
    exact absurd e (ne hj n1)
   ·obtain⟨hk,e2⟩:=old h2 z2
    rw[e1,e2] at e
    exact R.inj j k c d hj hk n1 n2 e
theorem Rel.addL (R:Rel K o){q:Ig}{l:List W}{vs:List V}(h:o.H q=none)(hl:Rvs K o l vs):Rel K (o.add q (.lst l) (.lst vs)):=R.add h ⟨vs,aq,hl.mono R (Ex.add h)⟩
theorem Rel.addT (R:Rel K o){q:Ig}{ks:List (List Key)}{ws:List W}{kvs:List (List Key×V)}(h:o.H q=none)(hk:kvs.map (·.1)=ks)(hl:Rvs K o ws (kvs.map (·.2))):Rel K (o.add q (.dit ks ws) (.dT kvs)):=R.add h ⟨kvs,aq,hk,hl.mono R (Ex.add h)⟩
def Wo.put (o:Wo)(k:Nat)(b:Ob)(u:HO):Wo:=⟨o.mu,o.h.set k b,upd o.H (o.mu k) u⟩
theorem Lv.put {k:Nat}{b c:Ob}{u:HO}{a:Ig}(hk:o.h[k]?=some c)(hc:c≠.gone)(h:Lv (o.put k b u) a):Lv o a:=by
 obtain⟨j,d,hj,hd,rfl⟩:=h
 have hj:(o.h.set k b)[j]?=some d:=hj
 by_cases z:j=k
 ·subst z;exact⟨j,c,hk,hc,rfl⟩
 ·rw[Ew (Ne.symm z)] at hj
  exact⟨j,d,hj,hd,rfl⟩
theorem Ex.put {k:Nat}{b c:Ob}{u:HO}(hk:o.h[k]?=some c)(hc:c≠.gone):Ex o (o.put k b u):=by
 refine⟨by show _<=(o.h.set k b).length;simp,fun _ _=>rfl,fun a w e n=>⟨?_,fun l=>n (l.put hk hc)⟩⟩
 show upd o.H (o.mu k) u a=some w
 rw[af fun z=>n ⟨k,c,hk,hc,z.symm⟩];exact e
theorem Rel.put (R:Rel K o){k:Nat}{b c:Ob}{u:HO}(hk:o.h[k]?=some c)(hc:c≠.gone)(hb:Ro K (o.put k b u) (o.mu k) b):Rel K (o.put k b u):=by
 have X:Ex o (o.put k b u):=Ex.put hk hc
 have old: ∀ {j:Nat}{d:Ob},(o.put k b u).h[j]?=some d->j≠k->o.h[j]?=some d:=fun{j d} hj z=>by
  have hj:(o.h.set k b)[j]?=some d:=hj
  rw[Ew (Ne.symm z)] at hj
  exact hj
 refine⟨fun j d hj=>?_,fun i j d e h1 h2 n1 n2 q=>?_⟩
 ·by_cases z:j=k
  ·subst z
   have hl:=(Ev.mp hk).1
   have hj:(o.h.set j b)[j]?=some d:=hj
   rw[FC hl] at hj
   cases hj
   exact hb
  ·have hj:=old hj z
   have r:=R.ob j d hj
   have st: ∀ {w:HO},d≠.gone->o.H (o.mu j)=some w->(o.put k b u).H (o.mu j)=some w:=fun{w} hd e=>by
    show upd o.H (o.mu k) u (o.mu j)=some w
    rw[af fun q=>z (R.inj j k d c hj hk hd hc q)];exact e
   cases d with
   |lst l=>obtain⟨vs,h1,h2⟩:=r;exact⟨vs,st (by simp) h1,h2.mono R X⟩
   |dic ks ws=>obtain⟨vs,h1,h2,h3⟩:=r;exact⟨vs,st (by simp) h1,h2,h3.mono R X⟩
   |dit ks ws=>obtain⟨vs,h1,h2,h3⟩:=r;exact⟨vs,st (by simp) h1,h2,h3.mono R X⟩
   |din b ks ws=>obtain⟨vs,h1,h2,hn,h3⟩:=r;exact⟨vs,st (by simp) h1,h2,fun x hx=>(hn x hx).mono X R,h3.mono R X⟩
   |ins c ns ws=>obtain⟨C,dx,fs,h0,h1,h2,h3⟩:=r;exact⟨C,dx,fs,h0,st (by simp) h1,h2,h3.mono R X⟩
   |gone=>trivial
 ·have ex: ∀ {j:Nat}{d:Ob},(o.put k b u).h[j]?=some d->d≠.gone-> ∃d',o.h[j]?=some d'/\d'≠.gone:=fun{j d} hj n=>by
   by_cases z:j=k
   ·subst z;exact⟨c,hk,hc⟩
   ·exact⟨d,old hj z,n⟩
  obtain⟨d',h1',n1'⟩:=ex h1 n1
  obtain⟨e',h2',n2'⟩:=ex h2 n2
  exact R.inj i j d' e' h1' h2' n1' n2' q
theorem Rel.putL (R:Rel K o){k:Nat}{c:Ob}{l:List W}{vs:List V}(hk:o.h[k]?=some c)(hc:c≠.gone)(hl:Rvs K o l vs):Rel K (o.put k (.lst l) (.lst vs)):=R.put hk hc ⟨vs,aq,hl.mono R (Ex.put hk hc)⟩
theorem Rel.putD (R:Rel K o){k:Nat}{c:Ob}{ks:List Key}{ws:List W}{kvs:List (Key×V)}(hk:o.h[k]?=some c)(hc:c≠.gone)(h1:kvs.map (·.1)=ks)(hl:Rvs K o ws (kvs.map (·.2))):Rel K (o.put k (.dic ks ws) (.dK kvs)):=R.put hk hc ⟨kvs,aq,h1,hl.mono R (Ex.put hk hc)⟩
theorem Rel.putT (R:Rel K o){k:Nat}{c:Ob}{ks:List (List Key)}{ws:List W}{kvs:List (List Key×V)}(hk:o.h[k]?=some c)(hc:c≠.gone)(h1:kvs.map (·.1)=ks)(hl:Rvs K o ws (kvs.map (·.2))):Rel K (o.put k (.dit ks ws) (.dT kvs)):=R.put hk hc ⟨kvs,aq,h1,hl.mono R (Ex.put hk hc)⟩
theorem Rel.putN (R:Rel K o){k:Nat}{c:Ob}{b:Bool}{ks:List PKy}{ws:List W}{xs:List (PKy×Ig×V)}{ep:Nat}(hk:o.h[k]?=some c)(hc:c≠.gone)(h1:xs.map (·.1)=ks)(hn: ∀x∈xs,KeyN K o.H b x.2.1 x.1)(hl:Rvs K o ws (xs.map (·.2.2))):Rel K (o.put k (.din b ks ws) (.dN b xs ep)):=R.put hk hc ⟨(xs,ep),aq,h1,fun x hx=>(hn x hx).mono (Ex.put hk hc) R,hl.mono R (Ex.put hk hc)⟩
noncomputable def Wo.ice (o:Wo)(k:Nat):Wo:=⟨o.mu,o.h.set k .gone,o.H⟩
theorem Lv.ice {k:Nat}{a:Ig}(h:Lv (o.ice k) a): ∃j b,j≠k/\o.h[j]?=some b/\b≠.gone/\o.mu j=a:=by
 obtain⟨j,d,hj,hd,e⟩:=h
 have hj:(o.h.set k .gone)[j]?=some d:=hj
 by_cases z:j=k
 ·subst z
  have hl:=(Ev.mp hj).1
  rw[EU] at hl
  rw[FC hl] at hj
  cases hj
  exact absurd rfl hd
 ·rw[Ew (Ne.symm z)] at hj
  exact⟨j,d,z,hj,hd,e⟩
theorem Ex.ice {k:Nat}:Ex o (o.ice k):=by
 refine⟨by show _<=(o.h.set k .gone).length;simp,fun _ _=>rfl,fun a w e n=>⟨e,fun l=>?_⟩⟩
 obtain⟨j,b,_,h1,h2,h3⟩:=l.ice
 exact n ⟨j,b,h1,h2,h3⟩
theorem Rel.ice (R:Rel K o){k:Nat}:Rel K (o.ice k):=by
 have X:Ex o (o.ice k):=Ex.ice
 have old: ∀ {j:Nat}{d:Ob},(o.ice k).h[j]?=some d->d≠.gone->o.h[j]?=some d:=fun{j d} hj n=>by
  have hj:(o.h.set k .gone)[j]?=some d:=hj
  by_cases z:j=k
  ·subst z
   have hl:=(Ev.mp hj).1
   rw[EU] at hl
   rw[FC hl] at hj
   cases hj
   exact absurd rfl n
  ·rw[Ew (Ne.symm z)] at hj
   exact hj
 refine⟨fun j d hj=>?_,fun i j d e h1 h2 n1 n2 q=>R.inj i j d e (old h1 n1) (old h2 n2) n1 n2 q⟩
 cases d with
 |lst l=>obtain⟨vs,h1,h2⟩:=R.ob j _ (old hj (by simp));exact⟨vs,h1,h2.mono R X⟩
 |dic ks ws=>obtain⟨vs,h1,h2,h3⟩:=R.ob j _ (old hj (by simp));exact⟨vs,h1,h2,h3.mono R X⟩
 |dit ks ws=>obtain⟨vs,h1,h2,h3⟩:=R.ob j _ (old hj (by simp));exact⟨vs,h1,h2,h3.mono R X⟩
 |din b ks ws=>obtain⟨vs,h1,h2,hn,h3⟩:=R.ob j _ (old hj (by simp));exact⟨vs,h1,h2,fun x hx=>(hn x hx).mono X R,h3.mono R X⟩
 |ins c ns ws=>obtain⟨C,dx,fs,h0,h1,h2,h3⟩:=R.ob j _ (old hj (by simp));exact⟨C,dx,fs,h0,h1,h2,h3.mono R X⟩
 |gone=>trivial
theorem Rv.iceL (R:Rel K o){k:Nat}{l:List W}(hk:o.h[k]?=some (.lst l)):Rv K (o.ice k) (.tl l) (.ref (o.mu k)):=by
 obtain⟨vs,h1,h2⟩:=R.ob k _ hk
 unfold Rv
 refine⟨_,vs,rfl,h1,fun z=>?_,h2.mono R Ex.ice⟩
 obtain⟨j,b,n,q1,q2,q3⟩:=z.ice
 exact n (R.inj j k b _ q1 hk q2 (by simp) q3)
theorem Rv.iceD (R:Rel K o){k:Nat}{ks:List Key}{ws:List W}(hk:o.h[k]?=some (.dic ks ws)):Rv K (o.ice k) (.dv ks ws) (.ref (o.mu k)):=by
 obtain⟨vs,h1,h0,h2⟩:=R.ob k _ hk
 unfold Rv
 refine⟨_,vs,rfl,.inl h1,fun z=>?_,h0,h2.mono R Ex.ice⟩
 obtain⟨j,b,n,q1,q2,q3⟩:=z.ice
 exact n (R.inj j k b _ q1 hk q2 (by simp) q3)
theorem Rv.iceN (R:Rel K o){k:Nat}{b:Bool}{ks:List PKy}{ws:List W}(hk:o.h[k]?=some (.din b ks ws)):Rv K (o.ice k) (.dn b ks ws) (.ref (o.mu k)):=by
 obtain⟨vs,h1,h0,hn,h2⟩:=R.ob k _ hk
 unfold Rv
 refine⟨_,vs,rfl,h1,fun z=>?_,h0,fun x hx=>(hn x hx).mono Ex.ice R,h2.mono R Ex.ice⟩
 obtain⟨j,b,n,q1,q2,q3⟩:=z.ice
 exact n (R.inj j k b _ q1 hk q2 (by simp) q3)
theorem Rvs.len: ∀ {l:List W}{vs:List V},Rvs K o l vs->vs.length=l.length
 |[],_,h=>by unfold Rvs at h;rw[h];rfl
 |w::l,_,h=>by unfold Rvs at h;obtain⟨v,r,rfl,_,h2⟩:=h;rw[Es,Es,Rvs.len h2]
theorem Rvs.get: ∀ {l:List W}{vs:List V}{i:Nat}{w:W},Rvs K o l vs->l[i]?=some w-> ∃v,vs[i]?=some v/\Rv K o w v
 |[],_,_,_,_,e=>by simp at e
 |x::l,_,0,w,h,e=>by unfold Rvs at h;obtain⟨v,r,rfl,h1,h2⟩:=h;cases e;exact⟨v,rfl,h1⟩
 |x::l,_,i+1,w,h,e=>by unfold Rvs at h;obtain⟨v,r,rfl,h1,h2⟩:=h;obtain⟨u,q1,q2⟩:=Rvs.get (l:=l) (i:=i) (w:=w) h2 (by simpa using e);exact⟨u,by simpa using q1,q2⟩
theorem Rvs.nil:Rvs K o [] []:=by unfold Rvs;rfl
theorem Rvs.cons {w:W}{v:V}{l:List W}{vs:List V}(h:Rv K o w v)(t:Rvs K o l vs):Rvs K o (w::l) (v::vs):=by unfold Rvs;exact⟨v,vs,rfl,h,t⟩
theorem Rvs.app: ∀ {l m:List W}{vs us:List V},Rvs K o l vs->Rvs K o m us->Rvs K o (l++m) (vs++us)
 |[],_,_,_,h,t=>by unfold Rvs at h;rw[h];exact t
 |w::l,m,_,us,h,t=>by unfold Rvs at h;obtain⟨v,r,rfl,h1,h2⟩:=h;exact Rvs.cons h1 (Rvs.app h2 t)
theorem Rvs.take: ∀ {l:List W}{vs:List V} (n:Nat),Rvs K o l vs->Rvs K o (l.take n) (vs.take n)
 |[],_,n,h=>by unfold Rvs at h;rw[h,List.take_nil,List.take_nil];exact Rvs.nil
 |w::l,_,0,h=>by rw[F6,F6];exact Rvs.nil
 |w::l,_,n+1,h=>by unfold Rvs at h;obtain⟨v,r,rfl,h1,h2⟩:=h;exact Rvs.cons h1 (Rvs.take n h2)
theorem Rvs.drop: ∀ {l:List W}{vs:List V} (n:Nat),Rvs K o l vs->Rvs K o (l.drop n) (vs.drop n)
 |[],_,n,h=>by unfold Rvs at h;rw[h,List.drop_nil,List.drop_nil];exact Rvs.nil
 |w::l,_,0,h=>h
 |w::l,_,n+1,h=>by unfold Rvs at h;obtain⟨v,r,rfl,h1,h2⟩:=h;exact Rvs.drop n h2
theorem Rvs.set {x:W}{y:V}(hx:Rv K o x y): ∀ {l:List W}{vs:List V} (i:Nat),Rvs K o l vs->Rvs K o (l.set i x) (vs.set i y)
 |[],_,n,h=>by unfold Rvs at h;rw[h];exact Rvs.nil
 |w::l,_,0,h=>by unfold Rvs at h;obtain⟨v,r,rfl,h1,h2⟩:=h;exact Rvs.cons hx h2
 |w::l,_,n+1,h=>by unfold Rvs at h;obtain⟨v,r,rfl,h1,h2⟩:=h;exact Rvs.cons h1 (Rvs.set hx n h2)
noncomputable abbrev JR:=List (Option W)
def RvO (K:PySem.W.Frag)(o:Wo):Option W->Option V->Prop
 |some w,s=> ∃v,s=some v/\Rv K o w v
 |none,s=>s=none
def Re (K:PySem.W.Frag)(o:Wo):JR->St->Prop
 |[],s=>s=[]
 |w::r,s=> ∃x t,s=x::t/\RvO K o w x/\Re K o r t
theorem RvO.mono (R:Rel K o)(X:Ex o p): ∀ {w:Option W}{s:Option V},RvO K o w s->RvO K p w s
 |some w,_,⟨v,e,h⟩=>⟨v,e,h.mono R X⟩
 |none,_,h=>h
theorem Re.mono (R:Rel K o)(X:Ex o p): ∀ {r:JR}{s:St},Re K o r s->Re K p r s
 |[],_,h=>h
 |w::r,_,⟨x,t,e,h1,h2⟩=>⟨x,t,e,h1.mono R X,Re.mono R X h2⟩
theorem Re.get: ∀ {r:JR}{s:St}{i:Nat}{w:W},Re K o r s->r[i]?=some (some w)-> ∃v,s[i]?=some (some v)/\Rv K o w v
 |[],_,_,_,_,e=>by simp at e
 |x::r,_,0,w,⟨y,t,rfl,h1,h2⟩,e=>by cases e;obtain⟨v,rfl,q⟩:=h1;exact⟨v,rfl,q⟩
 |x::r,_,i+1,w,⟨y,t,rfl,h1,h2⟩,e=>by obtain⟨u,q1,q2⟩:=Re.get (r:=r) (i:=i) (w:=w) h2 (by simpa using e);exact⟨u,by simpa using q1,q2⟩
theorem Re.set {w:W}{v:V}(q:Rv K o w v): ∀ {r:JR}{s:St} (i:Nat),Re K o r s->Re K o (r.set i (some w)) (s.set i (some v))
 |[],_,_,h=>by rw[show _=[] from h];rfl
 |x::r,_,0,⟨y,t,rfl,h1,h2⟩=>⟨_,_,rfl,⟨v,rfl,q⟩,h2⟩
 |x::r,_,i+1,⟨y,t,rfl,h1,h2⟩=>⟨_,_,rfl,h1,Re.set q i h2⟩
theorem Re.front: ∀ {r:JR}{s:St} (n:Nat),Re K o r s->Re K o (List.replicate n none++r) (List.replicate n none++s)
 |_,_,0,h=>h
 |_,_,n+1,h=>⟨none,_,rfl,rfl,Re.front n h⟩
theorem Re.args: ∀ {ws:List W}{vs:List V} (n:Nat),Rvs K o ws vs->Re K o (ws.map some++List.replicate n none) (vs.map some++List.replicate n none)
 |[],_,n,h=>by
  unfold Rvs at h;rw[h]
  induction n with
  |zero=>rfl
  |succ n ih=>exact⟨none,_,rfl,rfl,ih⟩
 |w::l,_,n,h=>by unfold Rvs at h;obtain⟨v,r,rfl,h1,h2⟩:=h;exact⟨_,_,rfl,⟨v,rfl,h1⟩,Re.args n h2⟩
end
inductive Rs (α:Type) where
 |ok (a:α)(h:List Ob)|ex (c:Str)(h:List Ob)|bad
noncomputable abbrev M (α:Type):=List Ob->Rs α
def bd {α β:Type}(f:M α)(g:α->M β):M β:=fun h=>match f h with
 |.ok a h'=>g a h'
 |.ex c h'=>.ex c h'
 |.bad=>.bad
def pr {α:Type}(a:α):M α:=fun h=>.ok a h
def no {α:Type}:M α:=fun _=>.bad
def gd {α:Type}(p:Prop) [Decidable p] (m:M α):M α:=fun h=>if p then m h else .bad
structure Cg where
 K:PySem.W.Frag
 mg:Str->Option H0
 E:XK
def Ps {α β:Type}(c:Cg)(r:Wo->α->β->Prop)(o:Wo)(R:Rs α)(Q:β->Hp->Prop):Prop:=match R with
 |.ok a h'=> ∀p b,p.h=h'->Ex o p->Rel c.K p->r p a b->Q b p.H
 |.ex x h'=> ∃u,c.mg x=some u/\ ∀p,p.h=h'->Ex o p->Rel c.K p->c.E u none p.H
 |.bad=>False
def tG {α β:Type}(c:Cg)(r:Wo->α->β->Prop)(f:JR->M α)(σ:St)(H:Hp)(Q:β->Hp->Prop):Prop:= ∃o ρ,o.H=H/\Rel c.K o/\Re c.K o ρ σ/\Ps c r o (f ρ o.h) Q
noncomputable abbrev tM (c:Cg)(f:JR->M W):TE:=tG c (Rv c.K) f
noncomputable abbrev tT (c:Cg)(f:JR->M Bool):TT:=tG c (fun _ a b=>a=b) f
noncomputable abbrev tA (c:Cg)(f:JR->M (List W)):TA:=tG c (Rvs c.K) f
section
variable {c:Cg}{o p:Wo}{α β γ δ:Type}{r:Wo->α->β->Prop}{r2:Wo->γ->δ->Prop}
theorem Ps.after {R:Rs α}{Q:β->Hp->Prop}(X:Ex o p)(h:Ps c r o R Q):Ps c r p R Q:=by
 cases R with
 |ok a h'=>exact fun q b e X2 Rq rq=>h q b e (X.trans X2) Rq rq
 |ex x h'=>obtain⟨u,hu,h⟩:=h;exact⟨u,hu,fun q e X2 Rq=>h q e (X.trans X2) Rq⟩
 |bad=>exact h
theorem Ps.bd {f:M α}{g:α->M γ}{Q:δ->Hp->Prop}{N:β->Hp->Prop}(h:Ps c r2 o (bd f g o.h) Q)(k:∀p a b,Ex o p->Rel c.K p->r p a b->Ps c r2 p (g a p.h) Q->N b p.H):Ps c r o (f o.h) N:=by
 unfold L2.bd at h
 cases e:f o.h with
 |ok a h'=>
  rw[e] at h
  intro p b hp X R rb
  subst hp
  exact k p a b X R rb (h.after X)
 |ex x h'=>
  rw[e] at h
  exact h
 |bad=>
  rw[e] at h
  exact h
theorem Ps.pr {a:α}{Q:β->Hp->Prop}{b:β}(h:Ps c r o (pr a o.h) Q)(R:Rel c.K o)(hb:r o a b):Q b o.H:=h o b rfl (Ex.refl _) R hb
theorem Ps.at {a:α}{h':List Ob}{Q:β->Hp->Prop}{b:β}(h:Ps c r o (.ok a h') Q)(e:p.h=h')(X:Ex o p)(R:Rel c.K p)(hb:r p a b):Q b p.H:=h p b e X R hb
theorem Ps.gd {P:Prop} [Decidable P] {m:M α}{Q:β->Hp->Prop}(h:Ps c r o (gd P m o.h) Q):P/\Ps c r o (m o.h) Q:=by
 unfold L2.gd at h
 by_cases q:P
 ·rw[if_pos q] at h;exact⟨q,h⟩
 ·rw[if_neg q] at h;exact h.elim
end
end
section
noncomputable abbrev cg (X:Cx)(E:XK):Cg:=⟨X.K,X.mg,E⟩
def tF (c:Cg)(f:JR->M (List W)):TE:=fun σ H Q=>tG c (Rvs c.K) f σ H fun vs H1=> ∀q,H1 q=none->Q (.ref q) (upd H1 q (.lst vs))
structure JE (X:Cx)(E:XK)(e:Expr)(f:JR->M W):Prop where
 h:PE X e (tM (cg X E) f)
structure JT (X:Cx)(E:XK)(e:Expr)(f:JR->M Bool):Prop where
 h:PT X e (tT (cg X E) f)
structure JW (X:Cx)(E:XK)(e:Expr)(f:JR->M Bool):Prop where
 h:PW X e (tT (cg X E) f)
structure JA (X:Cx)(E:XK)(es:List Expr)(f:JR->M (List W)):Prop where
 h:PA X es (tA (cg X E) f)
structure JF (X:Cx)(E:XK)(e:Expr)(f:JR->M (List W)):Prop where
 h:PE X e (tF (cg X E) f)
theorem PE.imp {X:Cx}{E:XK}{e:Expr}{t:TE}{f:JR->M W}(h:PE X e t)(k:∀σ H Q,tM (cg X E) f σ H Q->t σ H Q):JE X E e f:=⟨fun pins s σ H Q I q=>h pins s σ H Q I (k σ H Q q)⟩
theorem PE.impF {X:Cx}{E:XK}{e:Expr}{t:TE}{f:JR->M (List W)}(h:PE X e t)(k:∀σ H Q,tF (cg X E) f σ H Q->t σ H Q):JF X E e f:=⟨fun pins s σ H Q I q=>h pins s σ H Q I (k σ H Q q)⟩
theorem PT.imp {X:Cx}{E:XK}{e:Expr}{t:TT}{f:JR->M Bool}(h:PT X e t)(k:∀σ H Q,tT (cg X E) f σ H Q->t σ H Q):JT X E e f:=⟨fun pins s σ H Q I q=>h pins s σ H Q I (k σ H Q q)⟩
theorem PW.imp {X:Cx}{E:XK}{e:Expr}{t:TT}{f:JR->M Bool}(h:PW X e t)(k:∀σ H Q,tT (cg X E) f σ H Q->t σ H Q):JW X E e f:=⟨fun w pins s σ H Q I q=>h w pins s σ H Q I (k σ H Q q)⟩
theorem PA.imp {X:Cx}{E:XK}{e:List Expr}{t:TA}{f:JR->M (List W)}(h:PA X e t)(k:∀σ H Q,tA (cg X E) f σ H Q->t σ H Q):JA X E e f:=⟨fun pos pins s σ H Q I q=>h pos pins s σ H Q I (k σ H Q q)⟩
theorem Ag {X:Cx}{E:XK}{e:Expr}{f:JR->M Bool}(q:JW X E e f):JT X E e f:=⟨(q.h).pt⟩
section
variable {X:Cx}{E:XK}
def Me (i:Nat):JR->M W:=fun ρ=>match ρ[i]? with
 |some (some w)=>pr w
 |_=>no
def mC (w:W):JR->M W:=fun _=>pr w
theorem Av {i:Nat}{σ:St}{H:Hp}{Q:VK}(h:tM (cg X E) (Me i) σ H Q):OD i σ H Q:=by
 obtain⟨o,ρ,rfl,R,S,h⟩:=h
 unfold Me at h
 cases e:ρ[i]? with
 |none=>rw[e] at h;exact h.elim
 |some x=>
  cases x with
  |none=>rw[e] at h;exact h.elim
  |some w=>
   rw[e] at h
   obtain⟨v,e1,r⟩:=S.get e
   exact⟨v,e1,h.pr R r⟩
theorem BI (i:Nat){x:Str}{pos:IH}(hN:X.N[i]?=some x:=by rfl)(hv:Vis X.env.scope x:=by first|exact Or.inl rfl|exact Or.inr (Or.inl rfl)|exact Or.inr (Or.inr rfl))(hd:(x==("__debug__":Str))=false:=by decide)
 (hcd:(x==("__classdict__":Str))=false:=by decide):JE X E (.Name x pos) (Me i):=(pv i hN hv hd hcd).imp fun _ _ _ h=>Av h
theorem tW {w:W}{v:V}(hr: ∀o,Rv X.K o w v){σ:St}{H:Hp}{Q:VK}(h:tM (cg X E) (mC w) σ H Q):tC v σ H Q:=by
 obtain⟨o,ρ,rfl,R,S,h⟩:=h
 exact Ps.pr (c:=cg X E) h R (hr o)
theorem BZ {i j pos}:JE X E (.Constant (.int i) j pos) (mC (.int i)):=M4.imp fun _ _ _ h=>tW (fun o=>by unfold Rv;rfl) h
theorem DE {i j pos}:JE X E (.Constant (.bool i) j pos) (mC (.bl i)):=M1.imp fun _ _ _ h=>tW (fun o=>by unfold Rv;rfl) h
theorem BM {i j pos}:JE X E (.Constant (.str i) j pos) (mC (.str i)):=M8.imp fun _ _ _ h=>tW (fun o=>by unfold Rv;rfl) h
theorem BQ {j pos}:JE X E (.Constant .none j pos) (mC .non):=M7.imp fun _ _ _ h=>tW (fun o=>by unfold Rv;rfl) h
theorem nA {x:Str}{w:W}{v:V}{u:H0}{pos:IH}(hg:Gl X x)(hm:X.mg x=some u)(r:RelV v u)(hr: ∀o,Rv X.K o w v)(hd:(x==("__debug__":Str))=false:=by decide):JE X E (.Name x pos) (mC w):=
 (c8 hg hm r hd).imp fun _ _ _ h=>tW hr h
def m2 (f:W->W->M W)(fa fb:JR->M W):JR->M W:=fun ρ=>bd (fa ρ) fun x=>bd (fb ρ) fun y=>f x y
def OpM (X:Cx)(E:XK)(r:R2)(f:W->W->M W):Prop:= ∀ (o:Wo) (x y:W) (vx vy:V) (Q:VK),Rel X.K o->Rv X.K o x vx->Rv X.K o y vy->Ps (cg X E) (Rv X.K) o (f x y o.h) Q->r vx vy o.H Q
theorem vn {r:R2}{f:W->W->M W}(hf:OpM X E r f){fa fb:JR->M W}{σ:St}{H:Hp}{Q:VK}(h:tM (cg X E) (m2 f fa fb) σ H Q):tOp r (tM (cg X E) fa) (tM (cg X E) fb) σ H Q:=by
 obtain⟨o,ρ,rfl,R,S,h⟩:=h
 exact⟨o,ρ,rfl,R,S,Ps.bd h fun p x vx e1 R1 r1 h1=>⟨p,ρ,rfl,R1,S.mono R e1,Ps.bd h1 fun q y vy e2 R2 r2 h2=>hf q x y vx vy Q R2 (r1.mono R1 e2) r2 h2⟩⟩
theorem mf {a b:Expr}{pos:IH}{op:Operator}{r:R2}{f:W->W->M W}{fa fb:JR->M W}(ho:OpR X (I0 op) r)(hf:OpM X E r f)(ha:JE X E a fa)(hb:JE X E b fb):
 JE X E (.BinOp a op b pos) (m2 f fa fb):=(sr ho ha.h hb.h).imp fun _ _ _ h=>vn hf h
theorem B2 {a b:Expr}{pos:IH}{op:CmpOp}{r:R2}{f:W->W->M W}{fa fb:JR->M W}(ho:OpR X (IM op) r)(hf:OpM X E r f)(ha:JE X E a fa)(hb:JE X E b fb)(hm:IN op b=false):
 JE X E (.Compare a [op] [b] pos) (m2 f fa fb):=(gQ ho ha.h hb.h hm).imp fun _ _ _ h=>vn hf h
def asB (w:W):M Bool:=match w with
 |.bl b=>pr b
 |_=>no
def mB (f:JR->M W):JR->M Bool:=fun ρ=>bd (f ρ) asB
theorem Ax {f:JR->M W}{σ:St}{H:Hp}{Q:Bool->Hp->Prop}(h:tT (cg X E) (mB f) σ H Q):tM (cg X E) f σ H fun x H'=> ∃k,x=.bl k/\Q k H':=by
 obtain⟨o,ρ,rfl,R,S,h⟩:=h
 refine⟨o,ρ,rfl,R,S,Ps.bd h fun p x vx e1 R1 r1 h1=>?_⟩
 unfold asB at h1
 split at h1
 ·rename_i b
  unfold Rv at r1
  exact⟨b,r1,h1.pr R1 rfl⟩
 ·exact h1.elim
theorem Bw {a b:Expr}{pos:IH}{op:CmpOp}{r:R2}{f:W->W->M W}{fa fb:JR->M W}(ho:OpR X (IM op) r)(hf:OpM X E r f)(ha:JE X E a fa)(hb:JE X E b fb)(hm:IN op b=false):
 JT X E (.Compare a [op] [b] pos) (mB (m2 f fa fb)):=(dl ho ha.h hb.h hm).imp fun _ _ _ h=>vn hf (Ax h)
theorem Bu {e:Expr}{f:JR->M W}(h:JE X E e f)(he: ∀whole,isTrue e X.env whole=(do let v<-whole;IP e.pos;IQ [v] (truthy v)):=by intro _;rfl):JT X E e (mB f):=
 (fu h.h he).imp fun _ _ _ h=>Ax h
def LV (f g:JR->M Bool):JR->M Bool:=fun ρ=>bd (f ρ) fun b=>if b=true then g ρ else pr false
def mOr (f g:JR->M Bool):JR->M Bool:=fun ρ=>bd (f ρ) fun b=>if b=true then pr true else g ρ
def L8 (f:JR->M Bool):JR->M Bool:=fun ρ=>bd (f ρ) fun b=>pr (!b)
variable {a b:Expr}{rest:List Expr}{pos:IH}{f g:JR->M Bool}
theorem Ar {σ:St}{H:Hp}{Q:Bool->Hp->Prop}(h:tT (cg X E) (LV f g) σ H Q):tAnd (tT (cg X E) f) (tT (cg X E) g) σ H Q:=by
 obtain⟨o,ρ,rfl,R,S,h⟩:=h
 refine⟨o,ρ,rfl,R,S,Ps.bd h fun p x vx e1 R1 r1 h1=>?_⟩
 subst r1
 cases x with
 |true=>exact Lq ⟨p,ρ,rfl,R1,S.mono R e1,h1⟩
 |false=>exact Lp (h1.pr R1 rfl)
theorem CQ {σ:St}{H:Hp}{Q:Bool->Hp->Prop}(h:tT (cg X E) (mOr f g) σ H Q):tOr (tT (cg X E) f) (tT (cg X E) g) σ H Q:=by
 obtain⟨o,ρ,rfl,R,S,h⟩:=h
 refine⟨o,ρ,rfl,R,S,Ps.bd h fun p x vx e1 R1 r1 h1=>?_⟩
 subst r1
 cases x with
 |false=>exact Lp ⟨p,ρ,rfl,R1,S.mono R e1,h1⟩
 |true=>exact Lq (h1.pr R1 rfl)
theorem Bv (ha:JT X E a f):JT X E (.UnaryOp .Not a pos) (L8 f):=(qM ha.h).imp fun σ H Q h=>by
 obtain⟨o,ρ,rfl,R,S,h⟩:=h
 refine⟨o,ρ,rfl,R,S,Ps.bd h fun p x vx e1 R1 r1 h1=>?_⟩
 subst r1
 exact h1.pr R1 rfl
theorem yU (ha:JT X E a f):JW X E (.BoolOp .And [a] pos) f:=⟨sj ha.h⟩
theorem Bs (ha:JT X E a f):JW X E (.BoolOp .Or [a] pos) f:=⟨qL ha.h⟩
theorem wz (ha:JT X E a f)(hb:JW X E (.BoolOp .And (b::rest) pos) g):JW X E (.BoolOp .And (a::b::rest) pos) (LV f g):=(vO ha.h hb.h).imp fun _ _ _ h=>Ar h
theorem Ae (ha:JT X E a f)(hb:JW X E (.BoolOp .Or (b::rest) pos) g):JW X E (.BoolOp .Or (a::b::rest) pos) (mOr f g):=(vN ha.h hb.h).imp fun _ _ _ h=>CQ h
def LX (f g:JR->M W):JR->M W:=fun ρ=>bd (f ρ) fun w=>bd (asB w) fun b=>if b=true then g ρ else pr (.bl false)
def mOrV (f g:JR->M W):JR->M W:=fun ρ=>bd (f ρ) fun w=>bd (asB w) fun b=>if b=true then pr (.bl true) else g ρ
def mNotV (f:JR->M W):JR->M W:=fun ρ=>bd (f ρ) fun w=>bd (asB w) fun b=>pr (.bl (!b))
theorem xO {α β:Type}{r:Wo->α->β->Prop}{o:Wo}{w:W}{v:V}{k:Bool->M α}{Q:β->Hp->Prop}(hr:Rv X.K o w v)(h:Ps (cg X E) r o (bd (asB w) k o.h) Q): ∃b,w=.bl b/\v=.bl b/\Ps (cg X E) r o (k b o.h) Q:=by
 cases w with
 |bl b=>unfold Rv at hr;exact⟨b,rfl,hr,h⟩
 |_=>exact h.elim
variable {u v:JR->M W}
theorem BP {op}(h:JE X E a u):JE X E (.BoolOp op [a] pos) u:=⟨qT h.h⟩
theorem B3 (ha:JE X E a u)(hb:JE X E (.BoolOp .And (b::rest) pos) v):JE X E (.BoolOp .And (a::b::rest) pos) (LX u v):=(qU ha.h hb.h).imp fun σ H Q h=>by
 obtain⟨o,ρ,rfl,R,S,h⟩:=h
 refine⟨o,ρ,rfl,R,S,Ps.bd h fun p x vx e1 R1 r1 h1=>?_⟩
 obtain⟨k,rfl,rfl,h2⟩:=xO r1 h1
 refine⟨k,rfl,?_⟩
 cases k with
 |true=>exact Lq ⟨p,ρ,rfl,R1,S.mono R e1,h2⟩
 |false=>exact Lp (h2.pr R1 (by unfold Rv;rfl))
def mIf (f:JR->M Bool)(u v:JR->M W):JR->M W:=fun ρ=>bd (f ρ) fun b=>if b=true then u ρ else v ρ
theorem wL {c:Expr}(hc:JT X E c f)(ha:JE X E a u)(hb:JE X E b v):JE X E (.IfExp c a b pos) (mIf f u v):=(vY hc.h ha.h hb.h).imp fun σ H Q h=>by
 obtain⟨o,ρ,rfl,R,S,h⟩:=h
 refine⟨o,ρ,rfl,R,S,Ps.bd h fun p x vx e1 R1 r1 h1=>?_⟩
 subst r1
 cases x with
 |true=>exact Lq ⟨p,ρ,rfl,R1,S.mono R e1,h1⟩
 |false=>exact Lp ⟨p,ρ,rfl,R1,S.mono R e1,h1⟩
def m1 (f:W->M W)(fa:JR->M W):JR->M W:=fun ρ=>bd (fa ρ) f
def Ms (w:W):M W:=match w with
 |.int i=>pr (.int (-i))
 |_=>no
theorem BR (ha:JE X E a u):JE X E (.UnaryOp .USub a pos) (m1 Ms u):=(C2 Am ha.h).imp fun σ H Q h=>by
 obtain⟨o,ρ,rfl,R,S,h⟩:=h
 refine⟨o,ρ,rfl,R,S,Ps.bd h fun p x vx e1 R1 r1 h1=>?_⟩
 unfold Ms at h1
 split at h1
 ·unfold Rv at r1
  exact⟨_,r1,h1.pr R1 (by unfold Rv;rfl)⟩
 ·exact h1.elim
def L7:JR->M (List W):=fun _=>pr []
def L0 (fa:JR->M W)(fr:JR->M (List W)):JR->M (List W):=fun ρ=>bd (fa ρ) fun x=>bd (fr ρ) fun l=>pr (x::l)
variable {es:List Expr}{l:JR->M (List W)}{e:Expr}
theorem B6:JA X E [] L7:=MX.imp fun σ H Q h=>by
 obtain⟨o,ρ,rfl,R,S,h⟩:=h
 exact h.pr R Rvs.nil
theorem zp (ha:JE X E e u)(hr:JA X E es l)(hs:IJ (e::es) X.env=(false,IG e X.env)::IJ es X.env:=by rfl):JA X E (e::es) (L0 u l):=(ai ha.h hr.h hs).imp fun σ H Q h=>by
 obtain⟨o,ρ,rfl,R,S,h⟩:=h
 exact⟨o,ρ,rfl,R,S,Ps.bd h fun p x vx e1 R1 r1 h1=>⟨p,ρ,rfl,R1,S.mono R e1,Ps.bd h1 fun q y vy e2 R2 r2 h2=>h2.pr R2 (Rvs.cons (r1.mono R1 e2) r2)⟩⟩
def OL (l:List W):M W:=gd (l.length<=sizeLine) (pr (.tup l))
def Md (l:JR->M (List W)):JR->M W:=fun ρ=>bd (l ρ) OL
theorem Rv.newT {K:PySem.W.Frag}{o:Wo}(R:Rel K o){q:Ig}{l:List W}{vs:List V}(h:o.H q=none)(hl:Rvs K o l vs):Rv K ⟨o.mu,o.h,upd o.H q (.tup vs)⟩ (.tup l) (.ref q):=by
 unfold Rv;exact⟨q,vs,rfl,.of aq,hl.mono R (Ex.new h)⟩
theorem Rv.newL {K:PySem.W.Frag}{o:Wo}(R:Rel K o){q:Ig}{l:List W}{vs:List V}(h:o.H q=none)(hl:Rvs K o l vs):Rv K ⟨o.mu,o.h,upd o.H q (.lst vs)⟩ (.tl l) (.ref q):=by
 unfold Rv
 exact⟨q,vs,rfl,aq,fun z=>Lv.there R (show Lv o q from z) h,hl.mono R (Ex.new h)⟩
theorem BJ {x1}(h:JA X E es l):JE X E (.Tuple es x1 pos) (Md l):=(jq h.h).imp fun σ H Q h=>by
 obtain⟨o,ρ,rfl,R,S,h⟩:=h
 refine⟨o,ρ,rfl,R,S,Ps.bd h fun p x vx e1 R1 r1 h1=>?_⟩
 obtain⟨hz,h1⟩:=h1.gd
 exact⟨by rw[r1.len];exact hz,fun q hq=>Ps.at (p:=⟨p.mu,p.h,upd p.H q (.tup vx)⟩) h1 rfl (Ex.new hq) (R1.new hq) (Rv.newT R1 hq r1)⟩
def mTl (l:JR->M (List W)):JR->M W:=fun ρ=>bd (l ρ) fun x=>pr (.tl x)
def Mt (x:List W):M W:=fun h=>.ok (.loc h.length) (h++[.lst x])
def L6 (l:JR->M (List W)):JR->M W:=fun ρ=>bd (l ρ) Mt
theorem wI (h:JF X E e l):JE X E e (mTl l):=h.h.imp fun σ H Q h=>by
 obtain⟨o,ρ,rfl,R,S,h⟩:=h
 exact⟨o,ρ,rfl,R,S,Ps.bd h fun p x vx e1 R1 r1 h1=>fun q hq=>Ps.at (p:=⟨p.mu,p.h,upd p.H q (.lst vx)⟩) h1 rfl (Ex.new hq) (R1.new hq) (Rv.newL R1 hq r1)⟩
theorem q9 (h:JF X E e l):JE X E e (L6 l):=h.h.imp fun σ H Q h=>by
 obtain⟨o,ρ,rfl,R,S,h⟩:=h
 refine⟨o,ρ,rfl,R,S,Ps.bd h fun p x vx e1 R1 r1 h1=>fun q hq=>?_⟩
 refine Ps.at (p:=p.add q (.lst x) (.lst vx)) h1 rfl (Ex.add hq) (R1.addL hq r1) ?_
 unfold Rv
 exact⟨by show _<(p.h++[_]).length;simp,by show V.ref q=V.ref (if p.h.length=p.h.length then q else _);rw[if_pos rfl]⟩
def LO (l:JR->M (List W)):JR->M (List W):=fun ρ=>bd (l ρ) fun x=>gd (x.length<=sizeLine) (pr x)
theorem BF (h:JA X E es l):JF X E (.List es pos) (LO l):=(AX h.h).impF fun σ H Q h=>by
 obtain⟨o,ρ,rfl,R,S,h⟩:=h
 refine⟨o,ρ,rfl,R,S,Ps.bd h fun p x vx e1 R1 r1 h1=>?_⟩
 obtain⟨hz,h1⟩:=h1.gd
 exact⟨by rw[r1.len];exact hz,h1.pr R1 r1⟩
end
end
section
section
variable {X:Cx}{E:XK}
theorem Nx {K:PySem.W.Frag}{o:Wo}{i:Int}{v:V}:Rv K o (.int i) v↔v=.int i:=by unfold Rv;exact Iff.rfl
theorem Nz {K:PySem.W.Frag}{o:Wo}{i:Str}{v:V}:Rv K o (.str i) v↔v=.str i:=by unfold Rv;exact Iff.rfl
theorem Nv {K:PySem.W.Frag}{o:Wo}{i:Bool}{v:V}:Rv K o (.bl i) v↔v=.bl i:=by unfold Rv;exact Iff.rfl
theorem Ny {K:PySem.W.Frag}{o:Wo}{v:V}:Rv K o .non v↔v=.non:=by unfold Rv;exact Iff.rfl
theorem NB {K:PySem.W.Frag}{o:Wo}{n:String}{v:V}:Rv K o (.ty n) v↔v=.ty n:=by unfold Rv;exact Iff.rfl
def LU (w:W):M (List W):=match w with
 |.tl l=>pr l
 |.cl l=>pr l
 |.loc k=>fun h=>match h[k]? with
  |some (.lst l)=>.ok l h
  |_=>.bad
 |_=>no
theorem dD {α β:Type}{r:Wo->α->β->Prop}{o:Wo}{w:W}{v:V}{k:List W->M α}{Q:β->Hp->Prop}(R:Rel X.K o)(hr:Rv X.K o w v)(h:Ps (cg X E) r o (bd (LU w) k o.h) Q):
  ∃l a vs,v=.ref a/\SqL X.K o.H a vs/\Rvs X.K o l vs/\Ps (cg X E) r o (k l o.h) Q:=by
 cases w with
 |tl l=>unfold Rv at hr;obtain⟨a,vs,e,h1,_,h2⟩:=hr;exact⟨l,a,vs,e,.of h1,h2,h⟩
 |cl l=>
  unfold Rv at hr
  obtain⟨a,vs,e,h1,h2⟩:=hr
  rcases h1 with⟨h1,_⟩|h1
  ·exact⟨l,a,vs,e,.inl h1,h2,h⟩
  ·exact⟨l,a,vs,e,.inr h1,h2,h⟩
 |loc j=>
  unfold Rv at hr
  unfold LU bd at h
  cases e:o.h[j]? with
  |none=>simp only[e] at h;exact h.elim
  |some b=>
   cases b with
   |lst l=>
    simp only[e] at h
    obtain⟨vs,h1,h2⟩:=R.ob j _ e
    exact⟨l,_,vs,hr.2,.of h1,h2,h⟩
   |_=>simp only[e] at h;exact h.elim
 |_=>exact h.elim
def LS (w:W):M (List W):=match w with
 |.tl l=>pr l
 |.loc k=>fun h=>match h[k]? with
  |some (.lst l)=>.ok l h
  |_=>.bad
 |_=>no
theorem eC {α β:Type}{r:Wo->α->β->Prop}{o:Wo}{w:W}{v:V}{k:List W->M α}{Q:β->Hp->Prop}(R:Rel X.K o)(hr:Rv X.K o w v)(h:Ps (cg X E) r o (bd (LS w) k o.h) Q):
  ∃l a vs,v=.ref a/\o.H a=some (.lst vs)/\Rvs X.K o l vs/\Ps (cg X E) r o (k l o.h) Q:=by
 cases w with
 |tl l=>unfold Rv at hr;obtain⟨a,vs,e,h1,_,h2⟩:=hr;exact⟨l,a,vs,e,h1,h2,h⟩
 |loc j=>
  unfold Rv at hr
  unfold LS bd at h
  cases e:o.h[j]? with
  |none=>simp only[e] at h;exact h.elim
  |some b=>
   cases b with
   |lst l=>
    simp only[e] at h
    obtain⟨vs,h1,h2⟩:=R.ob j _ e
    exact⟨l,_,vs,hr.2,h1,h2,h⟩
   |_=>simp only[e] at h;exact h.elim
 |_=>exact h.elim
theorem jT {o:Wo}{q:Ig}{l:List W}{vs:List V}{Q:VK}(R:Rel X.K o)(hq:o.H q=none)(hl:Rvs X.K o l vs)(h:Ps (cg X E) (Rv X.K) o (pr (.tup l) o.h) Q):Q (.ref q) (upd o.H q (.tup vs)):=
 Ps.at (p:=⟨o.mu,o.h,upd o.H q (.tup vs)⟩) h rfl (Ex.new hq) (R.new hq) (Rv.newT R hq hl)
theorem iO {o:Wo}{q:Ig}{l:List W}{vs:List V}{Q:VK}(R:Rel X.K o)(hq:o.H q=none)(hl:Rvs X.K o l vs)(h:Ps (cg X E) (Rv X.K) o (pr (.tl l) o.h) Q):Q (.ref q) (upd o.H q (.lst vs)):=
 Ps.at (p:=⟨o.mu,o.h,upd o.H q (.lst vs)⟩) h rfl (Ex.new hq) (R.new hq) (Rv.newL R hq hl)
def Ka (x y:W):M W:=match x,y with
 |.int i,.int j=>pr (.int (i+j))
 |.str a,.str b=>gd (a.length+b.length<=sizeLine) (pr (.str (a++b)))
 |.tup a,.tup b=>gd (a.isEmpty=false/\a.length+b.length<=sizeLine) (pr (.tup (a++b)))
 |x,y=>bd (LS x) fun a=>bd (LS y) fun b=>gd (a.length+b.length<=sizeLine) (pr (.tl (a++b)))
theorem yI:OpM X E (fun x y H Q=>rI0 (fun i j=>.int (i+j)) x y H Q\/(fun x y H Q=>(fun x y H Q=> ∃i j,x=.str i/\y=.str j/\i.length+j.length<=sizeLine/\Q (.str (i++j)) H) x y H Q\/(fun x y H Q=>Nm X.K x y H Q\/rCat x y H Q) x y H Q) x y H Q) Ka:=by
 intro o x y vx vy Q R rx ry h
 unfold Ka at h
 split at h
 ·exact .inl ⟨_,_,Nx.mp rx,Nx.mp ry,h.pr R (Nx.mpr rfl)⟩
 ·obtain⟨hz,h⟩:=h.gd
  exact .inr (.inl ⟨_,_,Nz.mp rx,Nz.mp ry,hz,h.pr R (Nz.mpr rfl)⟩)
 ·obtain⟨hz,h⟩:=h.gd
  unfold Rv at rx ry
  obtain⟨a,vs,e1,s1,r1⟩:=rx
  obtain⟨b,us,e2,s2,r2⟩:=ry
  have n1:vs≠ []:=fun z=>by
   have:=r1.len
   rw[z] at this
   have q:=hz.1
   rw[F7 this.symm] at q
   cases q
  refine .inr (.inr (.inl ⟨a,b,vs,us,e1,e2,s1,s2,n1,by rw[r1.len,r2.len];exact hz.2,fun z=>?_,fun _ q hq=>jT R hq (r1.app r2) h⟩))
  refine h.pr R ?_
  unfold Rv
  exact⟨a,vs,rfl,s1,by have:=r1.app r2;rw[z,EX] at this;exact this⟩
 ·obtain⟨l,a,vs,e1,s1,r1,h⟩:=eC R rx h
  obtain⟨m,b,us,e2,s2,r2,h⟩:=eC R ry h
  obtain⟨hz,h⟩:=h.gd
  exact .inr (.inr (.inr ⟨a,b,vs,us,e1,e2,s1,s2,by rw[r1.len,r2.len];exact hz,fun q hq=>iO R hq (r1.app r2) h⟩))
theorem B4 {a b:Expr}{pos:IH}{fa fb:JR->M W}(ha:JE X E a fa)(hb:JE X E b fb):JE X E (.BinOp a .Add b pos) (m2 Ka fa fb):=
 mf (MC.or (ME.or (MF.or wb))) yI ha hb
def iiW (C:Int->Int->Prop) [∀i j,Decidable (C i j)] (g:Int->Int->W)(x y:W):M W:=match x,y with
 |.int i,.int j=>gd (C i j) (pr (g i j))
 |_,_=>no
theorem gC {C:Int->Int->Prop} [∀i j,Decidable (C i j)] {g:Int->Int->W}{g':Int->Int->V}(hg: ∀o i j,Rv X.K o (g i j) (g' i j)):OpM X E (rI C g') (iiW C g):=by
 intro o x y vx vy Q R rx ry h
 unfold iiW at h
 split at h
 ·obtain⟨hz,h⟩:=h.gd
  exact⟨_,_,Nx.mp rx,Nx.mp ry,hz,h.pr R (hg _ _ _)⟩
 ·exact h.elim
theorem MB {f:H0->H0->Sem H0}{g':Int->Int->V}(h:OpR X f (rI0 g')):OpR X f (rI (fun _ _=>True) g'):=fun pins s σ H x y v u Q I rx ry q=>h pins s σ H x y v u Q I rx ry (let ⟨i,j,e1,e2,_,q⟩:=q;⟨i,j,e1,e2,q⟩)
noncomputable abbrev CT:Int->Int->Prop:=fun _ _=>True
def Ov:W->W->M W:=iiW CT fun i j=>.int (i - j)
theorem BL {a b:Expr}{pos:IH}{fa fb:JR->M W}(ha:JE X E a fa)(hb:JE X E b fb):JE X E (.BinOp a .Sub b pos) (m2 Ov fa fb):=
 mf (MB Bb) (gC fun _ _ _=>Nx.mpr rfl) ha hb
noncomputable def JD (i j:Int):Prop:=0<j/\j<2 ^ 200
instance (i j:Int):Decidable (JD i j):=by unfold JD;infer_instance
theorem v9:OpR X (I0 .FloorDiv) (rI JD fun i j=>.int (i / j)):=opI fun i j _ _ _ _ _ hc q=>by
 have h1:(0:Int)<j:=hc.1
 have h2:j<2 ^ 200:=hc.2
 refine floordiv_int (by omega) (by rw[Int.fdiv_eq_ediv_of_nonneg i (by omega)];exact q) (.inl (PyProof.noPylong_of_log2 ?_))
 have h3:j.natAbs<2 ^ 200:=by omega
 exact EM ((Nat.log2_lt (by omega)).mpr h3) (by decide)
def KP:W->W->M W:=iiW JD fun i j=>.int (i / j)
theorem zo {a b:Expr}{pos:IH}{fa fb:JR->M W}(ha:JE X E a fa)(hb:JE X E b fb):JE X E (.BinOp a .FloorDiv b pos) (m2 KP fa fb):=
 mf v9 (gC fun _ _ _=>Nx.mpr rfl) ha hb
noncomputable abbrev CMod:Int->Int->Prop:=fun _ j=>0<j
def Mm:W->W->M W:=iiW CMod fun i j=>.int (i % j)
theorem BT {a b:Expr}{pos:IH}{fa fb:JR->M W}(ha:JE X E a fa)(hb:JE X E b fb):JE X E (.BinOp a .Mod b pos) (m2 Mm fa fb):=
 mf Bf (gC fun _ _ _=>Nx.mpr rfl) ha hb
instance (i j:Int):Decidable (JH i j):=by unfold JH;infer_instance
def Nb:W->W->M W:=iiW JH fun i j=>.int (i ^ j.toNat)
theorem BO {a b:Expr}{pos:IH}{fa fb:JR->M W}(ha:JE X E a fa)(hb:JE X E b fb):JE X E (.BinOp a .Pow b pos) (m2 Nb fa fb):=
 mf Bd (gC fun _ _ _=>Nx.mpr rfl) ha hb
theorem yV {z:Str}{n:Int}(h0:0<=n)(h1:n<=10000)(h:z.length<=30000)(hz:z.length * n.toNat<=1000000):MulOk z n:=by
 refine⟨?_,fun a b=>?_,fun a b=>?_⟩
 ·rw[Gu,decide_eq_false_iff_not,decide_eq_false_iff_not];omega
 ·have:(100000000000000:Int)<=(2 ^ 63 - 1) / n:=Int.le_ediv_of_mul_le (by omega) (by omega)
  omega
 ·unfold H9.Str.tooLong
  have:sizeLine=16777216:=by decide
  exact decide_eq_false (by omega)
instance (i j:Int):Decidable (CMul i j):=by unfold CMul;infer_instance
instance (i j:Int):Decidable (CMulB i j):=by unfold CMulB;infer_instance
def JG (i j:Int):Prop:=CMul i j\/CMulB i j
instance (i j:Int):Decidable (JG i j):=by unfold JG;infer_instance
theorem MJ:OpR X (I0 .Mult) (rI JG fun i j=>.int (i * j)):=opI fun _ _ _ _ _ _ _ hc q=>mul_int q (by rcases hc with h|h;exact h.ok;exact h.ok)
def Mo (x y:W):M W:=match x,y with
 |.int i,.int j=>gd (JG i j) (pr (.int (i * j)))
 |.str z,.int n=>gd (0<=n/\n<=10000/\z.length<=30000/\z.length * n.toNat<=1000000) (pr (.str (Txt.mul z n)))
 |x,.int n=>bd (LS x) fun l=>gd (0<=n/\n<=1000000/\l.length * n.toNat<=sizeLine) (pr (.tl (List.replicate n.toNat l).flatten))
 |_,_=>no
theorem Rvs.rep {K:PySem.W.Frag}{o:Wo}{l:List W}{vs:List V}(h:Rvs K o l vs): ∀n:Nat,Rvs K o (List.replicate n l).flatten (List.replicate n vs).flatten
 |0=>Rvs.nil
 |n+1=>by rw[FE,FE,FP,FP];exact h.app (Rvs.rep h n)
theorem yE:OpM X E (fun x y H Q=>rI JG (fun i j=>.int (i * j)) x y H Q\/(fun x y H Q=>(fun x y H Q=> ∃ (z:Str) (n:Int),x=.str z/\y=.int n/\MulOk z n/\Q (.str (Txt.mul z n)) H) x y H Q\/rRep x y H Q) x y H Q) Mo:=by
 intro o x y vx vy Q R rx ry h
 unfold Mo at h
 split at h
 ·obtain⟨hz,h⟩:=h.gd
  exact .inl ⟨_,_,Nx.mp rx,Nx.mp ry,hz,h.pr R (Nx.mpr rfl)⟩
 ·obtain⟨hz,h⟩:=h.gd
  exact .inr (.inl ⟨_,_,Nz.mp rx,Nx.mp ry,yV hz.1 hz.2.1 hz.2.2.1 hz.2.2.2,h.pr R (Nz.mpr rfl)⟩)
 ·obtain⟨l,a,vs,e1,s1,r1,h⟩:=eC R rx h
  obtain⟨hz,h⟩:=h.gd
  exact .inr (.inr ⟨a,_,vs,e1,Nx.mp ry,s1,by omega,by omega,by rw[r1.len];exact hz.2.2,fun q hq=>iO R hq (r1.rep _) h⟩)
 ·exact h.elim
theorem BS {a b:Expr}{pos:IH}{fa fb:JR->M W}(ha:JE X E a fa)(hb:JE X E b fb):JE X E (.BinOp a .Mult b pos) (m2 Mo fa fb):=
 mf (MJ.or (MK.or Bc)) yE ha hb
def ltW:W->W->M W:=iiW CT fun i j=>.bl (decide (i<j))
def leW:W->W->M W:=iiW CT fun i j=>.bl (decide (i<=j))
def gtW:W->W->M W:=iiW CT fun i j=>.bl (decide (j<i))
def geW:W->W->M W:=iiW CT fun i j=>.bl (decide (j<=i))
theorem A4:OpM X E (rI CT fun i j=>.bl (decide (i<j))) ltW:=gC fun _ _ _=>Nv.mpr rfl
theorem A5:OpM X E (rI CT fun i j=>.bl (decide (i<=j))) leW:=gC fun _ _ _=>Nv.mpr rfl
theorem A8:OpM X E (rI CT fun i j=>.bl (decide (j<i))) gtW:=gC fun _ _ _=>Nv.mpr rfl
theorem A9:OpM X E (rI CT fun i j=>.bl (decide (j<=i))) geW:=gC fun _ _ _=>Nv.mpr rfl
theorem C5:OpR X (IM .Lt) (rI CT fun i j=>.bl (decide (i<j))):=MB v8
theorem C6:OpR X (IM .LtE) (rI CT fun i j=>.bl (decide (i<=j))):=MB Dd
theorem C8:OpR X (IM .Gt) (rI CT fun i j=>.bl (decide (j<i))):=MB ma
theorem C9:OpR X (IM .GtE) (rI CT fun i j=>.bl (decide (j<=i))):=MB De
noncomputable def Ll:W->Bool
 |.non=>true
 |_=>false
def Lk (x y:W):M W:=match y with
 |.non=>pr (.bl (Ll x))
 |_=>no
def Mv (x y:W):M W:=match y with
 |.non=>pr (.bl (!Ll x))
 |_=>no
theorem sK {K:PySem.W.Frag}{o:Wo}{x:W}{v:V}(h:Rv K o x v):decide (v=.non)=Ll x:=by
 cases x with
 |non=>rw[Ny.mp h];rfl
 |bl _=>rw[Nv.mp h];rfl
 |int _=>rw[Nx.mp h];rfl
 |str _=>rw[Nz.mp h];rfl
 |ty _=>rw[NB.mp h];rfl
 |exc _=>unfold Rv at h;obtain⟨a,_,rfl,_⟩:=h;rfl
 |cls _=>unfold Rv at h;obtain⟨a,rfl,_⟩:=h;rfl
 |tup _=>unfold Rv at h;obtain⟨a,_,rfl,_⟩:=h;rfl
 |tl _=>unfold Rv at h;obtain⟨a,_,rfl,_⟩:=h;rfl
 |cl _=>unfold Rv at h;obtain⟨a,_,rfl,_⟩:=h;rfl
 |dv _ _=>unfold Rv at h;obtain⟨a,_,rfl,_⟩:=h;rfl
 |dn _ _ _=>unfold Rv at h;obtain⟨a,_,rfl,_⟩:=h;rfl
 |kt _=>unfold Rv at h;obtain⟨a,rfl,_⟩:=h;rfl
 |loc _=>unfold Rv at h;obtain⟨_,rfl⟩:=h;rfl
theorem yG:OpM X E (fun x y H Q=>y=.non/\Q (.bl (decide (x=.non))) H) Lk:=by
 intro o x y vx vy Q R rx ry h
 unfold Lk at h
 split at h
 ·exact⟨Ny.mp ry,by rw[sK rx];exact h.pr R (Nv.mpr rfl)⟩
 ·exact h.elim
theorem v6:OpM X E (fun x y H Q=>y=.non/\Q (.bl (!decide (x=.non))) H) Mv:=by
 intro o x y vx vy Q R rx ry h
 unfold Mv at h
 split at h
 ·exact⟨Ny.mp ry,by rw[sK rx];exact h.pr R (Nv.mpr rfl)⟩
 ·exact h.elim
noncomputable def vOf:W->Option V
 |.non=>some .non
 |.bl b=>some (.bl b)
 |.int i=>some (.int i)
 |.str x=>some (.str x)
 |_=>none
theorem mJ {K:PySem.W.Frag}{o:Wo}{x:W}{v u:V}(e:vOf x=some u)(h:Rv K o x v):v=u:=by
 cases x with
 |non=>cases e;exact Ny.mp h
 |bl _=>cases e;exact Nv.mp h
 |int _=>cases e;exact Nx.mp h
 |str _=>cases e;exact Nz.mp h
 |_=>cases e
theorem ox {x:W}{u:V}(e:vOf x=some u):KS u=true:=by
 cases x<;>first|(cases e;done)|(cases e;rfl)
def OU:List W->Option (List V)
 |[]=>some []
 |w::l=>match vOf w,OU l with
  |some v,some vs=>some (v::vs)
  |_,_=>none
theorem rW {K:PySem.W.Frag}{o:Wo}: ∀ {l:List W}{vs us:List V},OU l=some us->Rvs K o l vs->vs=us
 |[],vs,us,e,h=>by unfold Rvs at h;cases e;exact h
 |w::l,vs,us,e,h=>by
  unfold Rvs at h
  obtain⟨v,r,rfl,h1,h2⟩:=h
  unfold OU at e
  split at e
  ·rename_i v' vs' e1 e2
   cases e
   rw[mJ e1 h1,rW e2 h2]
  ·cases e
theorem lO: ∀ {l:List W}{us:List V},OU l=some us->us.all KS=true
 |[],us,e=>by cases e;rfl
 |w::l,us,e=>by
  unfold OU at e
  split at e
  ·rename_i v' vs' e1 e2
   cases e
   rw[F4,ox e1,lO e2];rfl
  ·cases e
end
end
section
noncomputable def MV {α β:Type}(f:α->Option β):List α->Option (List β)
 |[]=>some []
 |a::l=>match f a,MV f l with
  |some b,some r=>some (b::r)
  |_,_=>none
def Kx (h:List Ob):Nat->W->Option Jt
 |0,_=>none
 |_+1,.non=>some .none
 |_+1,.bl b=>some (.bool b)
 |_+1,.int i=>some (.int i)
 |_+1,.str x=>some (.str x)
 |n+1,.tup l=>(MV (Kx h n) l).map .tuple
 |n+1,.tl l=>(MV (Kx h n) l).map .list
 |n+1,.cl l=>(MV (Kx h n) l).map .list
 |n+1,.loc k=>match h[k]? with
  |some (.lst l)=>(MV (Kx h n) l).map .list
  |_=>none
 |_+1,_=>none
section
variable {K:PySem.W.Frag}{o:Wo}
theorem kJ {n:Nat}(ih: ∀w v d,Kx o.h n w=some d->Rv K o w v->Den K o.H v d/\d.depth<=n): ∀ {l:List W}{vs:List V}{ds:List Jt},MV (Kx o.h n) l=some ds->Rvs K o l vs->JM K o.H vs ds/\Jt.depthAll ds<=n
 |[],vs,ds,e,h=>by unfold Rvs at h;cases e;rw[h];exact⟨.nil,by simp [Jt.depthAll]⟩
 |w::l,vs,ds,e,h=>by
  unfold Rvs at h
  obtain⟨v,r,rfl,h1,h2⟩:=h
  unfold MV at e
  split at e
  ·rename_i d ds' e1 e2
   cases e
   obtain⟨a1,a2⟩:=ih w v d e1 h1
   obtain⟨b1,b2⟩:=kJ ih e2 h2
   exact⟨.cons a1 b1,by rw[Jt.depthAll];omega⟩
  ·cases e
theorem jC (R:Rel K o): ∀ (n:Nat) (w:W) (v:V) (d:Jt),Kx o.h n w=some d->Rv K o w v->Den K o.H v d/\d.depth<=n
 |0,_,_,_,e,_=>by cases e
 |n+1,w,v,d,e,h=>by
  have ih:=jC R n
  have seq: ∀ {l:List W}{a:Ig}{vs:List V}{ds:List Jt},MV (Kx o.h n) l=some ds->SqL K o.H a vs->Rvs K o l vs->Den K o.H (.ref a) (.list ds)/\(Jt.list ds).depth<=n+1:=fun{l a vs ds} e s r=>by
   obtain⟨b1,b2⟩:=kJ ih e r
   refine⟨.lst s b1,?_⟩
   rw[Jt.depth];omega
  cases w with
  |non=>cases e;rw[Ny.mp h];exact⟨.non,by simp [Jt.depth]⟩
  |bl b=>cases e;rw[Nv.mp h];exact⟨.bl b,by simp [Jt.depth]⟩
  |int b=>cases e;rw[Nx.mp h];exact⟨.int b,by simp [Jt.depth]⟩
  |str b=>cases e;rw[Nz.mp h];exact⟨.str b,by simp [Jt.depth]⟩
  |ty b=>cases e
  |exc b=>cases e
  |cls b=>cases e
  |dv a b=>cases e
  |dn a b c=>cases e
  |kt a=>cases e
  |tup l=>
   unfold Kx at e
   obtain⟨ds,e1,rfl⟩:=EH.mp e
   unfold Rv at h
   obtain⟨a,vs,rfl,s,r⟩:=h
   obtain⟨b1,b2⟩:=kJ ih e1 r
   refine⟨.tup s b1,?_⟩
   rw[Jt.depth];omega
  |tl l=>
   unfold Kx at e
   obtain⟨ds,e1,rfl⟩:=EH.mp e
   unfold Rv at h
   obtain⟨a,vs,rfl,s,_,r⟩:=h
   exact seq e1 (.of s) r
  |cl l=>
   unfold Kx at e
   obtain⟨ds,e1,rfl⟩:=EH.mp e
   unfold Rv at h
   obtain⟨a,vs,rfl,s,r⟩:=h
   refine seq e1 ?_ r
   rcases s with⟨s,_⟩|s
   ·exact .inl s
   ·exact .inr s
  |loc k=>
   unfold Kx at e
   split at e
   ·rename_i l hk
    obtain⟨ds,e1,rfl⟩:=EH.mp e
    unfold Rv at h
    obtain⟨vs,h1,h2⟩:=R.ob k _ hk
    rw[h.2]
    exact seq e1 (.of h1) h2
   ·cases e
end
def eqB (x y:W)(h:List Ob):Option Bool:=match vOf x,vOf y with
 |some a,some b=>if NU a b=true then some (decide (a=b)) else match Kx h 50 x,Kx h 50 y with
  |some d,some e=>if d.canLay0=true/\e.canLay0=true then some (Jt.eqv d e) else none
  |_,_=>none
 |_,_=>match Kx h 50 x,Kx h 50 y with
  |some d,some e=>if d.canLay0=true/\e.canLay0=true then some (Jt.eqv d e) else none
  |_,_=>none
def eqW (x y:W):M W:=fun h=>match eqB x y h with
 |some b=>.ok (.bl b) h
 |none=>.bad
def neW (x y:W):M W:=fun h=>match eqB x y h with
 |some b=>.ok (.bl (!b)) h
 |none=>.bad
section
variable {X:Cx}{E:XK}
theorem xp {o:Wo}{x y:W}{vx vy:V}{b:Bool}(hu:X.A.units+64<Il)(R:Rel X.K o)(rx:Rv X.K o x vx)(ry:Rv X.K o y vy)(e:eqB x y o.h=some b):
  (NU vx vy=true/\b=decide (vx=vy))\/ ∃d e,Den X.K o.H vx d/\Den X.K o.H vy e/\d.canLay0=true/\e.canLay0=true/\X.A.units+min d.depth e.depth<Il/\b=Jt.eqv d e:=by
 have deep:(match Kx o.h 50 x,Kx o.h 50 y with
  |some d,some e=>if d.canLay0=true/\e.canLay0=true then some (Jt.eqv d e) else none
  |_,_=>none)=some b-> ∃d e,Den X.K o.H vx d/\Den X.K o.H vy e/\d.canLay0=true/\e.canLay0=true/\X.A.units+min d.depth e.depth<Il/\b=Jt.eqv d e:=fun q=>by
  split at q
  ·rename_i d e' e1 e2
   split at q
   ·rename_i hc
    obtain⟨a1,a2⟩:=jC R _ _ _ _ e1 rx
    obtain⟨b1,b2⟩:=jC R _ _ _ _ e2 ry
    exact⟨d,e',a1,b1,hc.1,hc.2,by omega,(Option.some.inj q).symm⟩
   ·cases q
  ·cases q
 unfold eqB at e
 split at e
 ·rename_i a c e1 e2
  split at e
  ·rename_i hs
   rw[mJ e1 rx,mJ e2 ry]
   exact .inl ⟨hs,(Option.some.inj e).symm⟩
  ·exact .inr (deep e)
 ·exact .inr (deep e)
theorem Ba (hu:X.A.units+64<Il):OpM X E (fun x y H Q=>rEq x y H Q\/Nn X.K X.A false x y H Q) eqW:=by
 intro o x y vx vy Q R rx ry h
 unfold eqW at h
 cases e:eqB x y o.h with
 |none=>rw[e] at h;exact h.elim
 |some b=>
  rw[e] at h
  have q:Q (.bl b) o.H:=Ps.pr (c:=cg X E) (r:=Rv X.K) (a:=W.bl b) h R (Nv.mpr rfl)
  rcases xp hu R rx ry e with⟨s,rfl⟩|⟨d,e',a1,a2,a3,a4,a5,rfl⟩
  ·exact .inl ⟨s,q⟩
  ·exact .inr ⟨d,e',a1,a2,a3,a4,a5,by rw[if_neg EE];exact q⟩
theorem A2 (hu:X.A.units+64<Il):OpM X E (fun x y H Q=>rNe x y H Q\/Nn X.K X.A true x y H Q) neW:=by
 intro o x y vx vy Q R rx ry h
 unfold neW at h
 cases e:eqB x y o.h with
 |none=>rw[e] at h;exact h.elim
 |some b=>
  rw[e] at h
  have q:Q (.bl (!b)) o.H:=Ps.pr (c:=cg X E) (r:=Rv X.K) (a:=W.bl (!b)) h R (Nv.mpr rfl)
  rcases xp hu R rx ry e with⟨s,rfl⟩|⟨d,e',a1,a2,a3,a4,a5,rfl⟩
  ·exact .inl ⟨s,q⟩
  ·exact .inr ⟨d,e',a1,a2,a3,a4,a5,by rw[if_pos rfl];exact q⟩
theorem Da:OpR X (IM .Eq) (fun x y H Q=>rEq x y H Q\/Nn X.K X.A false x y H Q):=MG.or Bj
theorem C4:OpR X (IM .NotEq) (fun x y H Q=>rNe x y H Q\/Nn X.K X.A true x y H Q):=MN.or Be
def LG:W->Option Key
 |.int i=>some (.inl i)
 |.str x=>some (.inr x)
 |_=>none
theorem iY {K:PySem.W.Frag}{o:Wo}{x:W}{v:V}{k:Key}(e:LG x=some k)(h:Rv K o x v):v=kV k:=by
 cases x with
 |int _=>cases e;exact Nx.mp h
 |str _=>cases e;exact Nz.mp h
 |_=>cases e
def Ky (w:W)(h:List Ob):Option (List Key×List W):=match w with
 |.dv ks ws=>some (ks,ws)
 |.loc k=>match h[k]? with
  |some (.dic ks ws)=>some (ks,ws)
  |_=>none
 |_=>none
theorem pT {o:Wo}{w:W}{v:V}{ks:List Key}{ws:List W}(R:Rel X.K o)(e:Ky w o.h=some (ks,ws))(h:Rv X.K o w v): ∃a kvs,v=.ref a/\Rd o.H a (.dK kvs)/\kvs.map (·.1)=ks/\Rvs X.K o ws (kvs.map (·.2)):=by
 cases w with
 |dv a b=>
  cases e
  unfold Rv at h
  obtain⟨a,kvs,e,h1,_,h2,h3⟩:=h
  exact⟨a,kvs,e,h1,h2,h3⟩
 |loc k=>
  unfold Ky at e
  dsimp only at e
  split at e
  ·rename_i a b hk
   cases e
   unfold Rv at h
   obtain⟨kvs,h1,h2,h3⟩:=R.ob k _ hk
   exact⟨_,kvs,h.2,.inl h1,h2,h3⟩
  ·cases e
 |_=>cases e
noncomputable def atK {κ:Type} [DecidableEq κ]:List κ->List W->κ->Option W
 |k::ks,w::ws,x=>if k=x then some w else atK ks ws x
 |_,_,_=>none
theorem ja {κ:Type} [DecidableEq κ] {K:PySem.W.Frag}{o:Wo}{x:κ}: ∀ {ks:List κ}{ws:List W}{kvs:List (κ×V)},kvs.map (·.1)=ks->Rvs K o ws (kvs.map (·.2))->match atK ks ws x with
  |some w=> ∃v,OR kvs x=some v/\Rv K o w v
  |none=>OR kvs x=none
 |[],_,[],_,_=>rfl
 |_,_,(k,v)::r,e,h=>by
  subst e
  cases ‹List W› with
  |nil=>unfold Rvs at h;cases h
  |cons w ws=>
   unfold Rvs at h
   obtain⟨v',r',e',h1,h2⟩:=h
   cases e'
   have ih:=ja (x:=x) (ks:=r.map (·.1)) (ws:=ws) (kvs:=r) rfl h2
   show match (if k=x then some w else atK (r.map (·.1)) ws x) with
    |some w=> ∃v',OR ((k,v)::r) x=some v'/\Rv K o w v'
    |none=>OR ((k,v)::r) x=none
   by_cases z:k=x
   ·rw[if_pos z]
    exact⟨v,by unfold OR;rw[List.find?_cons_of_pos (by simpa using z)];rfl,h1⟩
   ·rw[if_neg z]
    have ev:OR ((k,v)::r) x=OR r x:=by unfold OR;rw[List.find?_cons_of_neg (by simpa using z)]
    rw[ev]
    exact ih
def inB (x y:W)(h:List Ob):Option Bool:=match y with
 |.str b=>match x with
  |.str a=>some (!(H9.Str.occurrences b a 0 b.length 1).isEmpty)
  |_=>none
 |.tup l=>match vOf x,OU l with
  |some v,some vs=>some (inV v vs)
  |_,_=>none
 |y=>match Ky y h with
  |some (ks,ws)=>match LG x with
   |some k=>some (atK ks ws k).isSome
   |none=>none
  |none=>match LU y h with
   |.ok l _=>match vOf x,OU l with
    |some v,some vs=>some (inV v vs)
    |_,_=>none
   |_=>none
def inW (x y:W):M W:=fun h=>match inB x y h with
 |some b=>.ok (.bl b) h
 |none=>.bad
def cx (x y:W):M W:=fun h=>match inB x y h with
 |some b=>.ok (.bl (!b)) h
 |none=>.bad
theorem pp {o:Wo}{w:W}{v:V}{l:List W}{h':List Ob}(R:Rel X.K o)(hr:Rv X.K o w v)(e:LU w o.h=.ok l h'):h'=o.h/\ ∃a vs,v=.ref a/\SqL X.K o.H a vs/\Rvs X.K o l vs:=by
 have hh:h'=o.h:=by
  cases w with
  |tl l'=>cases e;rfl
  |cl l'=>cases e;rfl
  |loc j=>
   unfold LU at e
   dsimp only at e
   split at e
   ·cases e;rfl
   ·cases e
  |_=>cases e
 subst hh
 have h:Ps (cg X (fun _ _ _=>False)) (fun (_:Wo) (a:List W) (b:List W)=>a=b) o (bd (LU w) (fun l=>pr l) o.h) (fun b _=>b=l):=by
  unfold bd
  rw[e]
  intro p b _ _ _ q
  exact q.symm
 obtain⟨m,a,vs,e1,e2,e3,h⟩:=dD R hr h
 have:m=l:=h.pr R rfl
 subst this
 exact⟨rfl,a,vs,e1,e2,e3⟩
def rInD:R2:=fun x y H Q=> ∃a ov,y=.ref a/\JL H a x ov/\Q (.bl ov.isSome) H
def sh:R2:=fun x y H Q=> ∃a ov,y=.ref a/\JL H a x ov/\Q (.bl (!ov.isSome)) H
theorem Bi (hu:X.A.units+1<Il):OpR X (IM .In) rInD:=by
 intro pins s σ H x y v u Q I rx ry h
 obtain⟨a,ov,rfl,g,q⟩:=h
 cases ry
 exact Ek hu I g rx fun s3 I3=>⟨.bl ov.isSome,H,I3,rfl,q⟩
theorem ui (hu:X.A.units+1<Il):OpR X (IM .NotIn) sh:=by
 intro pins s σ H x y v u Q I rx ry h
 obtain⟨a,ov,rfl,g,q⟩:=h
 cases ry
 exact zL hu I g rx fun s3 I3=>⟨.bl (!ov.isSome),H,I3,rfl,q⟩
theorem xb {o:Wo}{x y:W}{vx vy:V}{b:Bool}(R:Rel X.K o)(rx:Rv X.K o x vx)(ry:Rv X.K o y vy)(e:inB x y o.h=some b):
  (∃i j,vx=.str i/\vy=.str j/\b=(!(H9.Str.occurrences j i 0 j.length 1).isEmpty))\/(∃p xs,vy=.ref p/\(SqL X.K o.H p xs\/SqT X.K o.H p xs)/\KS vx=true/\xs.all KS=true/\b=inV vx xs)\/ ∃a ov,vy=.ref a/\JL o.H a vx ov/\b=ov.isSome:=by
 have fl: ∀ {l:List W}{vs:List V},Rvs X.K o l vs->(match vOf x,OU l with
    |some v,some vs=>some (inV v vs)
    |_,_=>none)=some b->KS vx=true/\vs.all KS=true/\b=inV vx vs:=fun{l vs} r q=>by
  split at q
  ·rename_i v us e1 e2
   rw[mJ e1 rx,rW e2 r]
   exact⟨ox e1,lO e2,(Option.some.inj q).symm⟩
  ·cases q
 unfold inB at e
 split at e
 ·split at e
  ·exact .inl ⟨_,_,Nz.mp rx,Nz.mp ry,(Option.some.inj e).symm⟩
  ·cases e
 ·unfold Rv at ry
  obtain⟨a,vs,rfl,s,r⟩:=ry
  obtain⟨f1,f2,f3⟩:=fl r e
  exact .inr (.inl ⟨a,vs,rfl,.inr s,f1,f2,f3⟩)
 ·split at e
  ·rename_i ks ws hd
   split at e
   ·rename_i k hk
    obtain⟨a,kvs,rfl,h1,h2,h3⟩:=pT R hd ry
    rw[iY hk rx]
    refine .inr (.inr ⟨a,OR kvs k,rfl,.inl ⟨kvs,k,h1,rfl,rfl⟩,?_⟩)
    rw[<-Option.some.inj e]
    have:=ja (x:=k) h2 h3
    cases q:atK ks ws k with
    |none=>rw[q] at this;rw[show OR kvs k=none from this];rfl
    |some w=>rw[q] at this;obtain⟨v,hv,_⟩:=this;rw[hv];rfl
   ·cases e
  ·split at e
   ·rename_i l h' hl
    obtain⟨rfl,a,vs,rfl,s,r⟩:=pp R ry hl
    obtain⟨f1,f2,f3⟩:=fl r e
    exact .inr (.inl ⟨a,vs,rfl,.inl s,f1,f2,f3⟩)
   ·cases e
noncomputable abbrev rInA (X:Cx):R2:=fun x y H Q=>(fun x y H Q=> ∃i j,x=.str i/\y=.str j/\Q (.bl (!(H9.Str.occurrences j i 0 j.length 1).isEmpty)) H) x y H Q\/(fun x y H Q=>rIn X.K false x y H Q\/rInD x y H Q) x y H Q
noncomputable abbrev si (X:Cx):R2:=fun x y H Q=>(fun x y H Q=> ∃i j,x=.str i/\y=.str j/\Q (.bl (!(!(H9.Str.occurrences j i 0 j.length 1).isEmpty))) H) x y H Q\/(fun x y H Q=>rIn X.K true x y H Q\/sh x y H Q) x y H Q
theorem C7 (hu:X.A.units+1<Il):OpR X (IM .In) (rInA X):=MI.or (MH.or (Bi hu))
theorem v5 (hu:X.A.units+1<Il):OpR X (IM .NotIn) (si X):=MP.or (MO.or (ui hu))
theorem A7:OpM X E (rInA X) inW:=by
 intro o x y vx vy Q R rx ry h
 unfold inW at h
 cases e:inB x y o.h with
 |none=>rw[e] at h;exact h.elim
 |some b=>
  rw[e] at h
  have q:Q (.bl b) o.H:=Ps.pr (c:=cg X E) (r:=Rv X.K) (a:=W.bl b) h R (Nv.mpr rfl)
  rcases xb R rx ry e with⟨i,j,e1,e2,rfl⟩|⟨p,xs,e1,e2,e3,e4,rfl⟩|⟨a,ov,e1,e2,rfl⟩
  ·exact .inl ⟨i,j,e1,e2,q⟩
  ·exact .inr (.inl ⟨p,xs,e1,e2,e3,e4,by rw[if_neg EE];exact q⟩)
  ·exact .inr (.inr ⟨a,ov,e1,e2,q⟩)
theorem uh:OpM X E (si X) cx:=by
 intro o x y vx vy Q R rx ry h
 unfold cx at h
 cases e:inB x y o.h with
 |none=>rw[e] at h;exact h.elim
 |some b=>
  rw[e] at h
  have q:Q (.bl (!b)) o.H:=Ps.pr (c:=cg X E) (r:=Rv X.K) (a:=W.bl (!b)) h R (Nv.mpr rfl)
  rcases xb R rx ry e with⟨i,j,e1,e2,rfl⟩|⟨p,xs,e1,e2,e3,e4,rfl⟩|⟨a,ov,e1,e2,rfl⟩
  ·exact .inl ⟨i,j,e1,e2,q⟩
  ·exact .inr (.inl ⟨p,xs,e1,e2,e3,e4,by rw[if_pos rfl];exact q⟩)
  ·exact .inr (.inr ⟨a,ov,e1,e2,q⟩)
theorem Rvs.atI {K:PySem.W.Frag}{o:Wo}{l:List W}{vs:List V}{i:Int}{w:W}(h:Rvs K o l vs)(e:L2.atI l i=some w): ∃v,L2.atI vs i=some v/\Rv K o w v:=by
 unfold L2.atI at e ⊢
 rw[h.len]
 cases q:ixN l.length i with
 |none=>rw[q] at e;cases e
 |some j=>rw[q] at e;exact h.get e
def ixO (x y:W)(h:List Ob):Option W:=match Ky x h with
 |some (ks,ws)=>match LG y with
  |some k=>atK ks ws k
  |none=>none
 |none=>match y with
  |.int i=>match x with
   |.str z=>if z.length<=sizeLine then (atI z.cps.toList i).map fun c=>.str ⟨#[c]⟩ else none
   |.tup l=>atI l i
   |x=>match LU x h with
    |.ok l _=>atI l i
    |_=>none
  |_=>none
def ixW (x y:W):M W:=fun h=>match ixO x y h with
 |some w=>.ok w h
 |none=>.bad
def rIxD:R2:=fun x y H Q=> ∃a v,x=.ref a/\JL H a y (some v)/\Q v H
theorem zz (hu:X.A.units+1<Il):IxR X rIxD:=by
 intro value slice pins s σ H x y v u Q I rx ry h hs
 obtain⟨a,z,rfl,g,q⟩:=h
 cases rx
 exact tail_any (pS I g) PySem.F.slot_dict_getitem.lookup (uS hu I g ry fun w' s3 I3 rw'=>⟨z,H,I3,rw',q⟩) hs
theorem A6:OpM X E (fun x y H Q=>rIx X.K x y H Q\/rIxD x y H Q) ixW:=by
 intro o x y vx vy Q R rx ry h
 unfold ixW at h
 cases e:ixO x y o.h with
 |none=>rw[e] at h;exact h.elim
 |some w=>
  rw[e] at h
  have q: ∀ {v:V},Rv X.K o w v->Q v o.H:=fun{v} hv=>Ps.pr (c:=cg X E) (r:=Rv X.K) (a:=w) h R hv
  unfold ixO at e
  split at e
  ·rename_i ks ws hd
   split at e
   ·rename_i k hk
    obtain⟨a,kvs,rfl,h1,h2,h3⟩:=pT R hd rx
    have:=ja (x:=k) h2 h3
    rw[e] at this
    obtain⟨v,hv,rv⟩:=this
    rw[iY hk ry]
    exact .inr ⟨a,v,rfl,.inl ⟨kvs,k,h1,rfl,hv.symm⟩,q rv⟩
   ·cases e
  ·split at e
   ·split at e
    ·split at e
     ·rename_i hz
      obtain⟨c,hc,rfl⟩:=EH.mp e
      exact .inl (.inr (.inr ⟨_,_,c,Nz.mp rx,Nx.mp ry,hz,hc,q (Nz.mpr rfl)⟩))
     ·cases e
    ·unfold Rv at rx
     obtain⟨a,vs,rfl,s,r⟩:=rx
     obtain⟨v,hv,rv⟩:=r.atI e
     exact .inl (.inr (.inl ⟨a,vs,_,v,rfl,Nx.mp ry,s,hv,q rv⟩))
    ·split at e
     ·rename_i l h' hl
      obtain⟨rfl,a,vs,rfl,s,r⟩:=pp R rx hl
      obtain⟨v,hv,rv⟩:=r.atI e
      exact .inl (.inl ⟨a,vs,_,v,rfl,Nx.mp ry,s,hv,q rv⟩)
     ·cases e
   ·cases e
theorem Dx {a b:Expr}{pos:IH}{fa fb:JR->M W}(hu:X.A.units+1<Il)(ha:JE X E a fa)(hb:JE X E b fb)(hs:j3 b):JE X E (.Subscript a b pos) (m2 ixW fa fb):=
 (oY (Lx.or (zz hu)) ha.h hb.h hs).imp fun _ _ _ h=>vn A6 h
def Kv {α:Type}(xs:List α)(lo hi:Option Int):List α:=(xs.drop (HT.sIx xs.length 0 lo)).take (HT.sIx xs.length xs.length hi - HT.sIx xs.length 0 lo)
theorem Rvs.cut {K:PySem.W.Frag}{o:Wo}{l:List W}{vs:List V}(h:Rvs K o l vs)(lo hi:Option Int):Rvs K o (Kv l lo hi) (Ku vs lo hi):=by
 unfold Kv Ku
 rw[h.len]
 exact (h.drop _).take _
def ao:JR->M (Option Int):=fun _=>pr none
def L9 (f:JR->M W):JR->M (Option Int):=fun ρ=>bd (f ρ) fun w=>match w with
 |.int i=>pr (some i)
 |_=>no
noncomputable abbrev tP (c:Cg)(f:JR->M (Option Int)):TO:=tG c (fun _ a b=>a=b) f
structure JO (X:Cx)(E:XK)(e:Option Expr)(f:JR->M (Option Int)):Prop where
 h:PO X e (tP (cg X E) f)
theorem PO.imp {e:Option Expr}{t:TO}{f:JR->M (Option Int)}(h:PO X e t)(k:∀σ H Q,tP (cg X E) f σ H Q->t σ H Q):JO X E e f:=⟨fun pins s σ H Q I q=>h pins s σ H Q I (k σ H Q q)⟩
theorem y8:JO X E none ao:=Na.imp fun σ H Q h=>by
 obtain⟨o,ρ,rfl,R,S,h⟩:=h
 exact h.pr R rfl
theorem y7 {e:Expr}{f:JR->M W}(he:JE X E e f):JO X E (some e) (L9 f):=(ni he.h).imp fun σ H Q h=>by
 obtain⟨o,ρ,rfl,R,S,h⟩:=h
 refine⟨o,ρ,rfl,R,S,Ps.bd h fun p x vx e1 R1 r1 h1=>?_⟩
 cases x with
 |int i=>exact⟨i,Nx.mp r1,h1.pr R1 rfl⟩
 |_=>exact h1.elim
def slW (x:W)(lo hi:Option Int):M W:=match x with
 |.str z=>gd (z.length<=sizeLine) (pr (.str (StrLaws.sliceText z lo hi)))
 |.tup l=>gd (¬(HT.sIx l.length 0 lo=0/\HT.sIx l.length l.length hi=l.length)) (pr (.tup (Kv l lo hi)))
 |x=>bd (LU x) fun l=>pr (.tl (Kv l lo hi))
def m3 (f:W->Option Int->Option Int->M W)(fa:JR->M W)(fl fh:JR->M (Option Int)):JR->M W:=fun ρ=>bd (fa ρ) fun x=>bd (fl ρ) fun a=>bd (fh ρ) fun b=>f x a b
theorem Dt {e:Expr}{lo hi:Option Expr}{p2 pos:IH}{fa:JR->M W}{fl fh:JR->M (Option Int)}(he:JE X E e fa)(hl:JO X E lo fl)(hh:JO X E hi fh):
  JE X E (.Subscript e (.Slice lo hi none p2) pos) (m3 slW fa fl fh):=(oX (Oc.or (Od.or yg)) he.h hl.h hh.h).imp fun σ H Q h=>by
 obtain⟨o,ρ,rfl,R,S,h⟩:=h
 refine⟨o,ρ,rfl,R,S,Ps.bd h fun p x vx e1 R1 r1 h1=>⟨p,ρ,rfl,R1,S.mono R e1,Ps.bd h1 fun q a va e2 R2 r2 h2=>⟨q,ρ,rfl,R2,(S.mono R e1).mono R1 e2,Ps.bd h2 fun w b vb e3 R3 r3 h3=>?_⟩⟩⟩
 subst r2 r3
 have rx:=(r1.mono R1 e2).mono R2 e3
 unfold slW at h3
 split at h3
 ·obtain⟨hz,h3⟩:=h3.gd
  exact .inl ⟨_,Nz.mp rx,hz,h3.pr R3 (Nz.mpr rfl)⟩
 ·obtain⟨hz,h3⟩:=h3.gd
  unfold Rv at rx
  obtain⟨a',vs,rfl,s,r⟩:=rx
  refine .inr (.inl ⟨a',vs,rfl,s,by rw[r.len];exact hz,fun q' hq=>jT R3 hq (r.cut _ _) h3⟩)
 ·obtain⟨l,a',vs,rfl,s,r,h3⟩:=dD R3 rx h3
  exact .inr (.inr ⟨a',vs,rfl,s,fun q' hq=>iO R3 hq (r.cut _ _) h3⟩)
def LY (f:List W->M W)(l:JR->M (List W)):JR->M W:=fun ρ=>bd (l ρ) f
def JJ (X:Cx)(E:XK)(r:List V->Hp->VK->Prop)(f:List W->M W):Prop:= ∀ (o:Wo) (ws:List W) (vs:List V) (Q:VK),Rel X.K o->Rvs X.K o ws vs->Ps (cg X E) (Rv X.K) o (f ws o.h) Q->r vs o.H Q
variable {x:Str}{p pos:IH}{e:Expr}{es:List Expr}{l:JR->M (List W)}{f:List W->M W}{r:List V->Hp->VK->Prop}{id T:String}
theorem z0 (hf:JJ X E r f){σ:St}{H:Hp}{Q:VK}(h:tM (cg X E) (LY f l) σ H Q):tCB r (tA (cg X E) l) σ H Q:=by
 obtain⟨o,ρ,rfl,R,S,h⟩:=h
 exact⟨o,ρ,rfl,R,S,Ps.bd h fun p x vx e1 R1 r1 h1=>hf p x vx Q R1 r1 h1⟩
theorem gH (hc:CallR X (.builtin id) r)(hf:JJ X E r f)(hg:Gl X x)(hm:X.mg x=none)(hv:ID x=some (.builtin id))(ha:JA X E (e::es) l)(hn:x≠ "__name__":=by decide)(hdb:(x==("__debug__":Str))=false:=by decide)
  (he:IJ (e::es) X.env=(false,IG e X.env)::IJ es X.env:=by rfl)(hpl:(II pos (IJ es X.env)).any (·.1)=false:=by rfl):JE X E (.Call (.Name x p) (e::es) [] pos) (LY f l):=
 (c9 hc hg hm hv ha.h hn hdb he hpl).imp fun _ _ _ h=>z0 hf h
theorem jx (hc:CallR X (.type T) r)(hf:JJ X E r f)(hg:Gl X x)(hm:X.mg x=none)(hv:ID x=some (.type T))(ha:JA X E (e::es) l)(hn:x≠ "__name__":=by decide)(hdb:(x==("__debug__":Str))=false:=by decide)
  (he:IJ (e::es) X.env=(false,IG e X.env)::IJ es X.env:=by rfl)(hpl:(II pos (IJ es X.env)).any (·.1)=false:=by rfl):JE X E (.Call (.Name x p) (e::es) [] pos) (LY f l):=
 (jr hc hg hm hv ha.h hn hdb he hpl).imp fun _ _ _ h=>z0 hf h
variable {CX:CXT}{k:Nat}{fA:Ig}{fd:Je}{ps:List Str}
end
end
section
inductive Fl where
 |nx (r:JR)|bk (r:JR)|ct (r:JR)|rt (w:W)
inductive FlV where
 |nx (s:St)|bk (s:St)|ct (s:St)|rt (v:V)
def RFl (K:PySem.W.Frag)(o:Wo):Fl->FlV->Prop
 |.nx r,f=> ∃s,f=.nx s/\Re K o r s
 |.bk r,f=> ∃s,f=.bk s/\Re K o r s
 |.ct r,f=> ∃s,f=.ct s/\Re K o r s
 |.rt w,f=> ∃v,f=.rt v/\Rv K o w v
def DQ (D:JN):FlV->Hp->Prop
 |.nx s,H=>D.nx s H
 |.bk s,H=>D.bk s H
 |.ct s,H=>D.ct s H
 |.rt v,H=>D.rt v H
def tS (c:Cg)(g:JR->M Fl):TS:=fun D σ H=>tG c (RFl c.K) g σ H (DQ D)
structure JS (X:Cx)(E:XK)(e:IK)(f:JR->M Fl):Prop where
 h:PS X e (tS (cg X E) f)
structure JSs (X:Cx)(E:XK)(e:List IK)(f:JR->M Fl):Prop where
 h:PSs X e (tS (cg X E) f)
theorem PSs.imp {X:Cx}{E:XK}{e:List IK}{t:TS}{f:JR->M Fl}(h:PSs X e t)(k:∀D σ H,tS (cg X E) f D σ H->t D σ H):JSs X E e f:=⟨fun pins s σ H D I q=>h pins s σ H D I (k D σ H q)⟩
theorem PS.imp {X:Cx}{E:XK}{e:IK}{t:TS}{f:JR->M Fl}(h:PS X e t)(k:∀D σ H,tS (cg X E) f D σ H->t D σ H):JS X E e f:=⟨fun pins s σ H D I q=>h pins s σ H D I (k D σ H q)⟩
theorem aa {α β γ:Type}(a:M α)(b:α->M β)(d:β->M γ):bd (bd a b) d=bd a fun x=>bd (b x) d:=by
 funext h
 unfold bd
 cases a h<;>rfl
section
variable {X:Cx}{E:XK}{pos:IH}
def NG:JR->M Fl:=fun ρ=>pr (.nx ρ)
def NJ (f g:JR->M Fl):JR->M Fl:=fun ρ=>bd (f ρ) fun x=>match x with
 |.nx r=>g r
 |x=>pr x
theorem yZ:JSs X E [] NG:=Nc.imp fun D σ H h=>by
 obtain⟨o,ρ,rfl,R,S,h⟩:=h
 exact h.pr R ⟨σ,rfl,S⟩
theorem As {f g:JR->M Fl}{D:JN}{σ:St}{H:Hp}(h:tS (cg X E) (NJ f g) D σ H):tSeq (tS (cg X E) f) (tS (cg X E) g) D σ H:=by
 obtain⟨o,ρ,rfl,R,S,h⟩:=h
 refine⟨o,ρ,rfl,R,S,Ps.bd h fun p x b e1 R1 r1 h1=>?_⟩
 cases x with
 |nx r=>obtain⟨s,rfl,re⟩:=r1;exact⟨p,r,rfl,R1,re,h1⟩
 |bk r=>have q:=h1.pr R1 r1;obtain⟨s,rfl,re⟩:=r1;exact q
 |ct r=>have q:=h1.pr R1 r1;obtain⟨s,rfl,re⟩:=r1;exact q
 |rt r=>have q:=h1.pr R1 r1;obtain⟨s,rfl,re⟩:=r1;exact q
theorem wE {st:IK}{rest:List IK}{f g:JR->M Fl}(h1:JS X E st f)(h2:JSs X E rest g):JSs X E (st::rest) (NJ f g):=(ax h1.h h2.h).imp fun D σ H h=>As h
theorem yY {st:IK}{f:JR->M Fl}(h1:JS X E st f):JSs X E [st] f:=⟨aJ h1.h⟩
variable {e:Expr}{f:JR->M W}
def NK (i:Nat)(f:JR->M W):JR->M Fl:=fun ρ=>bd (f ρ) fun w=>pr (.nx (ρ.set i (some w)))
theorem Bx {i:Nat}{x:Str}{pos':IH}(hN:X.N.Nodup)(hi:X.N[i]?=some x)(hx:Loc X.env.scope x)(he:JE X E e f)(hs:swapsWith e (some (.Name x pos')) pos.line X.env=pure false:=by rfl)(hf:X.fn x=true\/X.env.scope.names.lookup x=some .local :=by first|exact .inl rfl|exact .inr rfl|assumption):
  JS X E (.Assign [.Name x pos'] e pos) (NK i f):=(dj hN hi hx he.h hs hf).imp fun D σ H h=>by
 obtain⟨o,ρ,rfl,R,S,h⟩:=h
 exact⟨o,ρ,rfl,R,S,Ps.bd h fun p x b e1 R1 r1 h1=>Ps.pr (b:=FlV.nx (σ.set i (some b))) h1 R1 ⟨_,rfl,(S.mono R e1).set r1 i⟩⟩
def NH (f:JR->M W):JR->M Fl:=fun ρ=>bd (f ρ) fun w=>pr (.rt w)
theorem By (he:JE X E e f):JS X E (.Return (some e) pos) (NH f):=(cC he.h).imp fun D σ H h=>by
 obtain⟨o,ρ,rfl,R,S,h⟩:=h
 exact⟨o,ρ,rfl,R,S,Ps.bd h fun p x b e1 R1 r1 h1=>Ps.pr (b:=FlV.rt b) h1 R1 ⟨_,rfl,r1⟩⟩
def sEx (f:JR->M W):JR->M Fl:=fun ρ=>bd (f ρ) fun _=>pr (.nx ρ)
theorem y6 (he:JE X E e f)(hs:swapsWith e none pos.line X.env=pure false:=by rfl):JS X E (.Expr e pos) (sEx f):=(mZ he.h hs).imp fun D σ H h=>by
 obtain⟨o,ρ,rfl,R,S,h⟩:=h
 exact⟨o,ρ,rfl,R,S,Ps.bd h fun p x b e1 R1 r1 h1=>Ps.pr (b:=FlV.nx σ) h1 R1 ⟨_,rfl,S.mono R e1⟩⟩
def sIf (t:JR->M Bool)(f g:JR->M Fl):JR->M Fl:=fun ρ=>bd (t ρ) fun b=>if b=true then f ρ else g ρ
theorem Dn {c:Expr}{a b:List IK}{t:JR->M Bool}{f g:JR->M Fl}(hc:JT X E c t)(ha:JSs X E a f)(hb:JSs X E b g):JS X E (.If c a b pos) (sIf t f g):=(gg hc.h ha.h hb.h).imp fun D σ H h=>by
 obtain⟨o,ρ,rfl,R,S,h⟩:=h
 refine⟨o,ρ,rfl,R,S,Ps.bd h fun p x vx e1 R1 r1 h1=>?_⟩
 subst r1
 cases x with
 |true=>exact Lq ⟨p,ρ,rfl,R1,S.mono R e1,h1⟩
 |false=>exact Lp ⟨p,ρ,rfl,R1,S.mono R e1,h1⟩
def sPass:JR->M Fl:=fun ρ=>pr (.nx ρ)
def bv:JR->M Fl:=fun ρ=>pr (.bk ρ)
def sCont:JR->M Fl:=fun ρ=>pr (.ct ρ)
def vc (t:JR->M Bool)(g:JR->M Fl):Nat->JR->M Fl
 |0,_=>no
 |n+1,ρ=>bd (t ρ) fun b=>if b=true then bd (g ρ) fun x=>match x with
   |.nx r=>vc t g n r
   |.ct r=>vc t g n r
   |.bk r=>pr (.nx r)
   |.rt w=>pr (.rt w)
  else pr (.nx ρ)
structure J6 (K:PySem.W.Frag)(m:Nat)(g:TG)(t:W->JR->Option JR):Prop where
 ok: ∀ (o:Wo) (w:W) (v:V) (ρ ρ2:JR) (σ:St),Rv K o w v->Re K o ρ σ->t w ρ=some ρ2-> ∃σ2,(∀Q:St->Hp->Prop,Q σ2 o.H->g v σ o.H Q)/\Re K o ρ2 σ2/\σ2.drop m=σ.drop m/\σ2.length=σ.length
def tgN (i:Nat):W->JR->Option JR:=fun w ρ=>some (ρ.set i (some w))
theorem d9 {K:PySem.W.Frag}(m i:Nat)(h:i<m):J6 K m (K1 i) (tgN i):=⟨fun o w v ρ ρ2 σ rv re e=>by
 cases e
 exact⟨_,fun Q q=>q,re.set rv i,by rw[Hw h],by rw[EU]⟩⟩
def gNs:List Nat->TGs
 |[]=>gNil
 |i::r=>K0 (K1 i) (gNs r)
def NX:List Nat->List W->JR->Option JR
 |[],[],ρ=>some ρ
 |i::r,w::l,ρ=>NX r l (ρ.set i (some w))
 |_,_,_=>none
theorem zY {K:PySem.W.Frag}{m:Nat}{o:Wo}: ∀ (is:List Nat) (l:List W) (vs:List V) (ρ ρ2:JR) (σ:St),(∀i∈is,i<m)->Rvs K o l vs->Re K o ρ σ->NX is l ρ=some ρ2-> ∃σ2,(∀Q:St->Hp->Prop,Q σ2 o.H->gNs is vs σ o.H Q)/\Re K o ρ2 σ2/\σ2.drop m=σ.drop m/\σ2.length=σ.length
 |[],[],vs,ρ,ρ2,σ,_,rv,re,e=>by
  unfold Rvs at rv
  cases e
  exact⟨σ,fun Q q=>⟨rv,q⟩,re,rfl,rfl⟩
 |[],_::_,_,_,_,_,_,_,_,e=>by cases e
 |_::_,[],_,_,_,_,_,_,_,e=>by cases e
 |i::is,w::l,vs,ρ,ρ2,σ,hm,rv,re,e=>by
  unfold Rvs at rv
  obtain⟨v,r,rfl,h1,h2⟩:=rv
  obtain⟨σ2,a,b,c,d⟩:=zY is l r (ρ.set i (some w)) ρ2 (σ.set i (some v)) (fun j hj=>hm j (EA _ hj)) h2 (re.set h1 i) e
  refine⟨σ2,fun Q q=>⟨v,r,rfl,a Q q⟩,b,?_,?_⟩
  ·rw[c,Hw (hm i Eo)]
  ·rw[d,EU]
def tgT (is:List Nat):W->JR->Option JR:=fun w ρ=>match w with
 |.tup l=>NX is l ρ
 |_=>none
theorem oJ: ∀ {is:List Nat}{l:List W}{ρ ρ2:JR},NX is l ρ=some ρ2->l.length=is.length
 |[],[],_,_,_=>rfl
 |[],_::_,_,_,e=>by cases e
 |_::_,[],_,_,e=>by cases e
 |_::is,_::l,_,_,e=>by rw[Es,Es,oJ (is:=is) (l:=l) e]
theorem qt {K:PySem.W.Frag}(m:Nat)(is:List Nat)(h:∀i∈is,i<m):J6 K m (gTup K is.length (gNs is)) (tgT is):=⟨fun o w v ρ ρ2 σ rv re e=>by
 cases w with
 |tup l=>
  unfold Rv at rv
  obtain⟨a,vs,rfl,s,r⟩:=rv
  have e:NX is l ρ=some ρ2:=e
  obtain⟨σ2,a1,a2,a3,a4⟩:=zY is l vs ρ ρ2 σ h r re e
  exact⟨σ2,fun Q q=>⟨a,vs,rfl,s,by rw[r.len,oJ e],a1 Q q⟩,a2,a3,a4⟩
 |_=>cases e⟩
open Classical in
def gdh {α:Type}(G:List Ob->Prop)(m:M α):M α:=fun h=>if G h then m h else .bad
theorem pK {α:Type}(m:M α):gdh (fun _=>True) m=m:=by funext h;unfold gdh;rw[if_pos trivial]
theorem du {α:Type}{G:List Ob->Prop}{m:M α}{h:List Ob}(q:G h):gdh G m h=m h:=by unfold gdh;rw[if_pos q]
theorem Ps.gdh {α β:Type}{c:Cg}{r:Wo->α->β->Prop}{o:Wo}{G:List Ob->Prop}{m:M α}{Q:β->Hp->Prop}(h:Ps c r o (gdh G m o.h) Q):G o.h/\Ps c r o (m o.h) Q:=by
 unfold L2.gdh at h
 by_cases q:G o.h
 ·rw[if_pos q] at h;exact⟨q,h⟩
 ·rw[if_neg q] at h;exact h.elim
structure Sr where
 l:List W
 G:List Ob->Prop
structure J4 (K:PySem.W.Frag)(o0:Wo)(J:It)(s:Sr):Prop where
 stop: ∀o,Ex o0 o->Rel K o->s.G o.h->J.stop s.l.length o.H
 go: ∀o i w,Ex o0 o->Rel K o->s.G o.h->s.l[i]?=some w->J.go i o.H/\ ∀x H',J.yld i o.H x H'-> ∃p,p.H=H'/\p.h=o.h/\Ex o p/\Rel K p/\Rv K p w x
def tI (c:Cg)(src:JR->M Sr):TI:=fun σ H R=>tG c (fun p s J=>J4 c.K p J s) src σ H R
structure JI (X:Cx)(E:XK)(tg iter:Expr)(f:JR->M Sr):Prop where
 h:PI X tg iter (tI (cg X E) f)
theorem PI.imp {tg iter:Expr}{t:TI}{f:JR->M Sr}(h:PI X tg iter t)(k:∀σ H R,tI (cg X E) f σ H R->t σ H R):JI X E tg iter f:=⟨fun pins s σ H R I q=>h pins s σ H R I (k σ H R q)⟩
def On (w:W):M Sr:=match w with
 |.tl l=>pr ⟨l,fun _=>True⟩
 |.cl l=>pr ⟨l,fun _=>True⟩
 |.loc k=>fun h=>match h[k]? with
  |some (.lst l)=>.ok ⟨l,fun h=>h[k]?=some (.lst l)⟩ h
  |_=>.bad
 |_=>no
def Mb (f:JR->M W)(g:W->M Sr):JR->M Sr:=fun ρ=>bd (f ρ) g
theorem kj {K:PySem.W.Frag}{o0:Wo}{a:Ig}{s:Sr}(h:∀o,Ex o0 o->Rel K o->s.G o.h-> ∃vs,SqL K o.H a vs/\Rvs K o s.l vs):J4 K o0 (Itl K a) s:=by
 refine⟨fun o X R g=>?_,fun o i w X R g e=>?_⟩
 ·obtain⟨vs,s,r⟩:=h o X R g
  exact⟨vs,s,FO r.len⟩
 ·obtain⟨vs,s,r⟩:=h o X R g
  obtain⟨v,hv,rv⟩:=r.get e
  refine⟨⟨vs,v,s,hv⟩,fun x H' y=>?_⟩
  obtain⟨rfl,y⟩:=y
  have:x=v:=by have:=y vs s;rw[hv] at this;exact (Option.some.inj this).symm
  subst this
  exact⟨o,rfl,rfl,Ex.refl _,R,rv⟩
theorem zc {tg l:Expr}{fl:JR->M W}(hl:JE X E l fl):JI X E tg l (Mb fl On):=(yz hl.h).imp fun σ H Q h=>by
 obtain⟨o,ρ,rfl,R,S,h⟩:=h
 refine⟨o,ρ,rfl,R,S,Ps.bd h fun p x vx e1 R1 r1 h1=>?_⟩
 cases x with
 |tl l=>
  have r1':=r1
  unfold Rv at r1
  obtain⟨a,vs,rfl,s,n,r⟩:=r1
  refine⟨a,rfl,⟨vs,.of s⟩,h1.pr R1 (kj fun o X R g=>?_)⟩
  exact⟨vs,.of (X.fr a _ s n).1,r.mono R1 X⟩
 |cl l=>
  unfold Rv at r1
  obtain⟨a,vs,rfl,s,r⟩:=r1
  have sq: ∀o,Ex p o->SqL X.K o.H a vs:=fun o X=>by
   rcases s with⟨s,n⟩|s
   ·exact .inl (X.rd s n).1
   ·exact .inr s
  exact⟨a,rfl,⟨vs,sq p (Ex.refl _)⟩,h1.pr R1 (kj fun o X R g=>⟨vs,sq o X,r.mono R1 X⟩)⟩
 |loc k=>
  unfold Rv at r1
  obtain⟨hk,rfl⟩:=r1
  unfold On at h1
  dsimp only at h1
  split at h1
  ·rename_i l hl
   obtain⟨vs,h3,h4⟩:=R1.ob k _ hl
   refine⟨_,rfl,⟨vs,.of h3⟩,Ps.at (p:=p) h1 rfl (Ex.refl _) R1 (kj fun o X R g=>?_)⟩
   obtain⟨vs',h5,h6⟩:=R.ob k _ g
   rw[X.mu k hk] at h5
   exact⟨vs',.of h5,h6⟩
  ·exact h1.elim
 |_=>exact h1.elim
def Oo (w:W):M Sr:=match w with
 |.tup l=>pr ⟨l,fun _=>True⟩
 |_=>no
theorem BE {tg l:Expr}{fl:JR->M W}(hl:JE X E l fl):JI X E tg l (Mb fl Oo):=(AT hl.h).imp fun σ H Q h=>by
 obtain⟨o,ρ,rfl,R,S,h⟩:=h
 refine⟨o,ρ,rfl,R,S,Ps.bd h fun p x vx e1 R1 r1 h1=>?_⟩
 cases x with
 |tup l=>
  unfold Rv at r1
  obtain⟨a,vs,rfl,s,r⟩:=r1
  refine⟨a,rfl,⟨vs,s⟩,h1.pr R1 ⟨fun o X R g=>⟨vs,X.rdT R1 s,FO r.len⟩,fun o i w X R g e=>?_⟩⟩
  obtain⟨v,hv,rv⟩:=(r.mono R1 X).get e
  have sq:=X.rdT R1 s
  refine⟨⟨vs,v,sq,hv⟩,fun x H' y=>?_⟩
  obtain⟨rfl,y⟩:=y
  have:x=v:=by have:=y vs sq;rw[hv] at this;exact (Option.some.inj this).symm
  subst this
  exact⟨o,rfl,rfl,Ex.refl _,R,rv⟩
 |_=>exact h1.elim
noncomputable def Lb (lo:Int):Nat->List W
 |0=>[]
 |n+1=>.int lo::Lb (lo+1) n
theorem cF: ∀ (n:Nat) (lo:Int),(Lb lo n).length=n
 |0,_=>rfl
 |n+1,lo=>by rw[Lb,Es,cF n]
theorem cG: ∀ (n:Nat) (lo:Int) (i:Nat) (w:W),(Lb lo n)[i]?=some w->w=.int (lo+i)/\i<n
 |0,_,_,_,h=>by simp [Lb] at h
 |n+1,lo,0,w,h=>by rw[Lb] at h;cases h;exact⟨by simp,Nat.succ_pos _⟩
 |n+1,lo,i+1,w,h=>by
  rw[Lb,FG] at h
  obtain⟨e,l⟩:=cG n (lo+1) i w h
  exact⟨by rw[e];congr 1;omega,by omega⟩
theorem lT {K:PySem.W.Frag}{o0:Wo}{lo:Int}{n:Nat}:J4 K o0 (Itr lo n) ⟨Lb lo n,fun _=>True⟩:=by
 refine⟨fun o X R g=>?_,fun o i w X R g e=>?_⟩
 ·show n<=(Lb lo n).length
  rw[cF];exact Em _
 ·obtain⟨rfl,hi⟩:=cG n lo i w e
  refine⟨hi,fun x H' y=>?_⟩
  obtain⟨rfl,rfl⟩:=y
  exact⟨o,rfl,rfl,Ex.refl _,R,Nx.mpr rfl⟩
def Np (l:List W):M Sr:=match l with
 |[.int j]=>gd (-(2 ^ 62)<=j/\j<2 ^ 62) (pr ⟨Lb 0 j.toNat,fun _=>True⟩)
 |_=>no
def Nq (l:List W):M Sr:=match l with
 |[.int i,.int j]=>gd (-(2 ^ 62)<=i/\i<2 ^ 62/\ -(2 ^ 62)<=j/\j<2 ^ 62) (pr ⟨Lb i (j - i).toNat,fun _=>True⟩)
 |_=>no
def Mc (f:JR->M (List W))(g:List W->M Sr):JR->M Sr:=fun ρ=>bd (f ρ) g
theorem ux {tg a:Expr}{p pos:IH}{fl:JR->M (List W)}(hg:Gl X "range")(hm:X.mg "range"=none)(ha:JA X E [a] fl)(hs:IJ [a] X.env=[(false,IG a X.env)]:=by rfl):JI X E tg (.Call (.Name "range" p) [a] [] pos) (Mc fl Np):=
 (ue hg hm ha.h hs).imp fun σ H Q h=>by
 obtain⟨o,ρ,rfl,R,S,h⟩:=h
 refine⟨o,ρ,rfl,R,S,Ps.bd h fun p x vx e1 R1 r1 h1=>?_⟩
 unfold Np at h1
 split at h1
 ·obtain⟨hz,h1⟩:=h1.gd
  unfold Rvs Rvs at r1
  obtain⟨v,r,rfl,a1,rfl⟩:=r1
  exact⟨_,by rw[Nx.mp a1],hz.1,hz.2,h1.pr R1 lT⟩
 ·exact h1.elim
theorem uw {tg a b:Expr}{p pos:IH}{fl:JR->M (List W)}(hg:Gl X "range")(hm:X.mg "range"=none)(ha:JA X E [a,b] fl)(hs:IJ [a,b] X.env=[(false,IG a X.env),(false,IG b X.env)]:=by rfl)(hs2:IJ [b] X.env=[(false,IG b X.env)]:=by rfl):
  JI X E tg (.Call (.Name "range" p) [a,b] [] pos) (Mc fl Nq):=(ud hg hm ha.h hs hs2).imp fun σ H Q h=>by
 obtain⟨o,ρ,rfl,R,S,h⟩:=h
 refine⟨o,ρ,rfl,R,S,Ps.bd h fun p x vx e1 R1 r1 h1=>?_⟩
 unfold Nq at h1
 split at h1
 ·obtain⟨hz,h1⟩:=h1.gd
  unfold Rvs Rvs Rvs at r1
  obtain⟨v,r,rfl,a1,v',r',rfl,a2,rfl⟩:=r1
  exact⟨_,_,by rw[Nx.mp a1,Nx.mp a2],hz,h1.pr R1 lT⟩
 ·exact h1.elim
def KZ (G:List Ob->Prop)(t:W->JR->Option JR)(g:JR->M Fl):List W->JR->M Fl
 |[],ρ=>gdh G (pr (.nx ρ))
 |w::l,ρ=>gdh G (match t w ρ with
  |none=>no
  |some r=>bd (g r) fun x=>match x with
   |.nx r'=>KZ G t g l r'
   |.ct r'=>KZ G t g l r'
   |.bk r'=>pr (.nx r')
   |.rt v=>pr (.rt v))
def NF (src:JR->M Sr)(t:W->JR->Option JR)(g:JR->M Fl):JR->M Fl:=fun ρ=>bd (src ρ) fun s=>KZ s.G t g s.l ρ
theorem Bz {tg iter:Expr}{body:List IK}{src:JR->M Sr}{t:W->JR->Option JR}{gT:TG}{g:JR->M Fl}{m:Nat}(hp:IT (Io X.prog X.w) X.A X.env X.xe)(hc:X.calm=true)(hi:JI X E tg iter src)(hg:PG X tg gT)(ht:J6 X.K m gT t)(hb:JSs X E body g)
  (hs: ∀x,IZ iter X.env x=pure x:=by intro _;rfl):JS X E (.For tg iter body [] pos) (NF src t g):=(AO hp hc hi.h hg hb.h hs).imp fun D σ H h=>by
 obtain⟨o,ρ,rfl,R,S,h⟩:=h
 refine⟨o,ρ,rfl,R,S,Ps.bd h fun o1 s J e1 R1 sk h1=>?_⟩
 refine⟨fun i n σ H=>n=s.l.length - i/\i<=s.l.length/\ ∃o ρ,o.H=H/\Ex o1 o/\Rel X.K o/\Re X.K o ρ σ/\Ps (cg X E) (RFl X.K) o (KZ s.G t g (s.l.drop i) ρ o.h) (DQ D),⟨_,rfl,EI _,o1,ρ,rfl,Ex.refl _,R1,S.mono R e1,h1⟩,?_⟩
 rintro i n σ H ⟨rfl,hi,o,ρ,rfl,X1,R,S,h⟩
 by_cases hlt:i<s.l.length
 ·obtain⟨w,hw⟩: ∃w,s.l[i]?=some w:=⟨_,EL hlt⟩
  have hd:s.l.drop i=w::s.l.drop (i+1):=by
   rw[F8 hlt]
   rw[EL hlt] at hw
   rw[Option.some.inj hw]
  rw[hd] at h
  unfold KZ at h
  obtain⟨hG,h⟩:=h.gdh
  obtain⟨hgo,hy⟩:=sk.go o i w X1 R hG hw
  refine .inr ⟨hgo,fun σ' H'=> ∃o ρ,o.H=H'/\Ex o1 o/\Rel X.K o/\Re X.K o ρ σ'/\Ps (cg X E) (RFl X.K) o (KZ s.G t g (s.l.drop (i+1)) ρ o.h) (DQ D),fun σ' H' q=>⟨_,by omega,rfl,hlt,q⟩,fun x H' y=>?_⟩
  obtain⟨p,rfl,eh,X2,R2,rv⟩:=hy x H' y
  cases et:t w ρ with
  |none=>rw[et] at h;exact h.elim
  |some r=>
   rw[et] at h
   obtain⟨σ2,k1,k2,_,_⟩:=ht.ok p w x ρ r σ rv (S.mono R X2) et
   refine k1 _ ?_
   have h2:Ps (cg X E) (RFl X.K) p (bd (g r) (fun x=>match x with
    |.nx r'=>KZ s.G t g (s.l.drop (i+1)) r'
    |.ct r'=>KZ s.G t g (s.l.drop (i+1)) r'
    |.bk r'=>pr (.nx r')
    |.rt v=>pr (.rt v)) p.h) (DQ D):=by rw[eh];exact h.after X2
   refine⟨p,r,rfl,R2,k2,Ps.bd h2 fun q x b e3 R3 r3 h3=>?_⟩
   cases x with
   |nx r=>obtain⟨s',rfl,re⟩:=r3;exact⟨q,r,rfl,(X1.trans X2).trans e3,R3,re,h3⟩
   |ct r=>obtain⟨s',rfl,re⟩:=r3;exact⟨q,r,rfl,(X1.trans X2).trans e3,R3,re,h3⟩
   |bk r=>obtain⟨s',rfl,re⟩:=r3;exact h3.pr R3 (b:=.nx s') ⟨s',rfl,re⟩
   |rt w=>obtain⟨v,rfl,rv⟩:=r3;exact h3.pr R3 (b:=.rt v) ⟨v,rfl,rv⟩
 ·have e:i=s.l.length:=by omega
  subst e
  rw[Hb] at h
  unfold KZ at h
  obtain⟨hG,h⟩:=h.gdh
  exact .inl ⟨sk.stop o X1 R hG,Ps.pr (b:=FlV.nx σ) h R ⟨σ,rfl,S⟩⟩
end
end
section
section
variable {X:Cx}{E:XK}{pos:IH}
def Ks (G:List Ob->Prop)(t:W->JR->Option JR)(f:JR->M Bool)(e:JR->M W)(n:Nat):List W->JR->M (List W)
 |[],ρ=>gdh G (pr [])
 |w::l,ρ=>gdh G (match t w (List.replicate n none++ρ) with
  |none=>no
  |some r=>bd (f r) fun b=>if b=true then bd (e r) fun x=>bd (Ks G t f e n l ρ) fun m=>pr (x::m) else Ks G t f e n l ρ)
def LZ (hs:List Nat)(src:JR->M Sr)(t:W->JR->Option JR)(f:JR->M Bool)(e:JR->M W)(n:Nat):JR->M (List W):=fun ρ=>
 gd ((hs.all fun i=>(ρ[i]?.join).isNone)=true) (bd (src ρ) fun s=>gd (s.l.length<=sizeLine) (Ks s.G t f e n s.l ρ))
variable {elt iter tg:Expr}{ifs:List Expr}{scope:IE}{ls:List Str}{gT:TG}{t:W->JR->Option JR}{f:JR->M Bool}{e:JR->M W}{src:JR->M Sr}{hs:List Nat}{wh:Prop}
theorem ye (ht:J6 X.K ls.length gT t){σ:St}{H:Hp}{Q:VK}(h:tF (cg X E) (LZ hs src t f e ls.length) σ H Q):Ox X.N ls (tI (cg X E) src) gT (tT (cg X E) f) (tM (cg X E) e) σ H Q:=by
 obtain⟨o,ρ,rfl,R,S,h⟩:=h
 unfold LZ at h
 obtain⟨h0,h⟩:=h.gd
 refine⟨rfl,o,ρ,rfl,R,S,Ps.bd h fun o1 s J e1 R1 sk h1=>?_⟩
 obtain⟨hz,h1⟩:=h1.gd
 have S1:=S.mono R e1
 refine⟨fun i n ys H=>n=s.l.length - i/\i<=s.l.length/\ ∃o acc,o.H=H/\Ex o1 o/\Rel X.K o/\Rvs X.K o acc ys/\acc.length<=i/\Ps (cg X E) (Rvs X.K) o (bd (Ks s.G t f e ls.length (s.l.drop i) ρ) (fun m=>pr (acc++m)) o.h) (fun vs H1=> ∀q,H1 q=none->Q (.ref q) (upd H1 q (.lst vs))),
  ⟨_,rfl,EI _,o1,[],rfl,Ex.refl _,R1,Rvs.nil,Em _,?_⟩,?_⟩
 ·have:bd (Ks s.G t f e ls.length (s.l.drop 0) ρ) (fun m=>pr ([]++m))=Ks s.G t f e ls.length s.l ρ:=by
   funext h
   rw[Hc]
   unfold bd
   cases Ks s.G t f e ls.length s.l ρ h<;>rfl
  rw[this];exact h1
 rintro i n ys H ⟨rfl,hi,o,acc,rfl,X1,R,A,ha,h⟩
 have S2:=S1.mono R1 X1
 have gs: ∀ {α β γ:Type}{r:Wo->β->γ->Prop}{m:M α}{k:α->M β}{Q':γ->Hp->Prop},Ps (cg X E) r o (bd (gdh s.G m) k o.h) Q'->s.G o.h/\Ps (cg X E) r o (bd m k o.h) Q':=fun{α β γ r m k Q'} q=>by
  have:bd (gdh s.G m) k o.h=gdh s.G (bd m k) o.h:=by
   unfold bd L2.gdh
   by_cases z:s.G o.h
   ·simp only[if_pos z]
   ·simp only[if_neg z]
  rw[this] at q
  exact q.gdh
 by_cases hlt:i<s.l.length
 ·obtain⟨w,hw⟩: ∃w,s.l[i]?=some w:=⟨_,EL hlt⟩
  have hd:s.l.drop i=w::s.l.drop (i+1):=by
   rw[F8 hlt]
   rw[EL hlt] at hw
   rw[Option.some.inj hw]
  rw[hd] at h
  unfold Ks at h
  obtain⟨hG,h⟩:=gs h
  obtain⟨hgo,hy⟩:=sk.go o i w X1 R hG hw
  refine .inr ⟨hgo,fun ys' H'=> ∃o acc,o.H=H'/\Ex o1 o/\Rel X.K o/\Rvs X.K o acc ys'/\acc.length<=i+1/\Ps (cg X E) (Rvs X.K) o (bd (Ks s.G t f e ls.length (s.l.drop (i+1)) ρ) (fun m=>pr (acc++m)) o.h) (fun vs H1=> ∀q,H1 q=none->Q (.ref q) (upd H1 q (.lst vs))),fun ys' H' q=>⟨_,by omega,rfl,hlt,q⟩,fun x H' y=>?_⟩
  obtain⟨p,rfl,eh,X2,R2,rv⟩:=hy x H' y
  cases et:t w (List.replicate ls.length none++ρ) with
  |none=>rw[et] at h;exact h.elim
  |some r=>
   rw[et] at h
   obtain⟨σ2,k1,k2,k3,k4⟩:=ht.ok p w x _ r (List.replicate ls.length none++σ) rv ((S2.mono R X2).front _) et
   refine k1 _ ⟨?_,?_,?_⟩
   ·rw[k3,List.drop_left' (by rw[FD])]
   ·rw[k4,Ep,FD]
   have h2:Ps (cg X E) (Rvs X.K) p (bd (f r) (fun b=>bd (if b=true then bd (e r) fun x=>bd (Ks s.G t f e ls.length (s.l.drop (i+1)) ρ) fun m=>pr (x::m) else Ks s.G t f e ls.length (s.l.drop (i+1)) ρ) fun m=>pr (acc++m)) p.h) (fun vs H1=> ∀q,H1 q=none->Q (.ref q) (upd H1 q (.lst vs))):=by
    rw[eh]
    rw[aa] at h
    exact h.after X2
   refine⟨p,r,rfl,R2,k2,Ps.bd h2 fun q b vb e3 R3 r3 h3=>?_⟩
   subst r3
   have A3:=(A.mono R X2).mono R2 e3
   cases b with
   |false=>
    exact Lp ⟨q,acc,rfl,(X1.trans X2).trans e3,R3,A3,by omega,h3⟩
   |true=>
    rw[if_pos rfl,aa] at h3
    refine Lq ⟨q,r,rfl,R3,k2.mono R2 e3,Ps.bd h3 fun q2 x vx e4 R4 r4 h4=>⟨?_,q2,acc++[x],rfl,((X1.trans X2).trans e3).trans e4,R4,(A3.mono R3 e4).app (Rvs.cons r4 Rvs.nil),?_,?_⟩⟩
    ·rw[(A3.mono R3 e4).len];omega
    ·rw[Ep,ER];omega
    ·rw[aa] at h4
     have ee:(fun m=>bd (pr (x::m)) fun m=>pr (acc++m))=(fun m:List W=>(pr (acc++[x]++m):M (List W))):=by
      funext m h
      show Rs.ok (acc++(x::m)) h=Rs.ok (acc++[x]++m) h
      rw[EQ];rfl
     rw[ee] at h4
     exact h4
 ·have ei:i=s.l.length:=by omega
  subst ei
  rw[Hb] at h
  unfold Ks at h
  obtain⟨hG,h⟩:=gs h
  have h:Ps (cg X E) (Rvs X.K) o (pr (acc++[]) o.h) (fun vs H1=> ∀q,H1 q=none->Q (.ref q) (upd H1 q (.lst vs))):=h
  rw[EX] at h
  exact .inl ⟨sk.stop o X1 R hG,h.pr R A⟩
structure JQ (X:Cx)(E:XK)(ifs:List Expr)(f:JR->M Bool):Prop where
 h:J1 X ifs (tT (cg X E) f)
def Mh:JR->M Bool:=fun _=>pr true
theorem za:JQ X E [] Mh:=⟨fun pins s σ H Q I h=>nj pins s σ H Q I (by
 obtain⟨o,ρ,rfl,R,S,h⟩:=h
 exact Ps.pr (b:=true) h R rfl)⟩
theorem y9 {c:Expr}(h:JT X E c f):JQ X E [c] f:=⟨yx h.h⟩
theorem dP (hcalm:X.calm=true)(S:CScope X ls scope)(hi:JI X E tg iter src)(hg: ∀C s2 H2 fp,PG (cxC X ls scope C s2 H2 fp) tg gT)(ht:J6 X.K ls.length gT t)
  (hf: ∀C s2 H2 fp,JQ (cxC X ls scope C s2 H2 fp) E ifs f)(he: ∀C s2 H2 fp,JE (cxC X ls scope C s2 H2 fp) E elt e)(hh:wh)
  (hs': ∀x,IZ iter X.env x=pure x:=by intro _;rfl):JF X E (.ListComp elt [⟨tg,iter,ifs,0⟩] scope pos) (LZ hs src t f e ls.length):=
 (nq hcalm S hi.h hg (fun C s2 H2 fp=>(hf C s2 H2 fp).h) (fun C s2 H2 fp=>(he C s2 H2 fp).h) hs').impF fun σ H Q h=>ye ht h
end
end
section
section
variable {X:Cx}{E:XK}{pos p:IH}{a b:Expr}{l:JR->M (List W)}
theorem Rvs.one {K:PySem.W.Frag}{o:Wo}{w:W}{vs:List V}(h:Rvs K o [w] vs): ∃v,vs=[v]/\Rv K o w v:=by
 unfold Rvs Rvs at h;obtain⟨v,r,rfl,h1,rfl⟩:=h;exact⟨v,rfl,h1⟩
theorem Rvs.two {K:PySem.W.Frag}{o:Wo}{w x:W}{vs:List V}(h:Rvs K o [w,x] vs): ∃v u,vs=[v,u]/\Rv K o w v/\Rv K o x u:=by
 unfold Rvs Rvs Rvs at h;obtain⟨v,r,rfl,h1,u,r2,rfl,h2,rfl⟩:=h;exact⟨v,u,rfl,h1,h2⟩
def LP (ws:List W):M W:=match ws with
 |[.str z]=>gd (z.length<=sizeLine) (pr (.int z.length))
 |[.tup l]=>pr (.int l.length)
 |[w]=>bd (LU w) fun l=>pr (.int l.length)
 |_=>no
theorem Cp:JJ X E (fun xs H Q=>(fun xs H Q=> ∃z,xs=[.str z]/\z.length<=sizeLine/\Q (.int z.length) H) xs H Q\/(fun xs H Q=> ∃p ys,xs=[.ref p]/\(SqL X.K H p ys\/SqT X.K H p ys)/\Q (.int ys.length) H) xs H Q) LP:=by
 intro o ws vs Q R rv h
 unfold LP at h
 split at h
 ·obtain⟨v,rfl,r⟩:=rv.one
  obtain⟨hz,h⟩:=h.gd
  exact .inl ⟨_,by rw[Nz.mp r],hz,h.pr R (Nx.mpr rfl)⟩
 ·obtain⟨v,rfl,r⟩:=rv.one
  unfold Rv at r
  obtain⟨a,us,rfl,s,r⟩:=r
  exact .inr ⟨a,us,rfl,.inr s,by rw[r.len];exact h.pr R (Nx.mpr rfl)⟩
 ·obtain⟨v,rfl,r⟩:=rv.one
  obtain⟨l,a,us,rfl,s,r,h⟩:=dD R r h
  exact .inr ⟨a,us,rfl,.inl s,by rw[r.len];exact h.pr R (Nx.mpr rfl)⟩
 ·exact h.elim
theorem BV (hm:X.mg "len"=none)(ha:JA X E [a] l)(hg:Gl X "len":=by rfl)(he:IJ [a] X.env=(false,IG a X.env)::IJ [] X.env:=by rfl)(hpl:(II pos (IJ [] X.env)).any (·.1)=false:=by rfl):JE X E (.Call (.Name "len" p) [a] [] pos) (LY LP l):=
 gH (Ki.or nY) Cp hg hm PySem.boot_len ha (he:=he) (hpl:=hpl)
def K9 (ws:List W):M W:=match ws with
 |[.int i]=>pr (.int i)
 |[.bl k]=>pr (.int (if k then 1 else 0))
 |[.str z]=>match PySem.intText? z with
  |some n=>gd (z.length<=640) (pr (.int n))
  |none=>no
 |_=>no
theorem Cv:JJ X E (fun xs H Q=>((∃i,xs=[.int i]/\Q (.int i) H)\/ ∃k,xs=[.bl k]/\Q (.int (if k then 1 else 0)) H)\/(fun xs H Q=> ∃ (z:Str) (n:Int),xs=[.str z]/\PySem.intText? z=some n/\z.length<=640/\Q (.int n) H) xs H Q) K9:=by
 intro o ws vs Q R rv h
 unfold K9 at h
 split at h
 ·obtain⟨v,rfl,r⟩:=rv.one
  exact .inl (.inl ⟨_,by rw[Nx.mp r],h.pr R (Nx.mpr rfl)⟩)
 ·obtain⟨v,rfl,r⟩:=rv.one
  exact .inl (.inr ⟨_,by rw[Nv.mp r],h.pr R (Nx.mpr rfl)⟩)
 ·obtain⟨v,rfl,r⟩:=rv.one
  rename_i z
  cases hn:PySem.intText? z with
  |some n=>
   rw[hn] at h
   obtain⟨hz,h⟩:=h.gd
   exact .inr ⟨_,n,by rw[Nz.mp r],hn,hz,h.pr R (Nx.mpr rfl)⟩
  |none=>rw[hn] at h;exact h.elim
 ·exact h.elim
theorem zm (hm:X.mg "int"=none)(ha:JA X E [a] l)(hg:Gl X "int":=by rfl)(he:IJ [a] X.env=(false,IG a X.env)::IJ [] X.env:=by rfl)(hpl:(II pos (IJ [] X.env)).any (·.1)=false:=by rfl):JE X E (.Call (.Name "int" p) [a] [] pos) (LY K9 l):=
 jx (Kg.or i8) Cv hg hm PyProof.Rows.boot_int ha (he:=he) (hpl:=hpl)
def Ou (ws:List W):M W:=match ws with
 |[.int i]=>gd (i.natAbs.log2<1920) (pr (.str (toString i)))
 |[.str z]=>pr (.str z)
 |_=>no
theorem Co:JJ X E (fun xs H Q=>(fun xs H Q=> ∃i,xs=[.int i]/\i.natAbs.log2<1920/\Q (.str (toString i)) H) xs H Q\/(fun xs H Q=> ∃ (z:Str),xs=[.str z]/\Q (.str z) H) xs H Q) Ou:=by
 intro o ws vs Q R rv h
 unfold Ou at h
 split at h
 ·obtain⟨v,rfl,r⟩:=rv.one
  obtain⟨hz,h⟩:=h.gd
  exact .inl ⟨_,by rw[Nx.mp r],hz,h.pr R (Nz.mpr rfl)⟩
 ·obtain⟨v,rfl,r⟩:=rv.one
  exact .inr ⟨_,by rw[Nz.mp r],h.pr R (Nz.mpr rfl)⟩
 ·exact h.elim
theorem zg (hm:X.mg "str"=none)(ha:JA X E [a] l)(hg:Gl X "str":=by rfl)(he:IJ [a] X.env=(false,IG a X.env)::IJ [] X.env:=by rfl)(hpl:(II pos (IJ [] X.env)).any (·.1)=false:=by rfl):JE X E (.Call (.Name "str" p) [a] [] pos) (LY Ou l):=
 jx (Kj.or nV) Co hg hm PyProof.Rows.boot_str ha (he:=he) (hpl:=hpl)
def J9 (ws:List W):M W:=match ws with
 |[.int i]=>pr (.int (if i<0 then -i else i))
 |_=>no
theorem B5 (hm:X.mg "abs"=none)(ha:JA X E [a] l)(hg:Gl X "abs":=by rfl)(he:IJ [a] X.env=(false,IG a X.env)::IJ [] X.env:=by rfl)(hpl:(II pos (IJ [] X.env)).any (·.1)=false:=by rfl):JE X E (.Call (.Name "abs" p) [a] [] pos) (LY J9 l):=
 gH xE (fun o ws vs Q R rv h=>by
  unfold J9 at h
  split at h
  ·obtain⟨v,rfl,r⟩:=rv.one
   exact⟨_,by rw[Nx.mp r],h.pr R (Nx.mpr rfl)⟩
  ·exact h.elim) hg hm PyProof.Rows.boot_abs ha (he:=he) (hpl:=hpl)
noncomputable def iOf:W->Option Int
 |.int i=>some i
 |_=>none
noncomputable def sOf:W->Option Str
 |.str i=>some i
 |_=>none
theorem eA {K:PySem.W.Frag}{o:Wo}{α:Type}{f:W->Option α}{g:α->V}(hf: ∀w a v,f w=some a->Rv K o w v->v=g a): ∀ {l:List W}{xs:List α}{vs:List V},MV f l=some xs->Rvs K o l vs->vs=xs.map g
 |[],xs,vs,e,h=>by unfold Rvs at h;cases e;exact h
 |w::l,xs,vs,e,h=>by
  unfold Rvs at h
  obtain⟨v,r,rfl,h1,h2⟩:=h
  unfold MV at e
  split at e
  ·rename_i d ds e1 e2
   cases e
   rw[hf w d v e1 h1,eA hf e2 h2];rfl
  ·cases e
theorem kZ {K:PySem.W.Frag}{o:Wo}: ∀ (w:W) (a:Int) (v:V),iOf w=some a->Rv K o w v->v=.int a:=fun w a v e h=>by
 cases w<;>first|(cases e;exact Nx.mp h)|cases e
theorem vK {K:PySem.W.Frag}{o:Wo}: ∀ (w:W) (a:Str) (v:V),sOf w=some a->Rv K o w v->v=.str a:=fun w a v e h=>by
 cases w<;>first|(cases e;exact Nz.mp h)|cases e
def Ow (ws:List W):M W:=match ws with
 |[w]=>bd (LU w) fun l=>match MV iOf l with
  |some ns=>pr (.int ns.sum)
  |none=>no
 |_=>no
theorem BK (hc:X.calm=true)(hm:X.mg "sum"=none)(ha:JA X E [a] l)(hg:Gl X "sum":=by rfl)(he:IJ [a] X.env=(false,IG a X.env)::IJ [] X.env:=by rfl)(hpl:(II pos (IJ [] X.env)).any (·.1)=false:=by rfl):JE X E (.Call (.Name "sum" p) [a] [] pos) (LY Ow l):=
 gH (xD hc) (fun o ws vs Q R rv h=>by
  unfold Ow at h
  split at h
  ·obtain⟨v,rfl,r⟩:=rv.one
   obtain⟨l,a,us,rfl,s,r,h⟩:=dD R r h
   cases e:MV iOf l with
   |none=>rw[e] at h;exact h.elim
   |some ns=>
    rw[e] at h
    rw[eA kZ e r] at s
    exact⟨a,ns,rfl,s,h.pr R (Nx.mpr rfl)⟩
  ·exact h.elim) hg hm PyProof.Rows.boot_sum ha (he:=he) (hpl:=hpl)
def jk (ws:List W):M W:=match ws with
 |[.tup l]=>pr (.tup l)
 |[w]=>bd (LU w) fun l=>pr (.tup l)
 |_=>no
theorem wH (hm:X.mg "tuple"=none)(ha:JA X E [a] l)(hg:Gl X "tuple":=by rfl)(he:IJ [a] X.env=(false,IG a X.env)::IJ [] X.env:=by rfl)(hpl:(II pos (IJ [] X.env)).any (·.1)=false:=by rfl):JE X E (.Call (.Name "tuple" p) [a] [] pos) (LY jk l):=
 jx lJ (fun o ws vs Q R rv h=>by
  unfold jk at h
  split at h
  ·obtain⟨v,rfl,r⟩:=rv.one
   have r0:=r
   unfold Rv at r
   obtain⟨a,us,rfl,s,r⟩:=r
   exact⟨a,us,rfl,.inr ⟨s,h.pr R r0⟩⟩
  ·obtain⟨v,rfl,r⟩:=rv.one
   obtain⟨l,a,us,rfl,s,r,h⟩:=dD R r h
   exact⟨a,us,rfl,.inl ⟨s,fun q hq=>jT R hq r h⟩⟩
  ·exact h.elim) hg hm PyProof.Rows.boot_tuple ha (he:=he) (hpl:=hpl)
def LQ (l:JR->M (List W)):JR->M (List W):=fun ρ=>bd (l ρ) fun ws=>match ws with
 |[.tup l]=>pr l
 |[w]=>LU w
 |_=>no
theorem wR {o:Wo}{w:W}{v:V}{Q:List V->Hp->Prop}(R:Rel X.K o)(hr:Rv X.K o w v)(h:Ps (cg X E) (Rvs X.K) o (LU w o.h) Q): ∃l a vs,v=.ref a/\SqL X.K o.H a vs/\Rvs X.K o l vs/\Q vs o.H:=by
 have e:LU w=bd (LU w) fun l=>pr l:=by
  funext h
  unfold bd
  cases LU w h<;>rfl
 rw[e] at h
 obtain⟨l,a,vs,e1,e2,e3,h⟩:=dD R hr h
 exact⟨l,a,vs,e1,e2,e3,h.pr R e3⟩
theorem ze (hm:X.mg "list"=none)(ha:JA X E [a] l)(hg:Gl X "list":=by rfl)(he:IJ [a] X.env=(false,IG a X.env)::IJ [] X.env:=by rfl)(hpl:(II pos (IJ [] X.env)).any (·.1)=false:=by rfl):JF X E (.Call (.Name "list" p) [a] [] pos) (LQ l):=
 (jr nX hg hm PyProof.Rows.boot_list ha.h (he:=he) (hpl:=hpl)).impF fun σ H Q h=>by
  obtain⟨o,ρ,rfl,R,S,h⟩:=h
  refine⟨o,ρ,rfl,R,S,Ps.bd h fun p x vx e1 R1 r1 h1=>?_⟩
  split at h1
  ·obtain⟨v,rfl,r⟩:=r1.one
   unfold Rv at r
   obtain⟨a,us,rfl,s,r⟩:=r
   exact⟨a,us,rfl,.inr s,h1.pr R1 r⟩
  ·obtain⟨v,rfl,r⟩:=r1.one
   obtain⟨l,a,us,rfl,s,r,q⟩:=wR R1 r h1
   exact⟨a,us,rfl,.inl s,q⟩
  ·exact h1.elim
def isS (w:W):M W:=match w with
 |.str z=>pr (.str z)
 |_=>no
def Lz (x:W)(ws:List W):M W:=match x,ws with
 |.str sep,[w]=>bd (LS w) fun l=>match MV sOf l with
  |some ts=>gd ((ts.map (·.length)).sum+ts.length * sep.length<=sizeLine) (pr (.str (Str.join sep ts)))
  |none=>no
 |_,_=>no
def L5 (chk:W->M W)(f:W->List W->M W)(fo:JR->M W)(l:JR->M (List W)):JR->M W:=fun ρ=>bd (fo ρ) fun x=>bd (chk x) fun x=>bd (l ρ) fun ws=>f x ws
variable {o e:Expr}{es:List Expr}{apos cpos:IH}{fo:JR->M W}
theorem zk (ho:JE X E o fo)(ha:JA X E [e] l)(hbase:Jb o "join" X.env (IG o X.env)=IG o X.env:=by rfl)
  (hfew:((II cpos (IJ [e] X.env)).all (fun x=>!x.1) && (Jc cpos (Jd [] X.env)).all (fun x=>x.1.isSome) && decide (([e]:List Expr).length+([]:List Jh).length+(if ([]:List Jh).isEmpty then 0 else 1)<30))=true:=by rfl)
  (hline:(apos.endLine==cpos.line)=true:=by rfl)(hs:IJ [e] X.env=(false,IG e X.env)::IJ [] X.env:=by rfl)(hplain:(II cpos (IJ [] X.env)).any (·.1)=false:=by rfl):
  JE X E (.Call (.Attribute o "join" apos) [e] [] cpos) (L5 isS Lz fo l):=
 (su PySem.F.plainAttrs_str PySem.F.slot_str_join PySem.F.type_str_join yX ho.h ha.h hbase hfew hline hs hplain).imp fun σ H Q h=>by
  obtain⟨w,ρ,rfl,R,S,h⟩:=h
  refine⟨w,ρ,rfl,R,S,Ps.bd h fun p x vx e1 R1 r1 h1=>?_⟩
  cases x with
  |str sep=>
   have h1:Ps (cg X E) (Rv X.K) p (bd (l ρ) (fun ws=>Lz (.str sep) ws) p.h) Q:=h1
   rw[Nz.mp r1]
   refine⟨rfl,p,ρ,rfl,R1,S.mono R e1,Ps.bd h1 fun q ws vs e2 R2 r2 h2=>?_⟩
   rcases ws with _|⟨w',_|⟨_,_⟩⟩
   ·exact h2.elim
   ·have h2:Ps (cg X E) (Rv X.K) q (bd (LS w') (fun l=>match MV sOf l with
     |some ts=>gd ((ts.map (·.length)).sum+ts.length * sep.length<=sizeLine) (pr (.str (Str.join sep ts)))
     |none=>no) q.h) Q:=h2
    obtain⟨v,rfl,r⟩:=r2.one
    obtain⟨l',a,us,rfl,s,r,h2⟩:=eC R2 r h2
    cases e:MV sOf l' with
    |none=>rw[e] at h2;exact h2.elim
    |some ts=>
     rw[e] at h2
     rw[eA vK e r] at s
     obtain⟨hz,h2⟩:=h2.gd
     exact⟨sep,a,ts,rfl,rfl,.of s,hz,h2.pr R2 (Nz.mpr rfl)⟩
   ·exact h2.elim
  |_=>exact h1.elim
def isL (w:W):M W:=match w with
 |.loc k=>fun h=>match h[k]? with
  |some (.lst _)=>.ok (.loc k) h
  |_=>.bad
 |_=>no
theorem Ce {α β:Type}{r:Wo->α->β->Prop}{o:Wo}{w:W}{v:V}{k:W->M α}{Q:β->Hp->Prop}(R:Rel X.K o)(hr:Rv X.K o w v)(h:Ps (cg X E) r o (bd (isL w) k o.h) Q):
  ∃j l vs,w=.loc j/\o.h[j]?=some (.lst l)/\v=.ref (o.mu j)/\j<o.h.length/\o.H (o.mu j)=some (.lst vs)/\Rvs X.K o l vs/\Ps (cg X E) r o (k (.loc j) o.h) Q:=by
 cases w with
 |loc j=>
  unfold Rv at hr
  unfold isL bd at h
  cases e:o.h[j]? with
  |none=>simp only[e] at h;exact h.elim
  |some b=>
   cases b with
   |lst l=>
    simp only[e] at h
    obtain⟨vs,h1,h2⟩:=R.ob j _ e
    exact⟨j,l,vs,rfl,e,hr.2,hr.1,h1,h2,h⟩
   |_=>simp only[e] at h;exact h.elim
 |_=>exact h.elim
def aX (x:W)(ws:List W):M W:=match x,ws with
 |.loc k,[w]=>fun h=>match h[k]? with
  |some (.lst l)=>if l.length<sizeLine then .ok .non (h.set k (.lst (l++[w]))) else .bad
  |_=>.bad
 |_,_=>no
theorem uz (ho:JE X E o fo)(ha:JA X E [e] l)(hbase:Jb o "append" X.env (IG o X.env)=IG o X.env:=by rfl)
  (hfew:((II cpos (IJ [e] X.env)).all (fun x=>!x.1) && (Jc cpos (Jd [] X.env)).all (fun x=>x.1.isSome) && decide (([e]:List Expr).length+([]:List Jh).length+(if ([]:List Jh).isEmpty then 0 else 1)<30))=true:=by rfl)
  (hline:(apos.endLine==cpos.line)=true:=by rfl)(hs:IJ [e] X.env=(false,IG e X.env)::IJ [] X.env:=by rfl)(hplain:(II cpos (IJ [] X.env)).any (·.1)=false:=by rfl):
  JE X E (.Call (.Attribute o "append" apos) [e] [] cpos) (L5 isL aX fo l):=
 (su PySem.F.plainAttrs_list PySem.F.slot_list_append PySem.F.type_list_append uu ho.h ha.h hbase hfew hline hs hplain).imp fun σ H Q h=>by
  obtain⟨w,ρ,rfl,R,S,h⟩:=h
  refine⟨w,ρ,rfl,R,S,Ps.bd h fun p x vx e1 R1 r1 h1=>?_⟩
  obtain⟨j,l0,vs0,rfl,hj,rfl,hlt,hH,hl0,h1⟩:=Ce R1 r1 h1
  refine⟨.inl ⟨rfl,vs0,.of hH⟩,p,ρ,rfl,R1,S.mono R e1,Ps.bd h1 fun q ws vs e2 R2 r2 h2=>?_⟩
  rcases ws with _|⟨w',_|⟨_,_⟩⟩
  ·exact h2.elim
  ·unfold aX at h2
   cases e:q.h[j]? with
   |none=>simp only[e] at h2;exact h2.elim
   |some b=>
    cases b with
    |lst l'=>
     simp only[e] at h2
     obtain⟨v,rfl,r⟩:=r2.one
     obtain⟨us,k1,k2⟩:=R2.ob j _ e
     by_cases z:l'.length<sizeLine
     ·rw[if_pos z] at h2
      rw[e2.mu j hlt] at k1
      refine⟨p.mu j,us,v,rfl,rfl,k1,by rw[k2.len];exact z,?_⟩
      have:=Ps.at (p:=q.put j (.lst (l'++[w'])) (.lst (us++[v]))) (b:=V.non) h2 rfl (Ex.put e (by simp)) (R2.putL e (by simp) (k2.app (Rvs.cons r Rvs.nil))) (Ny.mpr rfl)
      have em:q.mu j=p.mu j:=e2.mu j hlt
      have ew:(q.put j (.lst (l'++[w'])) (.lst (us++[v]))).H=upd q.H (p.mu j) (.lst (us++[v])):=by
       show upd q.H (q.mu j) _=_
       rw[em]
      rw[ew] at this
      exact this
     ·rw[if_neg z] at h2;exact h2.elim
    |_=>simp only[e] at h2;exact h2.elim
  ·exact h2.elim
def K7 (w:W):M W:=match w with
 |.loc k=>fun h=>match h[k]? with
  |some (.lst l)=>.ok (.tl l) (h.set k .gone)
  |some (.dic ks ws)=>.ok (.dv ks ws) (h.set k .gone)
  |some (.din b ks ws)=>.ok (.dn b ks ws) (h.set k .gone)
  |_=>.bad
 |w=>pr w
theorem Aw {f:JR->M W}{σ:St}{H:Hp}{Q:VK}(h:tM (cg X E) (m1 K7 f) σ H Q):tM (cg X E) f σ H Q:=by
 obtain⟨o,ρ,rfl,R,S,h⟩:=h
 refine⟨o,ρ,rfl,R,S,Ps.bd h fun p x vx e1 R1 r1 h1=>?_⟩
 cases x with
 |loc k=>
  unfold Rv at r1
  obtain⟨_,rfl⟩:=r1
  unfold K7 at h1
  dsimp only at h1
  split at h1
  ·rename_i l hl
   exact Ps.at (p:=p.ice k) h1 rfl Ex.ice R1.ice (Rv.iceL R1 hl)
  ·rename_i ks ws hl
   exact Ps.at (p:=p.ice k) h1 rfl Ex.ice R1.ice (Rv.iceD R1 hl)
  ·rename_i b ks ws hl
   exact Ps.at (p:=p.ice k) h1 rfl Ex.ice R1.ice (Rv.iceN R1 hl)
  ·exact h1.elim
 |_=>exact Ps.pr (c:=cg X E) h1 R1 r1
theorem rf {f:JR->M W}{e:Expr}(h:JE X E e f):JE X E e (m1 K7 f):=h.h.imp fun _ _ _ q=>Aw q
noncomputable def Mi {κ:Type} [DecidableEq κ]:List κ->List W->κ->W->List W
 |k::ks,w::ws,x,y=>(if k=x then y else w)::Mi ks ws x y
 |_,_,_,_=>[]
def Nl {κ:Type} [DecidableEq κ] (ks:List κ)(ws:List W)(x:κ)(y:W):List κ×List W:=if (ks.any fun k=>decide (k=x))=true then (ks,Mi ks ws x y) else (ks++[x],ws++[y])
def mM (x i v:W):M Unit:=match x with
 |.loc k=>fun h=>match h[k]? with
  |some (.lst l)=>match i with
   |.int n=>match ixN l.length n with
    |some j=>.ok () (h.set k (.lst (l.set j v)))
    |none=>.bad
   |_=>.bad
  |some (.dic ks ws)=>match LG i with
   |some q=>if ks.length<sizeLine then .ok () (h.set k (.dic (Nl ks ws q v).1 (Nl ks ws q v).2)) else .bad
   |none=>.bad
  |some (.dit ks ws)=>match i with
   |.kt q=>if ks.length<sizeLine then .ok () (h.set k (.dit (Nl ks ws q v).1 (Nl ks ws q v).2)) else .bad
   |_=>.bad
  |_=>.bad
 |_=>no
def rSetD:J5:=fun o i v H Q=> ∃a H',o=.ref a/\DPut H a i v H'/\Q H'
theorem vH (hu:X.A.units+1<Il):PSet X rSetD:=by
 intro pins s σ H o i v ov iv u Q I ro ri rv h
 obtain⟨a,H',rfl,g,q⟩:=h
 cases ro
 exact uR hu I g ri rv fun s4 I4=>⟨H',I4,q⟩
theorem PSet.or {t t':J5}(h:PSet X t)(h':PSet X t'):PSet X (fun o i v H Q=>t o i v H Q\/t' o i v H Q):=by
 intro pins s σ H o i v ov iv u Q I ro ri rv q
 rcases q with q|q
 ·exact h pins s σ H o i v ov iv u Q I ro ri rv q
 ·exact h' pins s σ H o i v ov iv u Q I ro ri rv q
theorem pk {κ:Type} [DecidableEq κ] {K:PySem.W.Frag}{o:Wo}{x:κ}{y:W}{v:V}(hy:Rv K o y v): ∀ {ks:List κ}{ws:List W}{kvs:List (κ×V)},kvs.map (·.1)=ks->Rvs K o ws (kvs.map (·.2))->Rvs K o (Mi ks ws x y) ((kvs.map fun kv=>if kv.1=x then (kv.1,v) else kv).map (·.2))
 |_,ws,[],e,h=>by subst e;unfold Mi;exact Rvs.nil
 |_,ws,(k,u)::r,e,h=>by
  subst e
  cases ws with
  |nil=>unfold Rvs at h;cases h
  |cons w ws=>
   unfold Rvs at h
   obtain⟨u',r',e',h1,h2⟩:=h
   cases e'
   have ih:=pk (x:=x) hy (ks:=r.map (·.1)) (ws:=ws) (kvs:=r) rfl h2
   show Rvs K o ((if k=x then y else w)::Mi (r.map (·.1)) ws x y) ((if k=x then (k,v) else (k,u)).2::_)
   by_cases z:k=x
   ·rw[if_pos z,if_pos z];exact Rvs.cons hy ih
   ·rw[if_neg z,if_neg z];exact Rvs.cons h1 ih
theorem mY {κ:Type} [DecidableEq κ] {K:PySem.W.Frag}{o:Wo}{x:κ}{y:W}{v:V}{ks:List κ}{ws:List W}{kvs:List (κ×V)}(hy:Rv K o y v)(hk:kvs.map (·.1)=ks)(h:Rvs K o ws (kvs.map (·.2))):
  (Nj kvs x v).map (·.1)=(Nl ks ws x y).1/\Rvs K o (Nl ks ws x y).2 ((Nj kvs x v).map (·.2)):=by
 subst hk
 have ea:((kvs.map (·.1)).any fun k=>decide (k=x))=(kvs.any fun kv=>decide (kv.1=x)):=by rw[List.any_map];rfl
 unfold Nj Nl
 rw[ea]
 by_cases z:(kvs.any fun kv=>decide (kv.1=x))=true
 ·rw[if_pos z,if_pos z]
  refine⟨?_,pk hy rfl h⟩
  rw[E2]
  refine FH fun kv _=>?_
  show (if kv.1=x then (kv.1,v) else kv).1=kv.1
  split<;>rfl
 ·rw[if_neg z,if_neg z]
  refine⟨by simp,?_⟩
  show Rvs K o (ws++[y]) ((kvs++[(x,v)]).map (·.2))
  rw[Et]
  exact h.app (Rvs.cons hy Rvs.nil)
def aZ (fo fi fv:JR->M W):JR->M Fl:=fun ρ=>bd (fv ρ) fun v=>bd (fo ρ) fun x=>bd (fi ρ) fun i=>bd (mM x i v) fun _=>pr (.nx ρ)
variable {i value:Expr}{tpos:IH}{fi fv:JR->M W}
theorem wF (hu:X.A.units+1<Il)(ho:JE X E o fo)(hi:JE X E i fi)(hv:JE X E value fv)
  (ha: ∀v,assign (.Subscript o i tpos) X.env v=(do
   let ov<-IQ [v] (IG o X.env)
   let iv<-IQ [v,ov] (IG i X.env)
   IP tpos
   IQ [v,ov,iv] (setItem ov iv v)
   release [v,ov,iv] []):=by intro _;rfl)
  (hs:swapsWithSole [.Subscript o i tpos] value pos.line X.env=pure false:=by rfl)(hw:swappedStores [.Subscript o i tpos] value X.env=pure none:=by rfl)
  (h1:(IS [.Subscript o i tpos] X.env).map (·.2)=[assign (.Subscript o i tpos) X.env]:=by rfl):JS X E (.Assign [.Subscript o i tpos] value pos) (aZ fo fi fv):=
 (vQ hv.h (vW ho.h hi.h (NZ.or (vH hu)) ha) hs hw h1).imp fun D σ H h=>by
  obtain⟨w,ρ,rfl,R,S,h⟩:=h
  refine⟨w,ρ,rfl,R,S,Ps.bd h fun p v vv e1 R1 r1 h1=>⟨p,ρ,rfl,R1,S.mono R e1,Ps.bd h1 fun q x vx e2 R2 r2 h2=>⟨q,ρ,rfl,R2,(S.mono R e1).mono R1 e2,Ps.bd h2 fun s i vi e3 R3 r3 h3=>?_⟩⟩⟩
  have S3:=((S.mono R e1).mono R1 e2).mono R2 e3
  have rv:=(r1.mono R1 e2).mono R2 e3
  have rx:=r2.mono R2 e3
  cases x with
  |loc k=>
   unfold Rv at rx
   obtain⟨hk,rfl⟩:=rx
   unfold mM bd at h3
   cases e:s.h[k]? with
   |none=>simp only[e] at h3;exact h3.elim
   |some b=>
    cases b with
    |ins c ns ws=>simp only[e] at h3;exact h3.elim
    |din b ks ws=>simp only[e] at h3;exact h3.elim
    |gone=>simp only[e] at h3;exact h3.elim
    |lst l=>
     simp only[e] at h3
     cases i with
     |int n=>
      simp only at h3
      cases ej:ixN l.length n with
      |none=>simp only[ej] at h3;exact h3.elim
      |some j=>
       simp only[ej] at h3
       obtain⟨us,k1,k2⟩:=R3.ob k _ e
       refine .inl ⟨_,us,n,j,rfl,Nx.mp r3,k1,by rw[k2.len];exact ej,?_⟩
       exact Ps.at (p:=s.put k (.lst (l.set j v)) (.lst (us.set j vv))) (b:=FlV.nx σ) h3 rfl (Ex.put e (by simp)) (R3.putL e (by simp) (k2.set rv j)) ⟨σ,rfl,S3.mono R3 (Ex.put e (by simp))⟩
     |_=>exact h3.elim
    |dit ks ws=>
     simp only[e] at h3
     cases i with
     |kt x=>
      simp only at h3
      by_cases z:ks.length<sizeLine
      ·simp only[if_pos z] at h3
       obtain⟨kvs,k1,k2,k3⟩:=R3.ob k _ e
       unfold Rv at r3
       obtain⟨b,rfl,hb⟩:=r3
       obtain⟨b1,b2⟩:=mY (x:=x) rv k2 k3
       refine .inr ⟨_,_,rfl,.inr ⟨kvs,x,b,k1,rfl,hb,by rw[<-k2,El] at z;exact z,rfl⟩,?_⟩
       exact Ps.at (p:=s.put k (.dit (Nl ks ws x v).1 (Nl ks ws x v).2) (.dT (Nj kvs x vv))) (b:=FlV.nx σ) h3 rfl (Ex.put e (by simp)) (R3.putT e (by simp) b1 b2) ⟨σ,rfl,S3.mono R3 (Ex.put e (by simp))⟩
      ·simp only[if_neg z] at h3;exact h3.elim
     |_=>exact h3.elim
    |dic ks ws=>
     simp only[e] at h3
     cases ej:LG i with
     |none=>simp only[ej] at h3;exact h3.elim
     |some x=>
      simp only[ej] at h3
      by_cases z:ks.length<sizeLine
      ·simp only[if_pos z] at h3
       obtain⟨kvs,k1,k2,k3⟩:=R3.ob k _ e
       rw[iY ej r3]
       obtain⟨b1,b2⟩:=mY (x:=x) rv k2 k3
       refine .inr ⟨_,_,rfl,.inl ⟨kvs,x,k1,rfl,by rw[<-k2,El] at z;exact z,rfl⟩,?_⟩
       exact Ps.at (p:=s.put k (.dic (Nl ks ws x v).1 (Nl ks ws x v).2) (.dK (Nj kvs x vv))) (b:=FlV.nx σ) h3 rfl (Ex.put e (by simp)) (R3.putD e (by simp) b1 b2) ⟨σ,rfl,S3.mono R3 (Ex.put e (by simp))⟩
      ·simp only[if_neg z] at h3;exact h3.elim
  |_=>exact h3.elim
end
end
section
def Nt (n:Nat)(g:JR->M Fl)(ws:List W):M W:=bd (g (ws.map some++List.replicate (n - ws.length) none)) fun x=>match x with
 |.rt w=>pr w
 |.nx _=>pr .non
 |_=>no
section
variable {P:Ib}{w:Ic}{K:PySem.W.Frag}{mg:Str->Option H0}{base:Ie}{x qual:Str}{st:IK}{f:Ig}{fd:Je}{N ps:List Str}{k:Nat}{g:JR->M Fl}
def Oh (K:PySem.W.Frag)(mg:Str->Option H0)(n:Nat)(f:List W->M W):Sp:=fun vs H Q _=> ∃o ws,o.H=H/\ws.length=n/\Rel K o/\Rvs K o ws vs/\Ps ⟨K,mg,E0⟩ (Rv K) o (f ws o.h) Q
theorem Aj {n m:Nat}{fn:List W->M W}(F:Fun K x qual st f fd)(S:JU N ps (ae st))(hn:N.length=n)(hm:ps.length=m)(hf:fn=Nt n g)
  (hb: ∀ (cdv:H0) (A:Ik) (outer:List Env) (s:Ii) (H:Hp) (E:XK),Room k (A.deeper (Jj qual (ae st) s.heap.objs.size f cdv))->JSs (Kw CX0 P w K mg base N qual (ae st) f cdv A outer s H E).nox E0 (bC st) g):
  FnOk P w K mg base CX0 (k+1) f fd ps (Oh K mg m fn):=by
 subst hn hm hf
 refine F.ok S (fun vs H Q E h=>?_) (fun cdv A outer s H vs Q E hr h=>?_)
 ·obtain⟨o,ws,_,hl,_,rv,_⟩:=h
  rw[rv.len,hl]
 ·obtain⟨o,ws,rfl,hl,R,rv,h⟩:=h
  refine⟨_,(hb cdv A outer s o.H E hr).h,?_⟩
  have e:Oq N vs=vs.map some++List.replicate (N.length - ws.length) none:=by unfold Oq;rw[rv.len]
  rw[e]
  refine⟨o,_,rfl,R,Re.args _ rv,Ps.bd h fun p x b e1 R1 r1 h1=>?_⟩
  cases x with
  |rt w=>obtain⟨v,rfl,r⟩:=r1;exact h1.pr R1 r
  |nx r=>obtain⟨s,rfl,r⟩:=r1;exact h1.pr R1 (Ny.mpr rfl)
  |bk r=>exact h1.elim
  |ct r=>exact h1.elim
theorem Cn {m:Nat}{fn:List W->M W}(h:∀ws h,fn ws h=.bad):FnOk P w K mg base CX0 k f fd ps (Oh K mg m fn):=by
 have no: ∀vs H Q E,¬Oh K mg m fn vs H Q E:=fun vs H Q E ⟨o,ws,_,_,_,_,q⟩=>by rw[h] at q;exact q
 exact⟨fun vs H Q E h=>absurd h (no vs H Q E),fun A outer s H args us vs Q E _ _ _ _ h=>absurd h (no vs H Q E)⟩
structure CG (P:Ib)(w:Ic)(K:PySem.W.Frag)(mg:Str->Option H0)(base:Ie)(k:Nat)(x:Str)(f:Ig)(fd:Je)(ps:List Str)(m:Nat)(fn:List W->M W):Prop where
 ok:FnOk P w K mg base CX0 k f fd ps (Oh K mg m fn)
 bi:Binds K fd ps []
 kp:HX K (.ref f)=true
 mg:mg x=some (.ref f)
end
def arW (n:Nat)(f:List W->M W)(ws:List W):M W:=if ws.length=n then f ws else no
section
variable {X:Cx}{p pos:IH}{e:Expr}{es:List Expr}{l:JR->M (List W)}{f:List W->M W}{k:Nat}{fA:Ig}{fd:Je}{ps:List Str}{x:Str}
theorem DD {m:Nat}(C:CG X.prog X.w X.K X.mg X.base k x fA fd ps m f)(hr:Room k X.A)(ha:JA X E0 (e::es) l)(hg:Gl X x:=by rfl)
  (hdb:(x==("__debug__":Str))=false:=by decide)(he:IJ (e::es) X.env=(false,IG e X.env)::IJ es X.env:=by rfl)(hpl:(II pos (IJ es X.env)).any (·.1)=false:=by rfl):
  JE X E0 (.Call (.Name x p) (e::es) [] pos) (LY (arW m f) l):=(dm C.ok hr hg C.mg C.kp C.bi .nil M0 ha.h hdb he hpl).imp fun σ H Q h=>by
 obtain⟨o,ρ,rfl,R,S,h⟩:=h
 refine⟨o,ρ,rfl,R,S,Ps.bd h fun p x vx e1 R1 r1 h1=>?_⟩
 unfold arW at h1
 by_cases z:x.length=m
 ·rw[if_pos z] at h1
  exact⟨p,x,rfl,z,R1,by rw[EX];exact r1,h1⟩
 ·rw[if_neg z] at h1
  exact h1.elim
end
section
variable {X:Cx}{E:XK}{p pos:IH}
noncomputable def chars (z:Str):List W:=z.cps.toList.map fun c=>.str ⟨#[c]⟩
def srcS (w:W):M Sr:=match w with
 |.str z=>pr ⟨chars z,fun _=>True⟩
 |_=>no
noncomputable def Mx (n:Int):List W->List W
 |[]=>[]
 |w::l=>.tup [.int n,w]::Mx (n+1) l
theorem gD: ∀ (l:List W) (n:Int),(Mx n l).length=l.length
 |[],_=>rfl
 |w::l,n=>by rw[Mx,Es,Es,gD l]
theorem gE: ∀ (l:List W) (n:Int) (i:Nat) (w:W),(Mx n l)[i]?=some w-> ∃x,l[i]?=some x/\w=.tup [.int (n+i),x]
 |[],_,_,_,h=>by simp [Mx] at h
 |x::l,n,0,w,h=>by rw[Mx] at h;cases h;exact⟨x,rfl,by simp⟩
 |x::l,n,i+1,w,h=>by
  rw[Mx,FG] at h
  obtain⟨y,e1,e2⟩:=gE l (n+1) i w h
  exact⟨y,by simpa using e1,by rw[e2];congr 3;omega⟩
def KD (ws:List W):M Sr:=match ws with
 |[w]=>bd (On w) fun s=>pr ⟨Mx 0 s.l,s.G⟩
 |_=>no
theorem rY {α β:Type}{r:Wo->α->β->Prop}{o:Wo}{w:W}{v:V}{k:Sr->M α}{Q:β->Hp->Prop}(R:Rel X.K o)(hr:Rv X.K o w v)(h:Ps (cg X E) r o (bd (On w) k o.h) Q):
  ∃s a,v=.ref a/\(∃vs,SqL X.K o.H a vs)/\(∀p,Ex o p->Rel X.K p->s.G p.h-> ∃vs,SqL X.K p.H a vs/\Rvs X.K p s.l vs)/\Ps (cg X E) r o (k s o.h) Q:=by
 cases w with
 |tl l=>
  unfold Rv at hr
  obtain⟨a,vs,rfl,s,n,r⟩:=hr
  exact⟨⟨l,fun _=>True⟩,a,rfl,⟨vs,.of s⟩,fun p X _ _=>⟨vs,.of (X.fr a _ s n).1,r.mono R X⟩,h⟩
 |cl l=>
  unfold Rv at hr
  obtain⟨a,vs,rfl,s,r⟩:=hr
  have sq: ∀q,Ex o q->SqL X.K q.H a vs:=fun q X=>by
   rcases s with⟨s,n⟩|s
   ·exact .inl (X.rd s n).1
   ·exact .inr s
  exact⟨⟨l,fun _=>True⟩,a,rfl,⟨vs,sq o (Ex.refl _)⟩,fun p X _ _=>⟨vs,sq p X,r.mono R X⟩,h⟩
 |loc j=>
  unfold Rv at hr
  obtain⟨hj,rfl⟩:=hr
  unfold On bd at h
  cases e:o.h[j]? with
  |none=>simp only[e] at h;exact h.elim
  |some b=>
   cases b with
   |lst l=>
    simp only[e] at h
    obtain⟨vs,h1,h2⟩:=R.ob j _ e
    refine⟨⟨l,fun h=>h[j]?=some (.lst l)⟩,_,rfl,⟨vs,.of h1⟩,fun p X Rp g=>?_,h⟩
    obtain⟨vs',h5,h6⟩:=Rp.ob j _ g
    rw[X.mu j hj] at h5
    exact⟨vs',.of h5,h6⟩
   |_=>simp only[e] at h;exact h.elim
 |_=>exact h.elim
theorem zd {a:Expr}{elts:List Expr}{x1}{tpos:IH}{fl:JR->M (List W)}(hm:X.mg "enumerate"=none)(ha:JA X E [a] fl)(hg:Gl X "enumerate":=by rfl)(hs:IJ [a] X.env=[(false,IG a X.env)]:=by rfl):
  JI X E (.Tuple elts x1 tpos) (.Call (.Name "enumerate" p) [a] [] pos) (Mc fl KD):=(yA hg hm ha.h hs).imp fun σ H Q h=>by
 obtain⟨o,ρ,rfl,R,S,h⟩:=h
 refine⟨o,ρ,rfl,R,S,Ps.bd h fun p x vx e1 R1 r1 h1=>?_⟩
 rcases x with _|⟨w,_|⟨_,_⟩⟩
 ·exact h1.elim
 ·have h1:Ps (cg X E) (fun p s J=>J4 X.K p J s) p (bd (On w) (fun s=>pr ⟨Mx 0 s.l,s.G⟩) p.h) Q:=h1
  obtain⟨v,rfl,r⟩:=r1.one
  obtain⟨s,a,rfl,hq,sk,h1⟩:=rY R1 r h1
  refine⟨a,rfl,hq,h1.pr R1 ⟨fun o X R g=>?_,fun o i w X R g e=>?_⟩⟩
  ·obtain⟨vs,k1,k2⟩:=sk o X R g
   exact⟨vs,k1,by rw[k2.len];exact (gD _ _).symm⟩
  ·obtain⟨vs,k1,k2⟩:=sk o X R g
   obtain⟨x,e1,rfl⟩:=gE _ _ _ _ e
   obtain⟨v,hv,rv⟩:=k2.get e1
   refine⟨⟨vs,v,k1,hv⟩,fun y H' q=>?_⟩
   obtain⟨T,z,hT,rfl,hz,rfl⟩:=q
   have:z=v:=by have:=hz vs k1;rw[hv] at this;exact (Option.some.inj this).symm
   subst this
   refine⟨⟨o.mu,o.h,upd o.H T (.tup [.int i,z])⟩,rfl,rfl,Ex.new hT,R.new hT,Rv.newT R hT (Rvs.cons (Nx.mpr (by simp)) (Rvs.cons rv Rvs.nil))⟩
 ·exact h1.elim
def sUnp (t:W->JR->Option JR)(f:JR->M W):JR->M Fl:=fun ρ=>bd (f ρ) fun w=>match t w ρ with
 |some r=>pr (.nx r)
 |none=>no
noncomputable def tyN (w:W)(h:List Ob):Option String:=match w with
 |.non=>some "NoneType"
 |.bl _=>some "bool"
 |.int _=>some "int"
 |.str _=>some "str"
 |.tl _=>some "list"
 |.loc k=>match h[k]? with
  |some (.lst _)=>some "list"
  |some (.dic _ _)=>some "dict"
  |_=>none
 |_=>none
noncomputable def isT (t c:String):Bool:=t==c||(t== "bool" && c== "int")
noncomputable def tys:List String:=["int", "str", "bool", "list", "tuple", "dict"]
def Ln (ws:List W):M W:=match ws with
 |[.tup _,.ty c]=>gd (c∈tys) (pr (.bl (isT "tuple" c)))
 |[x,.ty c]=>fun h=>match tyN x h with
  |some t=>if c∈tys then .ok (.bl (isT t c)) h else .bad
  |none=>.bad
 |_=>no
theorem wW {K:PySem.W.Frag}{t c:String}(ht:t∈ "NoneType"::tys)(hc:c∈tys):kitOne K (.type t) (.type c)=some (isT t c):=by
 simp only[tys,En,EF,or_false] at ht hc
 rcases ht with rfl|rfl|rfl|rfl|rfl|rfl|rfl<;>rcases hc with rfl|rfl|rfl|rfl|rfl|rfl<;>kernel_rfl
end
end
section
section
variable {X:Cx}{E:XK}{p pos:IH}{a b:Expr}{l:JR->M (List W)}
def rIsT (K:PySem.W.Frag):List V->Hp->VK->Prop:=fun xs H Q=> ∃ (a:Ig) (ys:List V) (c:String) (k:Bool),xs=[.ref a,.ty c]/\SqT K H a ys/\kitOne K (.type "tuple") (.type c)=some k/\Q (.bl k) H
theorem uW:CallR X (.builtin "isinstance") (rIsT X.K):=by
 intro pins s σ H xs us Q I r h
 obtain⟨a,ys,c,k,rfl,hq,e,q⟩:=h
 obtain⟨u,u',rfl,ru,ru'⟩:=OT r
 cases ru
 cases ru'
 obtain⟨its,rv,⟨o,e1,e2,n,e3⟩,hz⟩:=I.tuple hq
 exact HY PySem.W.kitx_tuple I.kIn ⟨o,e1,e2⟩ e (fun z=>nomatch z) fun tk=>⟨.bl k,H,I.tok tk,rfl,q⟩
theorem Ao {o:Wo}{w:W}{v:V}{t:String}(R:Rel X.K o)(h:Rv X.K o w v)(e:tyN w o.h=some t):J8 X.K o.H v (.type t)/\t∈ "NoneType"::tys:=by
 cases w with
 |non=>cases e;rw[Ny.mp h];exact⟨.non,by decide⟩
 |bl _=>cases e;rw[Nv.mp h];exact⟨.bl _,by decide⟩
 |int _=>cases e;rw[Nx.mp h];exact⟨.int _,by decide⟩
 |str _=>cases e;rw[Nz.mp h];exact⟨.str _,by decide⟩
 |tl _=>cases e;unfold Rv at h;obtain⟨a,vs,rfl,s,_⟩:=h;exact⟨.lst s,by decide⟩
 |loc k=>
  unfold Rv at h
  obtain⟨_,rfl⟩:=h
  unfold tyN at e
  dsimp only at e
  split at e
  ·rename_i l hl
   cases e
   obtain⟨vs,h1,_⟩:=R.ob k _ hl
   exact⟨.lst h1,by decide⟩
  ·rename_i ks ws hl
   cases e
   obtain⟨vs,h1,_⟩:=R.ob k _ hl
   exact⟨.dK h1,by decide⟩
  ·cases e
 |_=>cases e
theorem BY (hm:X.mg "isinstance"=none)(ha:JA X E [a,b] l)(hg:Gl X "isinstance":=by rfl)(he:IJ [a,b] X.env=(false,IG a X.env)::IJ [b] X.env:=by rfl)(hpl:(II pos (IJ [b] X.env)).any (·.1)=false:=by rfl):JE X E (.Call (.Name "isinstance" p) [a,b] [] pos) (LY Ln l):=
 gH (Kh.or uW) (fun o ws vs Q R rv h=>by
  unfold Ln at h
  split at h
  ·rename_i l c
   obtain⟨v,u,rfl,r1,r2⟩:=rv.two
   obtain⟨hc,h⟩:=h.gd
   unfold Rv at r1
   obtain⟨a,us,rfl,s,r⟩:=r1
   rw[NB.mp r2]
   exact .inr ⟨a,us,c,_,rfl,s,wW (by decide) hc,h.pr R (Nv.mpr rfl)⟩
  ·rename_i x c _
   obtain⟨v,u,rfl,r1,r2⟩:=rv.two
   dsimp only at h
   cases e:tyN x o.h with
   |none=>rw[e] at h;exact h.elim
   |some t=>
    rw[e] at h
    by_cases hc:c∈tys
    ·simp only[if_pos hc] at h
     obtain⟨ty,hm⟩:=Ao R r1 e
     rw[NB.mp r2]
     exact .inl ⟨v,.ty c,.type c,.type t,_,rfl,rfl,ty,wW hm hc,Ps.pr (c:=cg X E) (r:=Rv X.K) (a:=W.bl (isT t c)) h R (Nv.mpr rfl)⟩
    ·simp only[if_neg hc] at h;exact h.elim
  ·exact h.elim) hg hm PyProof.Rows.boot_isinstance ha (he:=he) (hpl:=hpl)
theorem Ds {x:Str}{T:String}(hm:X.mg x=none)(hv:ID x=some (.type T))(hg:Gl X x:=by rfl)(hn:x≠ "__name__":=by decide)(hd:(x==("__debug__":Str))=false:=by decide):JE X E (.Name x pos) (mC (.ty T)):=
 (yC (v:=.ty T) hg hm hv rfl hn hd).imp fun _ _ _ h=>tW (fun o=>NB.mpr rfl) h
theorem Rv.addLoc {K:PySem.W.Frag}{o:Wo}{q:Ig}{b:Ob}{u:HO}:Rv K (o.add q b u) (.loc o.h.length) (.ref q):=by
 unfold Rv
 exact⟨by show _<(o.h++[b]).length;simp,by show V.ref q=V.ref (if o.h.length=o.h.length then q else _);rw[if_pos rfl]⟩
end
end
section
section
variable {X:Cx}{E:XK}{p pos:IH}{a b c:Expr}{fa fb fc:JR->M W}
def aU (f g:W->W->M W)(fa fb fc:JR->M W):JR->M W:=fun ρ=>bd (fa ρ) fun x=>bd (fb ρ) fun y=>bd (f x y) fun z=>bd (asB z) fun k=>if k=true then bd (fc ρ) fun w=>g y w else pr (.bl false)
theorem vo {r r':R2}{f g:W->W->M W}(hf: ∀ (o:Wo) (x y:W) (vx vy:V) (Q:VK),Rel X.K o->Rv X.K o x vx->Rv X.K o y vy->Ps (cg X E) (Rv X.K) o (f x y o.h) Q->r vx vy o.H Q)(hg:OpM X E r' g){σ:St}{H:Hp}{Q:VK}(h:tM (cg X E) (aU f g fa fb fc) σ H Q):vp r r' (tM (cg X E) fa) (tM (cg X E) fb) (tM (cg X E) fc) σ H Q:=by
 obtain⟨o,ρ,rfl,R,S,h⟩:=h
 refine⟨o,ρ,rfl,R,S,Ps.bd h fun p x vx e1 R1 r1 h1=>⟨p,ρ,rfl,R1,S.mono R e1,Ps.bd h1 fun q y vy e2 R2 r2 h2=>hf q x y vx vy _ R2 (r1.mono R1 e2) r2 (Ps.bd h2 fun s z vz e3 R3 r3 h3=>?_)⟩⟩
 obtain⟨k,rfl,rfl,h3⟩:=xO r3 h3
 refine⟨k,rfl,?_⟩
 cases k with
 |false=>exact Lp (h3.pr R3 (Nv.mpr rfl))
 |true=>exact Lq ⟨s,ρ,rfl,R3,((S.mono R e1).mono R1 e2).mono R2 e3,Ps.bd h3 fun u w vw e4 R4 r4 h4=>hg u y w vy vw Q R4 ((r2.mono R2 e3).mono R3 e4) r4 h4⟩
theorem wD {op op':CmpOp}{r r':R2}{f g:W->W->M W}(ho:OpR X (IM op) r)(hf:OpM X E r f)(ho':OpR X (IM op') r')(hg:OpM X E r' g)(ha:JE X E a fa)(hb:JE X E b fb)(hc:JE X E c fc)
 (hm:lastMarks [op,op'] [b,c]=false:=by with_unfolding_all rfl):JT X E (.Compare a [op,op'] [b,c] pos) (mB (aU f g fa fb fc)):=(vP ho ho' ha.h hb.h hc.h hm).imp fun _ _ _ h=>vo hf hg (Ax h)
end
section
variable {es:List Expr}{env:Env}{pos:IH}
theorem Bq:(II pos (IJ [] env)).any (·.1)=false:=by rfl
theorem yT {e:Expr}(hs:IJ (e::es) env=(false,IG e env)::IJ es env)(h:(II pos (IJ es env)).any (·.1)=false):(II pos (IJ (e::es) env)).any (·.1)=false:=by
 rw[hs]
 show ((false||(II pos (IJ es env)).any (·.1)):Bool)=false
 rw[h];rfl
end
section
variable {P:Ib}{w:Ic}{K:PySem.W.Frag}{mg:Str->Option H0}{base:Ie}{x:Str}{f:Ig}{fd:Je}{ps:List Str}{k:Nat}{sp:Sp}{fn:List W->M W}
theorem xj (F:FnOk P w K mg base (CXx P w) k f fd ps sp){sp':Sp}(h:∀vs H Q E,sp' vs H Q E->sp vs H Q E0):FnOk P w K mg base CX0 k f fd ps sp':=
 ⟨fun vs H Q E q=>F.len vs H Q E0 (h _ _ _ _ q),fun A outer s H args us vs Q E hr he hb hv hs=>Jf (F.run A outer s H args us vs Q E0 hr he hb hv (h _ _ _ _ hs)) fun r s' q=>by
  cases r with
  |ok fl=>cases fl<;>exact q
  |error e=>
   obtain⟨_,_,_,_,_,_,_,_,_,_,_,_,_,_,z⟩:=q
   exact z.elim⟩
theorem oH {o:Wo}{ws:List W}{Q:VK}{wv:W}{v:V}{H':Hp}(R:Rel K o)(g:Same o.H H')(hv:Rv K ⟨o.mu,o.h,H'⟩ wv v)(h:Ps ⟨K,mg,E0⟩ (Rv K) o (pr wv o.h) Q):Q v H':=
 Ps.at (p:=⟨o.mu,o.h,H'⟩) h rfl (Ex.same g) (R.same g) hv
end
end
section
section
variable {X:Cx}{E:XK}{p pos:IH}{a b:Expr}{l:JR->M (List W)}{CF:Ig}{raised:List Str}
variable {x n f:Str}{e b0:Expr}{es:List Expr}{s0:IK}{suite:List IK}{np hpos tpos epos:IH}{fn:List W->M W}{g:JR->M Fl}{k i m:Nat}{fA:Ig}{fd:Je}{ps:List Str}
def Km (fa fb:JR->M W):JR->M (List W):=fun ρ=>bd (fa ρ) fun x=>bd (fb ρ) fun y=>bd (LS x) fun a=>bd (LS y) fun b=>gd (a.length+b.length<=sizeLine) (pr (a++b))
theorem BH {fa fb:JR->M W}(ha:JE X E a fa)(hb:JE X E b fb):JF X E (.BinOp a .Add b pos) (Km fa fb):=(sr wb ha.h hb.h).impF fun σ H Q h=>by
 obtain⟨o,ρ,rfl,R,S,h⟩:=h
 refine⟨o,ρ,rfl,R,S,Ps.bd h fun p x vx e1 R1 r1 h1=>⟨p,ρ,rfl,R1,S.mono R e1,Ps.bd h1 fun q y vy e2 R2 r2 h2=>?_⟩⟩
 obtain⟨l,a,vs,rfl,s1,r3,h3⟩:=eC R2 (r1.mono R1 e2) h2
 obtain⟨m,b,us,rfl,s2,r4,h4⟩:=eC R2 r2 h3
 obtain⟨hz,h4⟩:=h4.gd
 exact⟨a,b,vs,us,rfl,rfl,s1,s2,by rw[r3.len,r4.len];exact hz,h4.pr R2 (r3.app r4)⟩
end
end
end L2
namespace L2
open PySem
theorem dG {α β:Type}{f:M α}{g:α->M β}{h h':List Ob}{a:α}(e:f h=.ok a h'):bd f g h=g a h':=by unfold bd;rw[e]
@[simp] theorem bd_pr {α β:Type}(a:α)(g:α->M β):bd (pr a) g=g a:=rfl
@[simp] theorem bd_no {α β:Type}(g:α->M β):bd (no:M α) g=no:=rfl
theorem ag {α:Type}{p:Prop} [Decidable p] {m:M α}(hp:p):gd p m=m:=by funext h;unfold gd;rw[if_pos hp]
@[simp] theorem addW_int (i j:Int):Ka (.int i) (.int j)=pr (.int (i+j)):=rfl
theorem xU {a b:Str}(h:a.length+b.length<=sizeLine):Ka (.str a) (.str b)=pr (.str (a++b)):=by unfold Ka;exact ag h
@[simp] theorem subW_int (i j:Int):Ov (.int i) (.int j)=pr (.int (i - j)):=ag trivial
theorem iU {i j:Int}(h:JG i j):Mo (.int i) (.int j)=pr (.int (i * j)):=by unfold Mo;exact ag h
theorem wB {i j:Int}(h1: -(2 ^ 64)<i)(h2:i<2 ^ 64):JG i j:=.inl (.inl ⟨h1,h2⟩)
theorem wA {i j:Int}(h1: -(2 ^ 64)<j)(h2:j<2 ^ 64):JG i j:=.inl (.inr ⟨h1,h2⟩)
theorem bX {i j:Int}(h1:0<j)(h2:j<2 ^ 200):KP (.int i) (.int j)=pr (.int (i / j)):=ag ⟨h1,h2⟩
theorem ak {i j:Int}(h1:0<j):Mm (.int i) (.int j)=pr (.int (i % j)):=ag h1
theorem kE {i j:Int}(h:JH i j):Nb (.int i) (.int j)=pr (.int (i ^ j.toNat)):=ag h
@[simp] theorem ltW_int (i j:Int):ltW (.int i) (.int j)=pr (.bl (decide (i<j))):=ag trivial
@[simp] theorem leW_int (i j:Int):leW (.int i) (.int j)=pr (.bl (decide (i<=j))):=ag trivial
@[simp] theorem gtW_int (i j:Int):gtW (.int i) (.int j)=pr (.bl (decide (j<i))):=ag trivial
@[simp] theorem geW_int (i j:Int):geW (.int i) (.int j)=pr (.bl (decide (j<=i))):=ag trivial
@[simp] theorem asB_bl (b:Bool):asB (.bl b)=pr b:=rfl
@[simp] theorem eqW_int (i j:Int):eqW (.int i) (.int j)=pr (.bl (decide (i=j))):=by
  funext h
  show Rs.ok (W.bl (decide (V.int i=V.int j))) h=Rs.ok (W.bl (decide (i=j))) h
  congr 2
  rw[decide_eq_decide]
  exact⟨V.int.inj,congrArg _⟩
@[simp] theorem eqW_str (i j:Str):eqW (.str i) (.str j)=pr (.bl (decide (i=j))):=by
  funext h
  show Rs.ok (W.bl (decide (V.str i=V.str j))) h=Rs.ok (W.bl (decide (i=j))) h
  congr 2
  rw[decide_eq_decide]
  exact⟨V.str.inj,congrArg _⟩
@[simp] theorem neW_int (i j:Int):neW (.int i) (.int j)=pr (.bl (!decide (i=j))):=by
  funext h
  show Rs.ok (W.bl (!decide (V.int i=V.int j))) h=Rs.ok (W.bl (!decide (i=j))) h
  congr 3
  rw[decide_eq_decide]
  exact⟨V.int.inj,congrArg _⟩
@[simp] theorem neW_str (i j:Str):neW (.str i) (.str j)=pr (.bl (!decide (i=j))):=by
  funext h
  show Rs.ok (W.bl (!decide (V.str i=V.str j))) h=Rs.ok (W.bl (!decide (i=j))) h
  congr 3
  rw[decide_eq_decide]
  exact⟨V.str.inj,congrArg _⟩
@[simp] theorem neW_bl (i j:Bool):neW (.bl i) (.bl j)=pr (.bl (!decide (i=j))):=by
  funext h
  show Rs.ok (W.bl (!decide (V.bl i=V.bl j))) h=Rs.ok (W.bl (!decide (i=j))) h
  congr 3
  rw[decide_eq_decide]
  exact⟨V.bl.inj,congrArg _⟩
theorem bP {l:List W}{i:Int}{w:W}(h:atI l i=some w):ixW (.tl l) (.int i)=pr w:=by
 funext hh
 unfold ixW
 have:ixO (.tl l) (.int i) hh=some w:=h
 rw[this];rfl
theorem fH {l:List W}{i:Int}{w:W}(h:atI l i=some w):ixW (.tup l) (.int i)=pr w:=by
 funext hh
 unfold ixW
 have:ixO (.tup l) (.int i) hh=some w:=h
 rw[this];rfl
@[simp] theorem slW_tl (l:List W)(lo hi:Option Int):slW (.tl l) lo hi=pr (.tl (Kv l lo hi)):=rfl
@[simp] theorem slW_cl (l:List W)(lo hi:Option Int):slW (.cl l) lo hi=pr (.tl (Kv l lo hi)):=rfl
@[simp] theorem lenW_tl (l:List W):LP [.tl l]=pr (.int l.length):=rfl
@[simp] theorem lenW_tup (l:List W):LP [.tup l]=pr (.int l.length):=rfl
theorem xR {n:Nat}{f:List W->M W}{ws:List W}(h:ws.length=n):arW n f ws=f ws:=if_pos h
theorem vA {i:Int}(h:i.natAbs.log2<1920):Ou [.int i]=pr (.str (toString i)):=ag h
theorem gG {α:Type}(f:α->W)(l:List α)(d:α){i:Int}(h0:0<=i)(h:i<l.length):atI (l.map f) i=some (f (l.getD i.toNat d)):=by
 have hi:i.toNat<l.length:=by omega
 have e:atI (l.map f) ((i.toNat:Nat):Int)=some (f (l.getD i.toNat d)):=jc (by rw[ED,EL hi,Hy,EL hi];rfl)
 have e2:((i.toNat:Nat):Int)=i:=by omega
 rw[e2] at e;exact e
theorem aO {α:Type}{xs:List α}{i:Int}{v:α}(h0:0<=i)(h:xs[i.toNat]?=some v):atI xs i=some v:=by
 have q:=jc h
 have e:((i.toNat:Nat):Int)=i:=by omega
 rw[e] at q;exact q
def KR:Fl->M W:=fun x=>match x with
 |.rt w=>pr w
 |.nx _=>pr .non
 |_=>no
theorem gdn0 {α:Type}(m:M α):gd (0<=sizeLine) m=m:=ag (by decide)
theorem gdn1 {α:Type}(m:M α):gd (0+1<=sizeLine) m=m:=ag (by decide)
theorem gdn2 {α:Type}(m:M α):gd (0+1+1<=sizeLine) m=m:=ag (by decide)
theorem gdn3 {α:Type}(m:M α):gd (0+1+1+1<=sizeLine) m=m:=ag (by decide)
theorem gdn4 {α:Type}(m:M α):gd (0+1+1+1+1<=sizeLine) m=m:=ag (by decide)
theorem gdn5 {α:Type}(m:M α):gd (0+1+1+1+1+1<=sizeLine) m=m:=ag (by decide)
theorem gdn6 {α:Type}(m:M α):gd (0+1+1+1+1+1+1<=sizeLine) m=m:=ag (by decide)
theorem gdn7 {α:Type}(m:M α):gd (0+1+1+1+1+1+1+1<=sizeLine) m=m:=ag (by decide)
theorem gdn8 {α:Type}(m:M α):gd (0+1+1+1+1+1+1+1+1<=sizeLine) m=m:=ag (by decide)
theorem gdn9 {α:Type}(m:M α):gd (0+1+1+1+1+1+1+1+1+1<=sizeLine) m=m:=ag (by decide)
theorem gdn10 {α:Type}(m:M α):gd (0+1+1+1+1+1+1+1+1+1+1<=sizeLine) m=m:=ag (by decide)
theorem gdn11 {α:Type}(m:M α):gd (0+1+1+1+1+1+1+1+1+1+1+1<=sizeLine) m=m:=ag (by decide)
theorem gdn12 {α:Type}(m:M α):gd (0+1+1+1+1+1+1+1+1+1+1+1+1<=sizeLine) m=m:=ag (by decide)
theorem gdn13 {α:Type}(m:M α):gd (0+1+1+1+1+1+1+1+1+1+1+1+1+1<=sizeLine) m=m:=ag (by decide)
theorem gdn14 {α:Type}(m:M α):gd (0+1+1+1+1+1+1+1+1+1+1+1+1+1+1<=sizeLine) m=m:=ag (by decide)
theorem gdn15 {α:Type}(m:M α):gd (0+1+1+1+1+1+1+1+1+1+1+1+1+1+1+1<=sizeLine) m=m:=ag (by decide)
theorem gdn16 {α:Type}(m:M α):gd (0+1+1+1+1+1+1+1+1+1+1+1+1+1+1+1+1<=sizeLine) m=m:=ag (by decide)
theorem gdn17 {α:Type}(m:M α):gd (0+1+1+1+1+1+1+1+1+1+1+1+1+1+1+1+1+1<=sizeLine) m=m:=ag (by decide)
theorem gdn18 {α:Type}(m:M α):gd (0+1+1+1+1+1+1+1+1+1+1+1+1+1+1+1+1+1+1<=sizeLine) m=m:=ag (by decide)
theorem gdn19 {α:Type}(m:M α):gd (0+1+1+1+1+1+1+1+1+1+1+1+1+1+1+1+1+1+1+1<=sizeLine) m=m:=ag (by decide)
theorem gdn20 {α:Type}(m:M α):gd (0+1+1+1+1+1+1+1+1+1+1+1+1+1+1+1+1+1+1+1+1<=sizeLine) m=m:=ag (by decide)
theorem gdn21 {α:Type}(m:M α):gd (0+1+1+1+1+1+1+1+1+1+1+1+1+1+1+1+1+1+1+1+1+1<=sizeLine) m=m:=ag (by decide)
theorem gdn22 {α:Type}(m:M α):gd (0+1+1+1+1+1+1+1+1+1+1+1+1+1+1+1+1+1+1+1+1+1+1<=sizeLine) m=m:=ag (by decide)
theorem gdn23 {α:Type}(m:M α):gd (0+1+1+1+1+1+1+1+1+1+1+1+1+1+1+1+1+1+1+1+1+1+1+1<=sizeLine) m=m:=ag (by decide)
theorem gdn24 {α:Type}(m:M α):gd (0+1+1+1+1+1+1+1+1+1+1+1+1+1+1+1+1+1+1+1+1+1+1+1+1<=sizeLine) m=m:=ag (by decide)
theorem cy {α:Type}{m:M α}{inst:Decidable (true=true)}: @gd α (true=true) inst m=m:= @ag α (true=true) inst m rfl
theorem aw {src:JR->M Sr}{t:W->JR->Option JR}{f:JR->M Bool}{e:JR->M W}{n:Nat}{ρ:JR}:LZ [] src t f e n ρ=bd (src ρ) fun s=>gd (s.l.length<=sizeLine) (Ks s.G t f e n s.l ρ):=by unfold LZ;exact ag rfl
section
theorem pW {t:W->JR->Option JR}{f:JR->M Bool}{e:JR->M W}{n:Nat}{ρ:JR}{b:W->Bool}{v:W->W}: ∀ {l:List W},(∀w∈l,∃r,t w (List.replicate n none++ρ)=some r/\f r=pr (b w)/\(b w=true->e r=pr (v w)))->Ks (fun _=>True) t f e n l ρ=pr ((l.filter b).map v)
 |[],_=>by unfold Ks;rw[pK];rfl
 |w::l,h=>by
  obtain⟨r,h1,h2,h3⟩:=h w Eo
  have ih:=pW (l:=l) fun x hx=>h x (EA _ hx)
  unfold Ks
  rw[pK,h1]
  dsimp only
  rw[h2,bd_pr]
  by_cases hb:b w=true
  ·rw[if_pos hb,h3 hb,bd_pr,ih,bd_pr,List.filter_cons_of_pos hb];rfl
  ·rw[if_neg hb,ih,Hz hb]
theorem iQ {α:Type}{f:W->Option α}{g:α->W}(hf: ∀a,f (g a)=some a): ∀l:List α,MV f (l.map g)=some l
 |[]=>rfl
 |a::l=>by
  show (match f (g a),MV f (l.map g) with
   |some b,some r=>some (b::r)
   |_,_=>none)=_
  rw[hf,iQ hf l]
theorem gR {β:Type}{α:Type}{f:W->Option β}{g:α->W}{k:α->β}(hf: ∀a,f (g a)=some (k a)): ∀l:List α,MV f (l.map g)=some (l.map k)
 |[]=>rfl
 |a::l=>by
  show (match f (g a),MV f (l.map g) with
   |some b,some r=>some (b::r)
   |_,_=>none)=_
  rw[hf,gR hf l];rfl
theorem dY {α:Type}{g:α->W}{k:α->V}(hf: ∀a,vOf (g a)=some (k a)): ∀l:List α,OU (l.map g)=some (l.map k)
 |[]=>rfl
 |a::l=>by
  show (match vOf (g a),OU (l.map g) with
   |some v,some vs=>some (v::vs)
   |_,_=>none)=_
  rw[hf,dY hf l];rfl
theorem wX {sep:Str}{ts:List Str}(h:(ts.map (·.length)).sum+ts.length * sep.length<=sizeLine):Lz (.str sep) [.tl (ts.map W.str)]=pr (.str (Str.join sep ts)):=by
 have e:Lz (.str sep) [.tl (ts.map W.str)]=(match MV sOf (ts.map W.str) with
  |some (ts:List Str)=>gd ((ts.map (fun z:Str=>z.length)).sum+ts.length * sep.length<=sizeLine) (pr (W.str (Str.join sep ts)))
  |none=>no):=rfl
 rw[e,iQ (f:=sOf) (g:=W.str) (fun a=>rfl)]
 exact ag h
theorem CI {l m:List W}{ds es:List Jt}{h:List Ob}(h1:MV (Kx h 49) l=some ds)(h2:MV (Kx h 49) m=some es)(c1:Jt.canLayAll0 ds=true)(c2:Jt.canLayAll0 es=true):eqB (.tl l) (.tl m) h=some (Jt.eqvAll ds es):=by
 show (match (MV (Kx h 49) l).map Jt.list,(MV (Kx h 49) m).map Jt.list with
  |some d,some e=>if d.canLay0=true/\e.canLay0=true then some (Jt.eqv d e) else none
  |_,_=>none)=_
 rw[h1,h2]
 show (if (Jt.list ds).canLay0=true/\(Jt.list es).canLay0=true then some (Jt.eqv (.list ds) (.list es)) else none)=_
 rw[if_pos ⟨by rw[Jt.canLay0];exact c1,by rw[Jt.canLay0];exact c2⟩,Jt.eqv]
theorem xo {l m:List W}{ds es:List Jt}{h:List Ob}(h1:MV (Kx h 49) l=some ds)(h2:MV (Kx h 49) m=some es)(c1:Jt.canLayAll0 ds=true)(c2:Jt.canLayAll0 es=true):eqB (.tup l) (.tup m) h=some (Jt.eqvAll ds es):=by
 show (match (MV (Kx h 49) l).map Jt.tuple,(MV (Kx h 49) m).map Jt.tuple with
  |some d,some e=>if d.canLay0=true/\e.canLay0=true then some (Jt.eqv d e) else none
  |_,_=>none)=_
 rw[h1,h2]
 show (if (Jt.tuple ds).canLay0=true/\(Jt.tuple es).canLay0=true then some (Jt.eqv (.tuple ds) (.tuple es)) else none)=_
 rw[if_pos ⟨by rw[Jt.canLay0];exact c1,by rw[Jt.canLay0];exact c2⟩,Jt.eqv]
theorem xm {x y:W}{b:Bool}(h:∀h,eqB x y h=some b):eqW x y=pr (.bl b):=by funext hh;unfold eqW;rw[h];rfl
theorem xC {α:Type}{k:α->Jt}: ∀ (l:List α),(∀a∈l,(k a).canLay0=true)->Jt.canLayAll0 (l.map k)=true
 |[],_=>by rw[EV,Jt.canLayAll0]
 |a::l,h=>by rw[Er,Jt.canLayAll0,h a Eo,xC l fun b hb=>h b (EA _ hb)];rfl
theorem hU (a b:Str):(a++b).cps.toList=a.cps.toList++b.cps.toList:=by
 show (a.cps++b.cps).toList=_
 rw[Array.toList_append]
theorem qX {x:Str}{ss:List Str}:cx (.str x) (.tl (ss.map W.str))=pr (.bl (!decide (x∈ss))):=by
 funext h
 unfold cx
 have e:inB (.str x) (.tl (ss.map W.str)) h=some (decide (x∈ss)):=by
  show (match vOf (.str x),OU (ss.map W.str) with
   |some v,some vs=>some (inV v vs)
   |_,_=>none)=_
  rw[dY (k:=V.str) (fun a=>rfl)]
  show some (inV (.str x) (ss.map V.str))=_
  congr 1
  unfold inV
  rw[Fg,Gv,decide_eq_true_eq]
  constructor
  ·rintro⟨v,hv,q⟩
   obtain⟨y,hy,rfl⟩:=EB.mp hv
   have:y=x:=by simpa [eqV] using q
   subst this;exact hy
  ·intro q
   exact⟨.str x,EB.mpr ⟨x,q,rfl⟩,by simp [eqV]⟩
 rw[e];rfl
end
end L2
namespace L2
open PySem PySem.Spec PyProof.Rows
section
variable {X:Cx}{E:XK}{p pos:IH}
def KE (ws:List W):M Sr:=match ws with
 |[w]=>bd (Oo w) fun s=>pr ⟨Mx 0 s.l,s.G⟩
 |_=>no
theorem wG {a:Expr}{elts:List Expr}{x1}{tpos:IH}{fl:JR->M (List W)}(hm:X.mg "enumerate"=none)(ha:JA X E [a] fl)(hg:Gl X "enumerate":=by rfl)(hs:IJ [a] X.env=[(false,IG a X.env)]:=by rfl):
  JI X E (.Tuple elts x1 tpos) (.Call (.Name "enumerate" p) [a] [] pos) (Mc fl KE):=(vV hg hm ha.h hs).imp fun σ H Q h=>by
 obtain⟨o,ρ,rfl,R,S,h⟩:=h
 refine⟨o,ρ,rfl,R,S,Ps.bd h fun p x vx e1 R1 r1 h1=>?_⟩
 rcases x with _|⟨w,_|⟨_,_⟩⟩
 ·exact h1.elim
 ·have h1:Ps (cg X E) (fun p s J=>J4 X.K p J s) p (bd (Oo w) (fun s=>pr ⟨Mx 0 s.l,s.G⟩) p.h) Q:=h1
  obtain⟨v,rfl,r⟩:=r1.one
  cases w with
  |tup l=>
   unfold Rv at r
   obtain⟨a,vs,rfl,s,r⟩:=r
   have h1:Ps (cg X E) (fun p s J=>J4 X.K p J s) p (pr ⟨Mx 0 l,fun _=>True⟩ p.h) Q:=h1
   refine⟨a,rfl,⟨vs,s⟩,h1.pr R1 ⟨fun o X R g=>⟨vs,X.rdT R1 s,by rw[r.len];exact (gD _ _).symm⟩,fun o i w X R g e=>?_⟩⟩
   obtain⟨x,e1,rfl⟩:=gE _ _ _ _ e
   obtain⟨v,hv,rv⟩:=(r.mono R1 X).get e1
   have sq:=X.rdT R1 s
   refine⟨⟨vs,v,sq,hv⟩,fun y H' q=>?_⟩
   obtain⟨T,z,hT,rfl,hz,rfl⟩:=q
   have:z=v:=by have:=hz vs sq;rw[hv] at this;exact (Option.some.inj this).symm
   subst this
   refine⟨⟨o.mu,o.h,upd o.H T (.tup [.int i,z])⟩,rfl,rfl,Ex.new hT,R.new hT,Rv.newT R hT (Rvs.cons (Nx.mpr (by simp)) (Rvs.cons rv Rvs.nil))⟩
  |_=>exact h1.elim
 ·exact h1.elim
variable {o e:Expr}{apos cpos:IH}{fo:JR->M W}{l:JR->M (List W)}
end
end L2
namespace L2
open PySem
theorem aV {α β:Type}(a:α)(g:α->M β):bd (pr a) g=g a:=funext fun h=>dG (f:=pr a) (a:=a) (h:=h) (h':=h) rfl
def Ok {α:Type}(m:M α)(h:List Ob)(Q:α->List Ob->Prop):Prop:= ∃a h',m h=.ok a h'/\Q a h'
section
variable {α β:Type}{m:M α}{k:α->M β}{h h':List Ob}{a:α}
theorem Ok.imp {P Q:α->List Ob->Prop}(p:Ok m h P)(q:∀a h',P a h'->Q a h'):Ok m h Q:=let ⟨a,h',e,r⟩:=p;⟨a,h',e,q a h' r⟩
theorem aD {P:α->List Ob->Prop}{Q:β->List Ob->Prop}(p:Ok m h P)(q:∀a h',P a h'->Ok (k a) h' Q):Ok (bd m k) h Q:=by
 obtain⟨a,h',e,r⟩:=p
 obtain⟨b,h2,e2,r2⟩:=q a h' r
 exact⟨b,h2,(dG e).trans e2,r2⟩
theorem Df {Q:α->List Ob->Prop}(e:m h=.ok a h')(q:Q a h'):Ok m h Q:=⟨a,h',e,q⟩
theorem bg {Q:β->List Ob->Prop}(e:m h=.ok a h')(q:Ok (k a) h' Q):Ok (bd m k) h Q:=by
 obtain⟨b,h2,e2,r2⟩:=q
 exact⟨b,h2,(dG e).trans e2,r2⟩
theorem ah {Q:α->List Ob->Prop}(q:Q a h):Ok (pr a) h Q:=⟨a,h,rfl,q⟩
end
section
variable {β:Type}{h:List Ob}{Q:β->List Ob->Prop}{j:Nat}{l:List W}
theorem Ad {i:Int}{w:W}{k:W->M β}(e:h[j]?=some (.lst l))(e2:atI l i=some w)(q:Ok (k w) h Q):Ok (bd (ixW (.loc j) (.int i)) k) h Q:=by
 refine bg (a:=w) (h':=h) ?_ q
 have d:Ky (.loc j) h=none:=by unfold Ky;simp only[e]
 have lo:LU (.loc j) h=.ok l h:=by unfold LU;simp only[e]
 have:ixO (.loc j) (.int i) h=some w:=by
  unfold ixO
  simp only[d,lo,e2]
 unfold ixW
 rw[this]
theorem eS {w:W}{k:W->M β}(e:h[j]?=some (.lst l))(z:l.length<sizeLine)(q:Ok (k .non) (h.set j (.lst (l++[w]))) Q):Ok (bd (aX (.loc j) [w]) k) h Q:=by
 refine bg (a:=.non) (h':=h.set j (.lst (l++[w]))) ?_ q
 unfold aX
 simp only[e,if_pos z]
theorem cO {k:W->M β}(e:h[j]?=some (.lst l))(q:Ok (k (.loc j)) h Q):Ok (bd (isL (.loc j)) k) h Q:=by
 refine bg (a:=.loc j) (h':=h) ?_ q
 unfold isL
 simp only[e]
theorem iq {k:W->M β}(q:Ok (k (.loc h.length)) (h++[.lst l]) Q):Ok (bd (Mt l) k) h Q:=bg (a:=.loc h.length) (h':=h++[.lst l]) rfl q
theorem jv {k:W->M β}(e:h[j]?=some (.lst l))(q:Ok (k (.tl l)) (h.set j .gone) Q):Ok (bd (K7 (.loc j)) k) h Q:=by
 refine bg (a:=.tl l) (h':=h.set j .gone) ?_ q
 unfold K7
 simp only[e]
theorem qW {k:Sr->M β}(e:h[j]?=some (.lst l))(q:Ok (k ⟨l,fun h=>h[j]?=some (.lst l)⟩) h Q):Ok (bd (On (.loc j)) k) h Q:=by
 refine bg (a:=⟨l,fun h=>h[j]?=some (.lst l)⟩) (h':=h) ?_ q
 unfold On
 simp only[e]
noncomputable def Lw (h:List Ob)(x:W)(l:List W):Prop:=x=.tl l\/ ∃j,x=.loc j/\h[j]?=some (.lst l)
theorem Lw.of {x:W}(p:Lw h x l):LU x h=.ok l h:=by
 rcases p with rfl|⟨j,rfl,e⟩
 ·rfl
 ·unfold LU;simp only[e]
theorem Lw.len {x:W}{k:W->M β}(p:Lw h x l)(q:Ok (k (.int l.length)) h Q):Ok (bd (LP [x]) k) h Q:=by
 refine bg (a:=.int l.length) (h':=h) ?_ q
 have e:=p.of
 rcases p with rfl|⟨j,rfl,_⟩
 ·rfl
 ·show bd (LU (.loc j)) (fun l=>pr (W.int l.length)) h=_
  rw[dG e];rfl
theorem Lw.ix {x w:W}{i:Int}{k:W->M β}(p:Lw h x l)(e2:atI l i=some w)(q:Ok (k w) h Q):Ok (bd (ixW x (.int i)) k) h Q:=by
 rcases p with rfl|⟨j,rfl,e⟩
 ·rw[bP e2,bd_pr];exact q
 ·exact Ad e e2 q
theorem sJ {i:Int}{c:String}{b:Bool}(hc:c∈tys)(hb:isT "int" c=b):Ln [.int i,.ty c]=pr (.bl b):=by
 funext h
 subst hb
 show (if c∈tys then Rs.ok (W.bl (isT "int" c)) h else .bad)=_
 rw[if_pos hc];rfl
end
theorem i4 {x:Str}{ss:List Str}:inV (.str x) (ss.map V.str)=decide (x∈ss):=by
 unfold inV
 rw[Fg,Gv,decide_eq_true_eq]
 constructor
 ·rintro⟨v,hv,q⟩
  obtain⟨y,hy,rfl⟩:=EB.mp hv
  have:y=x:=by simpa [eqV] using q
  subst this;exact hy
 ·intro q
  exact⟨.str x,EB.mpr ⟨x,q,rfl⟩,by simp [eqV]⟩
theorem sM {x:Str}{ss:List Str}:inW (.str x) (.tl (ss.map W.str))=pr (.bl (decide (x∈ss))):=by
 funext h
 unfold inW
 have e:inB (.str x) (.tl (ss.map W.str)) h=some (decide (x∈ss)):=by
  show (match vOf (.str x),OU (ss.map W.str) with
   |some v,some vs=>some (inV v vs)
   |_,_=>none)=_
  rw[dY (k:=V.str) (fun a=>rfl)]
  show some (inV (.str x) (ss.map V.str))=_
  rw[i4]
 rw[e];rfl
theorem Dg {β:Type}{h:List Ob}{Q:β->List Ob->Prop}{j:Nat}{x:Str}{ss:List Str}{k:W->M β}(e:h[j]?=some (.lst (ss.map W.str)))(q:Ok (k (.bl (decide (x∈ss)))) h Q):Ok (bd (inW (.str x) (.loc j)) k) h Q:=by
 refine bg (a:=.bl (decide (x∈ss))) (h':=h) ?_ q
 unfold inW
 have d:Ky (.loc j) h=none:=by unfold Ky;simp only[e]
 have lo:LU (.loc j) h=.ok (ss.map W.str) h:=by unfold LU;simp only[e]
 have e:inB (.str x) (.loc j) h=some (decide (x∈ss)):=by
  unfold inB
  simp only[d,lo,dY (g:=W.str) (k:=V.str) (fun a=>rfl) ss]
  show some (inV (.str x) (ss.map V.str))=_
  rw[i4]
 rw[e]
theorem gz {i:Int}(h0: -(2 ^ 62)<=i)(h1:i<2 ^ 62):Np [.int i]=pr ⟨Lb 0 i.toNat,fun _=>True⟩:=ag ⟨h0,h1⟩
theorem kB {i j:Int}(h0: -(2 ^ 62)<=i)(h1:i<2 ^ 62)(h2: -(2 ^ 62)<=j)(h3:j<2 ^ 62):Nq [.int i,.int j]=pr ⟨Lb i (j - i).toNat,fun _=>True⟩:=ag ⟨h0,h1,h2,h3⟩
theorem rD {G:List Ob->Prop}{t:W->JR->Option JR}{g:JR->M Fl}(I:Nat->JR->List Ob->Prop)(l:List W)(hG: ∀i ρ h,I i ρ h->G h)
  (hs: ∀i w ρ h,l[i]?=some w->I i ρ h-> ∃r,t w ρ=some r/\Ok (g r) h fun x h'=> ∃r',x=.nx r'/\I (i+1) r' h'):
  ∀ (m:List W) (n:Nat) (ρ:JR) (h:List Ob),l.drop n=m->n<=l.length->I n ρ h->Ok (KZ G t g m ρ) h fun x h'=> ∃r',x=.nx r'/\I l.length r' h'
 |[],n,ρ,h,e,hn,i=>by
  have:l.length<=n:=Gw.mp e
  have hn:n=l.length:=by omega
  subst hn
  refine⟨.nx ρ,h,?_,ρ,rfl,i⟩
  unfold KZ
  rw[du (hG _ _ _ i)];rfl
 |w::m,n,ρ,h,e,hn,i=>by
  have hw:l[n]?=some w:=by
   have:=congrArg Gy e
   rw[Gz,GA] at this
   exact this
  have hl:n<l.length:=(Ev.mp hw).1
  have em:l.drop (n+1)=m:=by rw[<-GB,e];rfl
  obtain⟨r,e1,x,h',e2,r',rfl,i'⟩:=hs n w ρ h hw i
  obtain⟨y,h2,e3,q⟩:=rD I l hG hs m (n+1) r' h' em hl i'
  refine⟨y,h2,?_,q⟩
  unfold KZ
  rw[du (hG _ _ _ i),e1]
  dsimp only
  rw[dG e2]
  exact e3
theorem cP {β:Type}{G:List Ob->Prop}{t:W->JR->Option JR}{g:JR->M Fl}{l:List W}{ρ:JR}{h:List Ob}{k:Fl->M β}{Q:β->List Ob->Prop}(I:Nat->JR->List Ob->Prop)(h0:I 0 ρ h)(hG: ∀i ρ h,I i ρ h->G h)
  (hs: ∀i w ρ h,l[i]?=some w->I i ρ h-> ∃r,t w ρ=some r/\Ok (g r) h fun x h'=> ∃r',x=.nx r'/\I (i+1) r' h')(hd: ∀ρ h,I l.length ρ h->Ok (k (.nx ρ)) h Q):Ok (bd (KZ G t g l ρ) k) h Q:=
 aD (rD I l hG hs l 0 ρ h rfl (EI _) h0) fun x h' ⟨r',e,i⟩=>by subst e;exact hd r' h' i
theorem sY {G:List Ob->Prop}{t:W->JR->Option JR}{f:JR->M Bool}{g:JR->M W}{c:Nat}{ρ:JR}(I:Nat->List W->List Ob->Prop)(l:List W)(hf: ∀r,f r=pr true)(hG: ∀i a h,I i a h->G h)
  (hs: ∀i w a h,l[i]?=some w->I i a h-> ∃r,t w (List.replicate c none++ρ)=some r/\Ok (g r) h fun v h'=>I (i+1) (a++[v]) h'):
  ∀ (m:List W) (n:Nat) (a:List W) (h:List Ob),l.drop n=m->n<=l.length->I n a h->Ok (Ks G t f g c m ρ) h fun r h'=>I l.length (a++r) h'
 |[],n,a,h,e,hn,i=>by
  have:l.length<=n:=Gw.mp e
  have hn:n=l.length:=by omega
  subst hn
  refine⟨[],h,?_,by show I l.length (a++[]) h;rw[EX];exact i⟩
  unfold Ks
  rw[du (hG _ _ _ i)];rfl
 |w::m,n,a,h,e,hn,i=>by
  have hw:l[n]?=some w:=by
   have:=congrArg Gy e
   rw[Gz,GA] at this
   exact this
  have hl:n<l.length:=(Ev.mp hw).1
  have em:l.drop (n+1)=m:=by rw[<-GB,e];rfl
  obtain⟨r,e1,v,h',e2,i'⟩:=hs n w a h hw i
  obtain⟨y,h2,e3,q⟩:=sY I l hf hG hs m (n+1) (a++[v]) h' em hl i'
  refine⟨v::y,h2,?_,by show I l.length (a++v::y) h2;have q:I l.length (a++[v]++y) h2:=q;rw[EQ] at q;exact q⟩
  unfold Ks
  rw[du (hG _ _ _ i),e1]
  dsimp only
  rw[hf,bd_pr,if_pos rfl,dG e2,dG e3];rfl
theorem gS {β:Type}{G:List Ob->Prop}{t:W->JR->Option JR}{f:JR->M Bool}{g:JR->M W}{c:Nat}{ρ:JR}{l:List W}{h:List Ob}{k:List W->M β}{Q:β->List Ob->Prop}(I:Nat->List W->List Ob->Prop)(h0:I 0 [] h)(hf: ∀r,f r=pr true)(hG: ∀i a h,I i a h->G h)
  (hs: ∀i w a h,l[i]?=some w->I i a h-> ∃r,t w (List.replicate c none++ρ)=some r/\Ok (g r) h fun v h'=>I (i+1) (a++[v]) h')(hd: ∀a h,I l.length a h->Ok (k a) h Q):Ok (bd (Ks G t f g c l ρ) k) h Q:=
 aD (sY I l hf hG hs l 0 [] h rfl (EI _) h0) fun r h' i=>hd r h' i
theorem jf (r:JR):Mh r=pr true:=rfl
structure Fr (j:Nat)(h h':List Ob):Prop where
 len:h'.length=h.length
 eq: ∀i,i≠j->h'[i]?=h[i]?
theorem cY {j:Nat}{h:List Ob}{a b:Ob}(e:h[j]?=some a):(h.set j b)[j]?=some b:=by
 rw[FC (Ev.mp e).1]
theorem da {j:Nat}{h:List Ob}{a:Ob}(e:h[j]?=some a):j<h.length:=(Ev.mp e).1
theorem zF {j:Nat}{h r:List Ob}{a:Ob}(e:h[j]?=some a):(h++r)[j]?=some a:=by
 rw[ET (da e)];exact e
theorem fJ {h:List Ob}{a:Ob}:(h++[a])[h.length]?=some a:=by simp
theorem least {p:Nat->Prop}: ∀ {n:Nat},(∃r,r<n/\p r)-> ∃r,r<n/\p r/\ ∀j,j<r-> ¬p j
 |0,⟨_,h,_⟩=>absurd h (Nat.not_lt_zero _)
 |n+1,⟨r,h,q⟩=>by
  by_cases z: ∃r,r<n/\p r
  ·obtain⟨r,h1,h2,h3⟩:=least z
   exact⟨r,by omega,h2,h3⟩
  ·have:r=n:=by
    by_cases e:r<n
    ·exact absurd ⟨r,e,q⟩ z
    ·omega
   subst this
   exact⟨r,h,q,fun j hj hp=>z ⟨j,hj,hp⟩⟩
section
theorem sw {G:List Ob->Prop}{t:W->JR->Option JR}{g:JR->M Fl}{l:List W}{ρ:JR}{h:List Ob}{Q:Fl->List Ob->Prop}(I:Nat->JR->List Ob->Prop)(h0:I 0 ρ h)(hG: ∀i ρ h,I i ρ h->G h)
  (hs: ∀i w ρ h,l[i]?=some w->I i ρ h-> ∃r,t w ρ=some r/\Ok (g r) h fun x h'=> ∃r',x=.nx r'/\I (i+1) r' h')(hd: ∀ρ h,I l.length ρ h->Q (.nx ρ) h):Ok (KZ G t g l ρ) h Q:=
 (rD I l hG hs l 0 ρ h rfl (EI _) h0).imp fun x h' ⟨r',e,i⟩=>by subst e;exact hd r' h' i
theorem uQ (l:List W):KE [.tup l]=pr ⟨Mx 0 l,fun _=>True⟩:=rfl
theorem kP (l:List W):LU (.tl l)=pr l:=rfl
theorem ix0 (a:W)(l:List W):ixW (.tup (a::l)) (.int 0)=pr a:=fH (aO (by decide) rfl)
theorem ix1 (a b:W)(l:List W):ixW (.tup (a::b::l)) (.int 1)=pr b:=fH (aO (by decide) rfl)
theorem ix2 (a b c:W)(l:List W):ixW (.tup (a::b::c::l)) (.int 2)=pr c:=fH (aO (by decide) rfl)
theorem ix3 (a b c d:W)(l:List W):ixW (.tup (a::b::c::d::l)) (.int 3)=pr d:=fH (aO (by decide) rfl)
theorem ix4 (a b c d e:W)(l:List W):ixW (.tup (a::b::c::d::e::l)) (.int 4)=pr e:=fH (aO (by decide) rfl)
theorem ix5 (a b c d e f:W)(l:List W):ixW (.tup (a::b::c::d::e::f::l)) (.int 5)=pr f:=fH (aO (by decide) rfl)
theorem zN {α:Type}(f:α->W)(l:List α)(lo hi:Option Int):Kv (l.map f) lo hi=(Kv l lo hi).map f:=by
 unfold Kv
 rw[El,GC,Hd]
end
end L2
namespace L2
open PySem PySem.Spec PyProof.Rows
section
variable {X:Cx}{E:XK}{p pos:IH}
def Om (j:Bool):W->M Sr:=match j with
 |true=>Oo
 |false=>On
theorem jQ {j:Bool}{α β:Type}{r:Wo->α->β->Prop}{o:Wo}{w:W}{v:V}{k:Sr->M α}{Q:β->Hp->Prop}(R:Rel X.K o)(hr:Rv X.K o w v)(h:Ps (cg X E) r o (bd (Om j w) k o.h) Q):
  ∃s a,v=.ref a/\(∃vs,SqK j X.K o.H a vs)/\(∀p,Ex o p->Rel X.K p->s.G p.h-> ∃vs,SqK j X.K p.H a vs/\Rvs X.K p s.l vs)/\Ps (cg X E) r o (k s o.h) Q:=by
 cases j with
 |false=>exact rY R hr h
 |true=>
  cases w with
  |tup l=>
   unfold Rv at hr
   obtain⟨a,vs,rfl,s,r'⟩:=hr
   exact⟨⟨l,fun _=>True⟩,a,rfl,⟨vs,s⟩,fun p X _ _=>⟨vs,X.rdT R s,r'.mono R X⟩,h⟩
  |_=>exact h.elim
noncomputable def OZ (l m:List W):List W:=F9 (fun a b=>.tup [a,b]) l m
theorem iF {l m:List W}{i:Nat}{w:W}(e:(OZ l m)[i]?=some w): ∃x y,l[i]?=some x/\m[i]?=some y/\w=.tup [x,y]:=by
 unfold OZ at e
 rw[Ga] at e
 cases h1:l[i]? with
 |none=>rw[h1] at e;cases e
 |some x=>
  cases h2:m[i]? with
  |none=>rw[h1,h2] at e;cases e
  |some y=>rw[h1,h2] at e;cases e;exact⟨x,y,rfl,rfl,rfl⟩
def Op (j k:Bool)(ws:List W):M Sr:=match ws with
 |[x,y]=>bd (Om j x) fun s=>bd (Om k y) fun t=>pr ⟨OZ s.l t.l,fun h=>s.G h/\t.G h⟩
 |_=>no
theorem BD (j k:Bool){a b:Expr}{elts:List Expr}{x1}{tpos:IH}{fl:JR->M (List W)}(hm:X.mg "zip"=none)(ha:JA X E [a,b] fl)(hg:Gl X "zip":=by rfl)(hs:IJ [a,b] X.env=[(false,IG a X.env),(false,IG b X.env)]:=by rfl)(hs2:IJ [b] X.env=[(false,IG b X.env)]:=by rfl):
  JI X E (.Tuple elts x1 tpos) (.Call (.Name "zip" p) [a,b] [] pos) (Mc fl (Op j k)):=(AS (j:=j) (k:=k) hg hm ha.h hs hs2).imp fun σ H Q h=>by
 obtain⟨o,ρ,rfl,R,S,h⟩:=h
 refine⟨o,ρ,rfl,R,S,Ps.bd h fun p x vx e1 R1 r1 h1=>?_⟩
 rcases x with _|⟨w,_|⟨w2,_|⟨_,_⟩⟩⟩
 ·exact h1.elim
 ·exact h1.elim
 ·have h1:Ps (cg X E) (fun p s J=>J4 X.K p J s) p (bd (Om j w) (fun s=>bd (Om k w2) fun t=>pr ⟨OZ s.l t.l,fun h=>s.G h/\t.G h⟩) p.h) Q:=h1
  obtain⟨v,u,rfl,rv,ru⟩:=r1.two
  obtain⟨s,a,rfl,hq,sk,h1⟩:=jQ R1 rv h1
  obtain⟨t,b,rfl,hq2,sk2,h1⟩:=jQ R1 ru h1
  refine⟨a,b,rfl,hq,hq2,h1.pr R1 ⟨fun o X R g=>?_,fun o i w X R g e=>?_⟩⟩
  ·obtain⟨vs,k1,k2⟩:=sk o X R g.1
   obtain⟨us,k3,k4⟩:=sk2 o X R g.2
   exact⟨vs,us,k1,k3,by rw[k2.len,k4.len];show _=(OZ s.l t.l).length;unfold OZ;rw[Fm]⟩
  ·obtain⟨vs,k1,k2⟩:=sk o X R g.1
   obtain⟨us,k3,k4⟩:=sk2 o X R g.2
   obtain⟨x,y,ex,ey,rfl⟩:=iF e
   obtain⟨v1,hv1,rv1⟩:=k2.get ex
   obtain⟨v2,hv2,rv2⟩:=k4.get ey
   refine⟨⟨vs,us,v1,v2,k1,k3,hv1,hv2⟩,fun q H' yl=>?_⟩
   obtain⟨T,z1,z2,hT,rfl,hz,rfl⟩:=yl
   obtain⟨g1,g2⟩:=hz vs us k1 k3
   have e1:z1=v1:=Option.some.inj (g1.symm.trans hv1)
   have e2:z2=v2:=Option.some.inj (g2.symm.trans hv2)
   subst e1 e2
   refine⟨⟨o.mu,o.h,upd o.H T (.tup [z1,z2])⟩,rfl,rfl,Ex.new hT,R.new hT,Rv.newT R hT (Rvs.cons rv1 (Rvs.cons rv2 Rvs.nil))⟩
 ·exact h1.elim
variable {o e:Expr}{apos cpos:IH}{fo:JR->M W}{l:JR->M (List W)}
def Ea (x:W)(ws:List W):M W:=match x,ws with
 |.loc k,[.int i]=>fun h=>match h[k]? with
  |some (.lst l)=>if -(2 ^ 63)<=i/\i<2 ^ 63 then (match ixN l.length i with
   |some j=>(match l[j]? with
    |some w=>.ok w (h.set k (.lst (l.eraseIdx j)))
    |none=>.bad)
   |none=>.bad) else .bad
  |_=>.bad
 |_,_=>no
def Lm (w:W):M W:=match w with
 |.tup l=>pr (.tup l)
 |_=>no
def OJ (x:W)(ws:List W):M W:=match x,ws with
 |.tup l,[.int k]=>match MV iOf l with
  |some ns=>match ns.findIdx? (fun x=>decide (x=k)) with
   |some j=>pr (.int (j:Int))
   |none=>no
  |none=>no
 |_,_=>no
theorem rF {ns:List Int}{k:Int}{j:Nat}(h:ns.findIdx? (fun x=>decide (x=k))=some j):ns[j]?=some k/\ ∀r,r<j->ns[r]?≠some k:=by
 rw[GD] at h
 obtain⟨h1,h2,h3⟩:=h
 refine⟨by rw[EL h1];exact congrArg some (of_decide_eq_true h2),fun r hr q=>?_⟩
 have:=h3 r hr
 obtain⟨z,e⟩:=Ev.mp q
 simp [e] at this
theorem zf (hK:iI X.K=true)(ho:JE X E o fo)(ha:JA X E [e] l)(hbase:Jb o "index" X.env (IG o X.env)=IG o X.env:=by rfl)
  (hfew:((II cpos (IJ [e] X.env)).all (fun x=>!x.1) && (Jc cpos (Jd [] X.env)).all (fun x=>x.1.isSome) && decide (([e]:List Expr).length+([]:List Jh).length+(if ([]:List Jh).isEmpty then 0 else 1)<30))=true:=by rfl)
  (hline:(apos.endLine==cpos.line)=true:=by rfl)(hs:IJ [e] X.env=(false,IG e X.env)::IJ [] X.env:=by rfl)(hplain:(II cpos (IJ [] X.env)).any (·.1)=false:=by rfl):
  JE X E (.Call (.Attribute o "index" apos) [e] [] cpos) (L5 Lm OJ fo l):=
 (C3 hK PySem.F.plainAttrs_tuple PySem.F.slot_tuple_index PySem.F.type_tuple_index ut ho.h ha.h hbase hfew hline hs hplain).imp fun σ H Q h=>by
  obtain⟨w,ρ,rfl,R,S,h⟩:=h
  refine⟨w,ρ,rfl,R,S,Ps.bd h fun p x vx e1 R1 r1 h1=>?_⟩
  cases x with
  |tup l0=>
   have h1:Ps (cg X E) (Rv X.K) p (bd (l ρ) (fun ws=>OJ (.tup l0) ws) p.h) Q:=h1
   have r0:=r1
   unfold Rv at r1
   obtain⟨a,vs0,rfl,sq,rl⟩:=r1
   refine⟨⟨a,vs0,rfl,sq⟩,p,ρ,rfl,R1,S.mono R e1,Ps.bd h1 fun q ws vs e2 R2 r2 h2=>?_⟩
   rcases ws with _|⟨w',_|⟨_,_⟩⟩
   ·exact h2.elim
   ·obtain⟨v,rfl,r⟩:=r2.one
    cases w' with
    |int k=>
     have h2:Ps (cg X E) (Rv X.K) q (match MV iOf l0 with
      |some ns=>(match ns.findIdx? (fun x=>decide (x=k)) with
       |some j=>(pr (W.int (j:Int)):M W)
       |none=>no) q.h
      |none=>no q.h) Q:=by
       have:OJ (.tup l0) [.int k] q.h=_:=rfl
       unfold OJ at h2
       cases e:MV iOf l0 with
       |none=>simp only[e] at h2;exact h2.elim
       |some ns=>
        simp only[e] at h2
        exact h2
     cases e:MV iOf l0 with
     |none=>rw[e] at h2;exact h2.elim
     |some ns=>
      simp only[e] at h2
      cases e3:ns.findIdx? (fun x=>decide (x=k)) with
      |none=>rw[e3] at h2;exact h2.elim
      |some j=>
       simp only[e3] at h2
       obtain⟨g1,g2⟩:=rF e3
       have ev:vs0=ns.map V.int:=eA kZ e rl
       subst ev
       exact⟨a,ns,k,j,rfl,by rw[Nx.mp r],e2.rdT R1 sq,g1,g2,h2.pr R2 (Nx.mpr rfl)⟩
    |_=>exact h2.elim
   ·cases w'<;>exact h2.elim
  |_=>exact h1.elim
theorem wM {x:Str}{a:Ig}{zs:List Str}{pos:IH}(hm:X.mg x=some (.ref a))(hq: ∀H,SqT X.K H a (zs.map V.str))(hg:Gl X x:=by rfl)(hd:(x==("__debug__":Str))=false:=by decide):JE X E (.Name x pos) (mC (.tup (zs.map W.str))):=
 nA (v:=.ref a) hg hm rfl (fun o=>by
  unfold Rv
  refine⟨a,_,rfl,hq _,?_⟩
  induction zs with
  |nil=>exact Rvs.nil
  |cons z zs ih=>exact Rvs.cons (Nz.mpr rfl) (gy zs)) hd
where
 gy {K:PySem.W.Frag}{o:Wo}: ∀zs:List Str,Rvs K o (zs.map W.str) (zs.map V.str)
  |[]=>Rvs.nil
  |z::zs=>Rvs.cons (Nz.mpr rfl) (gy zs)
end
section
section
variable {X:Cx}{E:XK}{o e e2:Expr}{apos cpos:IH}{fo:JR->M W}{l:JR->M (List W)}
end
theorem sQ {G:List Ob->Prop}{t:W->JR->Option JR}{g:JR->M Fl}(I:Nat->JR->List Ob->Prop)(J:W->List Ob->Prop)(l:List W)(hG: ∀i ρ h,I i ρ h->G h)
  (hs: ∀i w ρ h,l[i]?=some w->I i ρ h-> ∃r,t w ρ=some r/\Ok (g r) h fun x h'=>(∃r',x=.nx r'/\I (i+1) r' h')\/ ∃v,x=.rt v/\J v h'):
  ∀ (m:List W) (n:Nat) (ρ:JR) (h:List Ob),l.drop n=m->n<=l.length->I n ρ h->Ok (KZ G t g m ρ) h fun x h'=>(∃r',x=.nx r'/\I l.length r' h')\/ ∃v,x=.rt v/\J v h'
 |[],n,ρ,h,e,hn,i=>by
  have:l.length<=n:=Gw.mp e
  have hn:n=l.length:=by omega
  subst hn
  refine⟨.nx ρ,h,?_,.inl ⟨ρ,rfl,i⟩⟩
  unfold KZ
  rw[du (hG _ _ _ i)];rfl
 |w::m,n,ρ,h,e,hn,i=>by
  have hw:l[n]?=some w:=by
   have:=congrArg Gy e
   rw[Gz,GA] at this
   exact this
  have hl:n<l.length:=(Ev.mp hw).1
  have em:l.drop (n+1)=m:=by rw[<-GB,e];rfl
  obtain⟨r,e1,x,h',e2,⟨r',rfl,i'⟩|⟨v,rfl,j'⟩⟩:=hs n w ρ h hw i
  ·obtain⟨y,h2,e3,q⟩:=sQ I J l hG hs m (n+1) r' h' em hl i'
   refine⟨y,h2,?_,q⟩
   unfold KZ
   rw[du (hG _ _ _ i),e1]
   dsimp only
   rw[dG e2]
   exact e3
  ·refine⟨.rt v,h',?_,.inr ⟨v,rfl,j'⟩⟩
   unfold KZ
   rw[du (hG _ _ _ i),e1]
   dsimp only
   rw[dG e2];rfl
theorem yP {β:Type}{G:List Ob->Prop}{t:W->JR->Option JR}{g:JR->M Fl}{l:List W}{ρ:JR}{h:List Ob}{k:Fl->M β}{Q:β->List Ob->Prop}(I:Nat->JR->List Ob->Prop)(J:W->List Ob->Prop)(h0:I 0 ρ h)(hG: ∀i ρ h,I i ρ h->G h)
  (hs: ∀i w ρ h,l[i]?=some w->I i ρ h-> ∃r,t w ρ=some r/\Ok (g r) h fun x h'=>(∃r',x=.nx r'/\I (i+1) r' h')\/ ∃v,x=.rt v/\J v h')(hd: ∀ρ h,I l.length ρ h->Ok (k (.nx ρ)) h Q)(hr: ∀v h,J v h->Ok (k (.rt v)) h Q):Ok (bd (KZ G t g l ρ) k) h Q:=
 aD (sQ I J l hG hs l 0 ρ h rfl (EI _) h0) fun x h' q=>by
  rcases q with⟨r',rfl,i⟩|⟨v,rfl,j⟩
  ·exact hd r' h' i
  ·exact hr v h' j
end
section
noncomputable def La (lo:Int):Nat->List V
 |0=>[]
 |n+1=>.int lo::La (lo+1) n
theorem ml: ∀ (n:Nat) (lo:Int),(La lo n).length=n
 |0,_=>rfl
 |n+1,lo=>by rw[La,Es,ml n]
theorem lY {K:PySem.W.Frag}{o:Wo}: ∀ (n:Nat) (lo:Int),Rvs K o (Lb lo n) (La lo n)
 |0,_=>Rvs.nil
 |n+1,lo=>Rvs.cons (Nx.mpr rfl) (lY n (lo+1))
theorem j7: ∀ (n:Nat) (lo:Int) (its:List H0),its.length=n->(∀ (i:Nat) (v:H0),its[i]?=some v-> ∃t,v=H0.int (lo+(i:Int)) t)->Vals (La lo n) its
 |0,_,[],_,_=>.nil
 |0,_,_::_,h,_=>by cases h
 |n+1,lo,[],h,_=>by cases h
 |n+1,lo,v::its,h,q=>by
  rw[La]
  refine .cons ?_ (j7 n (lo+1) its (Fs.inj h) fun i u e=>?_)
  ·obtain⟨t,e⟩:=q 0 v rfl
   exact⟨t,by rw[e];congr 1;omega⟩
  ·obtain⟨t,e⟩:=q (i+1) u (by rw[FG];exact e)
   exact⟨t,by rw[e];congr 1;omega⟩
section
variable {X:Cx}{E:XK}{a b:Expr}{p p2 pos pos2:IH}
end
end
section
section
variable {X:Cx}{E:XK}
theorem Bh:OpR X (IM .Is) (fun x y H Q=> ∃c d,x=.bl c/\y=.bl d/\Q (.bl (c==d)) H):=by
 intro pins s σ H x y v u Q I rx ry h
 obtain⟨c,d,rfl,rfl,q⟩:=h
 cases rx
 cases ry
 exact is_bool (aG I q rfl)
theorem yK:OpR X (IM .IsNot) (fun x y H Q=> ∃c d,x=.bl c/\y=.bl d/\Q (.bl (!(c==d))) H):=by
 intro pins s σ H x y v u Q I rx ry h
 obtain⟨c,d,rfl,rfl,q⟩:=h
 cases rx
 cases ry
 exact isnot_bool (aG I q rfl)
def Ld (x y:W):M W:=match x,y with
 |.bl c,.bl d=>pr (.bl (c==d))
 |_,_=>no
def Mu (x y:W):M W:=match x,y with
 |.bl c,.bl d=>pr (.bl (!(c==d)))
 |_,_=>no
theorem yH:OpM X E (fun x y H Q=> ∃c d,x=.bl c/\y=.bl d/\Q (.bl (c==d)) H) Ld:=by
 intro o x y vx vy Q R rx ry h
 unfold Ld at h
 split at h
 ·exact⟨_,_,Nv.mp rx,Nv.mp ry,h.pr R (Nv.mpr rfl)⟩
 ·exact h.elim
theorem v7:OpM X E (fun x y H Q=> ∃c d,x=.bl c/\y=.bl d/\Q (.bl (!(c==d))) H) Mu:=by
 intro o x y vx vy Q R rx ry h
 unfold Mu at h
 split at h
 ·exact⟨_,_,Nv.mp rx,Nv.mp ry,h.pr R (Nv.mpr rfl)⟩
 ·exact h.elim
end
theorem lm {G:List Ob->Prop}{t:W->JR->Option JR}{f:JR->M Bool}{g:JR->M W}{c:Nat}{ρ:JR}(I:Nat->List W->List Ob->Prop)(l:List W)(hG: ∀i a h,I i a h->G h)
  (hs: ∀i w a h,l[i]?=some w->I i a h-> ∃r,t w (List.replicate c none++ρ)=some r/\Ok (f r) h fun b h'=>(b=false/\I (i+1) a h')\/(b=true/\Ok (g r) h' fun v h''=>I (i+1) (a++[v]) h'')):
  ∀ (m:List W) (n:Nat) (a:List W) (h:List Ob),l.drop n=m->n<=l.length->I n a h->Ok (Ks G t f g c m ρ) h fun r h'=>I l.length (a++r) h'
 |[],n,a,h,e,hn,i=>by
  have:l.length<=n:=Gw.mp e
  have hn:n=l.length:=by omega
  subst hn
  refine⟨[],h,?_,by show I l.length (a++[]) h;rw[EX];exact i⟩
  unfold Ks
  rw[du (hG _ _ _ i)];rfl
 |w::m,n,a,h,e,hn,i=>by
  have hw:l[n]?=some w:=by
   have:=congrArg Gy e
   rw[Gz,GA] at this
   exact this
  have hl:n<l.length:=(Ev.mp hw).1
  have em:l.drop (n+1)=m:=by rw[<-GB,e];rfl
  obtain⟨r,e1,b,h',e2,q⟩:=hs n w a h hw i
  rcases q with⟨rfl,i'⟩|⟨rfl,v,h'',e3,i'⟩
  ·obtain⟨y,h2,e3,q⟩:=lm I l hG hs m (n+1) a h' em hl i'
   refine⟨y,h2,?_,q⟩
   unfold Ks
   rw[du (hG _ _ _ i),e1]
   dsimp only
   rw[dG e2,if_neg (by decide)];exact e3
  ·obtain⟨y,h2,e4,q⟩:=lm I l hG hs m (n+1) (a++[v]) h'' em hl i'
   refine⟨v::y,h2,?_,by show I l.length (a++v::y) h2;have q:I l.length (a++[v]++y) h2:=q;rw[EQ] at q;exact q⟩
   unfold Ks
   rw[du (hG _ _ _ i),e1]
   dsimp only
   rw[dG e2,if_pos rfl,dG e3,dG e4];rfl
theorem o6 {β:Type}{G:List Ob->Prop}{t:W->JR->Option JR}{f:JR->M Bool}{g:JR->M W}{c:Nat}{ρ:JR}{l:List W}{h:List Ob}{k:List W->M β}{Q:β->List Ob->Prop}(I:Nat->List W->List Ob->Prop)(h0:I 0 [] h)(hG: ∀i a h,I i a h->G h)
  (hs: ∀i w a h,l[i]?=some w->I i a h-> ∃r,t w (List.replicate c none++ρ)=some r/\Ok (f r) h fun b h'=>(b=false/\I (i+1) a h')\/(b=true/\Ok (g r) h' fun v h''=>I (i+1) (a++[v]) h''))(hd: ∀a h,I l.length a h->Ok (k a) h Q):Ok (bd (Ks G t f g c l ρ) k) h Q:=
 aD (lm I l hG hs l 0 [] h rfl (EI _) h0) fun r h' i=>hd r h' i
section
variable {β:Type}{h:List Ob}{Q:β->List Ob->Prop}{x:W}{l:List W}
theorem Lw.src {k:Sr->M β}(p:Lw h x l)(q:∀G,(∀h',Lw h' x l->G h')->Ok (k ⟨l,G⟩) h Q):Ok (bd (On x) k) h Q:=by
 rcases p with rfl|⟨j,rfl,e⟩
 ·show Ok (bd (pr ⟨l,fun _=>True⟩) k) h Q
  rw[aV];exact q _ fun _ _=>trivial
 ·refine qW e (q _ fun h' r=>?_)
  rcases r with r|⟨i,r,e'⟩
  ·cases r
  ·cases r;exact e'
theorem Lw.keep {h':List Ob}(p:Lw h x l)(q:∀i,i<h.length->h'[i]?=h[i]?):Lw h' x l:=by
 rcases p with rfl|⟨j,rfl,e⟩
 ·exact .inl rfl
 ·exact .inr ⟨j,rfl,(q j (da e)).trans e⟩
end
theorem Lw.len_eq {β:Type}{h:List Ob}{Q:β->List Ob->Prop}{x:W}{l:List W}{k:W->M β}{N:Int}(p:Lw h x l)(hN:N=(l.length:Int))(q:Ok (k (.int N)) h Q):Ok (bd (LP [x]) k) h Q:=by
 subst hN;exact p.len q
end
section
noncomputable def LR:List Str->List W->Str->Option W
 |n::ns,w::ws,f=>if f=n then some w else LR ns ws f
 |_,_,_=>none
noncomputable def putN:List Str->List W->Str->W->List Str×List W
 |n::ns,w::ws,f,y=>if n=f then (n::ns,y::ws) else (n::(putN ns ws f y).1,w::(putN ns ws f y).2)
 |_,_,f,y=>([f],[y])
section
variable {K:PySem.W.Frag}{o:Wo}
theorem pq {f:Str}{w:W}: ∀ {fs:List (Str×V)}{ns:List Str}{ws:List W},fs.map (·.1)=ns->Rvs K o ws (fs.map (·.2))->LR ns ws f=some w-> ∃v,fs.lookup f=some v/\Rv K o w v
 |[],_,ws,e,_,h=>by subst e;cases ws<;>cases h
 |(g,x)::fs,_,[],e,r,h=>by subst e;cases h
 |(g,x)::fs,_,y::ws,e,r,h=>by
  subst e
  unfold Rvs at r
  obtain⟨v,t,e2,r1,r2⟩:=r
  cases e2
  have h:(if f=g then some y else LR (fs.map (·.1)) ws f)=some w:=h
  by_cases z:f=g
  ·rw[if_pos z] at h
   cases h
   exact⟨x,by rw[Fi,z];simp,r1⟩
  ·rw[if_neg z] at h
   obtain⟨v,e3,r3⟩:=pq rfl r2 h
   refine⟨v,?_,r3⟩
   rw[Fi,show (f==g)=false by simpa using z]
   exact e3
theorem pw {f:Str}: ∀ {fs:List (Str×V)},f ∉ fs.map (·.1)->fs.lookup f=none
 |[],_=>rfl
 |(g,x)::fs,h=>by
  rw[Er,En,not_or] at h
  rw[Fi,show (f==g)=false by simpa using h.1]
  exact pw h.2
theorem so {f:Str}{y:W}{v:V}(hy:Rv K o y v): ∀ {fs:List (Str×V)}{ns:List Str}{ws:List W},fs.map (·.1)=ns->Rvs K o ws (fs.map (·.2))->(Nh f v fs).map (·.1)=(putN ns ws f y).1/\Rvs K o (putN ns ws f y).2 ((Nh f v fs).map (·.2))
 |[],_,[],e,r=>by subst e;exact⟨rfl,Rvs.cons hy Rvs.nil⟩
 |[],_,w::ws,e,r=>by unfold Rvs at r;obtain⟨_,_,e2,_⟩:=r;cases e2
 |(g,x)::fs,_,[],e,r=>by unfold Rvs at r;cases r
 |(g,x)::fs,_,w::ws,e,r=>by
  subst e
  unfold Rvs at r
  obtain⟨u,t,e2,r1,r2⟩:=r
  cases e2
  show (List.map (·.1) (if g=f then (g,v)::fs else (g,x)::Nh f v fs))=(if g=f then (g::fs.map (·.1),y::ws) else (g::(putN (fs.map (·.1)) ws f y).1,w::(putN (fs.map (·.1)) ws f y).2)).1/\Rvs K o (if g=f then (g::fs.map (·.1),y::ws) else (g::(putN (fs.map (·.1)) ws f y).1,w::(putN (fs.map (·.1)) ws f y).2)).2 ((if g=f then (g,v)::fs else (g,x)::Nh f v fs).map (·.2))
  by_cases z:g=f
  ·rw[if_pos z,if_pos z]
   exact⟨rfl,Rvs.cons hy r2⟩
  ·rw[if_neg z,if_neg z]
   obtain⟨a,b⟩:=so hy (fs:=fs) rfl r2
   exact⟨by rw[Er,a],Rvs.cons r1 b⟩
theorem Rel.putI (R:Rel K o){k:Nat}{b:Ob}{c:Str}{C dx:Ig}{ns:List Str}{ws:List W}{fs:List (Str×V)}(hk:o.h[k]?=some b)(hb:b≠.gone)(hn:HZ K IC c=some (some (.ref C)))(h1:fs.map (·.1)=ns)(hl:Rvs K o ws (fs.map (·.2))):Rel K (o.put k (.ins c ns ws) (.ins C dx fs)):=
 R.put hk hb ⟨C,dx,fs,hn,aq,h1,hl.mono R (Ex.put hk hb)⟩
end
section
variable {X:Cx}{E:XK}
def K8 (c:Str)(x:W):M (Nat×List Str×List W):=match x with
 |.loc k=>fun h=>match h[k]? with
  |some (.ins c' ns ws)=>if c'=c then .ok (k,ns,ws) h else .bad
  |_=>.bad
 |_=>no
theorem nJ {α β:Type}{r:Wo->α->β->Prop}{c:Str}{C:Ig}{o:Wo}{x:W}{v:V}{k:Nat×List Str×List W->M α}{Q:β->Hp->Prop}(hn:HZ X.K IC c=some (some (.ref C)))(R:Rel X.K o)(hr:Rv X.K o x v)(h:Ps (cg X E) r o (bd (K8 c x) k o.h) Q):
  ∃ (j:Nat) (ns:List Str) (ws:List W) (dx:Ig) (fs:List (Str×V)),x=.loc j/\j<o.h.length/\o.h[j]?=some (.ins c ns ws)/\v=.ref (o.mu j)/\o.H (o.mu j)=some (.ins C dx fs)/\fs.map (·.1)=ns/\Rvs X.K o ws (fs.map (·.2))/\Ps (cg X E) r o (k (j,ns,ws) o.h) Q:=by
 cases x with
 |loc j=>
  unfold Rv at hr
  obtain⟨hj,rfl⟩:=hr
  unfold K8 bd at h
  cases e:o.h[j]? with
  |none=>simp only[e] at h;exact h.elim
  |some b=>
   cases b with
   |ins c' ns ws=>
    simp only[e] at h
    by_cases z:c'=c
    ·subst z
     rw[if_pos rfl] at h
     obtain⟨C',dx,fs,q1,q2,q3,q4⟩:=R.ob j _ e
     rw[hn] at q1
     cases q1
     exact⟨j,ns,ws,dx,fs,rfl,hj,e,rfl,q2,q3,q4,h⟩
    ·rw[if_neg z] at h;exact h.elim
   |_=>simp only[e] at h;exact h.elim
 |_=>exact h.elim
def KU (c f:Str)(x:W):M W:=bd (K8 c x) fun t=>match LR t.2.1 t.2.2 f with
 |some w=>pr w
 |none=>no
def Ni (c f:Str)(x y:W):M Unit:=bd (K8 c x) fun t=>fun h=>if t.2.1.length<1000 then .ok () (h.set t.1 (.ins c (putN t.2.1 t.2.2 f y).1 (putN t.2.1 t.2.2 f y).2)) else .bad
variable {c f:Str}{C:Ig}{o:Expr}{fo:JR->M W}{pos pos':IH}
theorem B1 (hn:HZ X.K IC c=some (some (.ref C)))(cl:Cls X.K C)(na:NoAttr X.K C f)(ho:JE X E o fo)(hb:Jb o f X.env (IG o X.env)=IG o X.env:=by rfl):JE X E (.Attribute o f pos) (m1 (KU c f) fo):=
 (eR ho.h hb).imp fun σ H Q h=>by
  obtain⟨w,ρ,rfl,R,S,h⟩:=h
  refine⟨w,ρ,rfl,R,S,Ps.bd h fun p x vx e1 R1 r1 h1=>?_⟩
  obtain⟨j,ns,ws,dx,fs,rfl,hj,e,rfl,q2,q3,q4,h1⟩:=nJ hn R1 r1 h1
  cases l:LR ns ws f with
  |none=>simp only[l] at h1;exact h1.elim
  |some y=>
   simp only[l] at h1
   obtain⟨v,lv,rv⟩:=pq q3 q4 l
   exact⟨_,C,dx,fs,v,rfl,q2,cl,na,lv,h1.pr R1 rv⟩
def NE (c f:Str)(fo fv:JR->M W):JR->M Fl:=fun ρ=>bd (fv ρ) fun y=>bd (fo ρ) fun x=>bd (Ni c f x y) fun _=>pr (.nx ρ)
theorem yw {D:JN}{p:Wo}{x y:W}{vx vy:V}{ρ:JR}{σ:St}(hn:HZ X.K IC c=some (some (.ref C)))(R:Rel X.K p)(S:Re X.K p ρ σ)(rx:Rv X.K p x vx)(ry:Rv X.K p y vy)(h:Ps (cg X E) (RFl X.K) p (bd (Ni c f x y) (fun _=>pr (.nx ρ)) p.h) (DQ D)):
  ∃a dx fs,vx=.ref a/\p.H a=some (.ins C dx fs)/\fs.length<1000/\D.nx σ (upd p.H a (.ins C dx (Nh f vy fs))):=by
 unfold Ni at h
 rw[aa] at h
 obtain⟨j,ns,ws,dx,fs,rfl,hj,e,rfl,q2,q3,q4,h⟩:=nJ hn R rx h
 have ln:fs.length=ns.length:=by rw[<-q3,El]
 by_cases z:ns.length<1000
 ·have h:Ps (cg X E) (RFl X.K) p (.ok (.nx ρ) (p.h.set j (.ins c (putN ns ws f y).1 (putN ns ws f y).2))) (DQ D):=by
   have e2:(bd (fun h=>if ns.length<1000 then Rs.ok () (h.set j (.ins c (putN ns ws f y).1 (putN ns ws f y).2)) else .bad) (fun _=>pr (Fl.nx ρ)) p.h)=.ok (.nx ρ) (p.h.set j (.ins c (putN ns ws f y).1 (putN ns ws f y).2)):=by
    unfold bd
    simp only[if_pos z];rfl
   rw[<-e2];exact h
  obtain⟨a,b⟩:=so ry q3 q4
  refine⟨p.mu j,dx,fs,rfl,q2,by omega,?_⟩
  exact Ps.at (p:=p.put j (.ins c (putN ns ws f y).1 (putN ns ws f y).2) (.ins C dx (Nh f vy fs))) (b:=FlV.nx σ) h rfl (Ex.put e (by simp)) (R.putI e (by simp) hn a b) ⟨σ,rfl,S.mono R (Ex.put e (by simp))⟩
 ·have e2:(bd (fun h=>if ns.length<1000 then Rs.ok () (h.set j (.ins c (putN ns ws f y).1 (putN ns ws f y).2)) else .bad) (fun _=>pr (Fl.nx ρ)) p.h)=.bad:=by
   unfold bd
   simp only[if_neg z]
  have h:Ps (cg X E) (RFl X.K) p (bd (fun h=>if ns.length<1000 then Rs.ok () (h.set j (.ins c (putN ns ws f y).1 (putN ns ws f y).2)) else .bad) (fun _=>pr (Fl.nx ρ)) p.h) (DQ D):=h
  rw[e2] at h
  exact h.elim
variable {value:Expr}{fv:JR->M W}{tpos:IH}
theorem BA (hn:HZ X.K IC c=some (some (.ref C)))(cl:Cls X.K C)(na:NoAttr X.K C f)(ho:JE X E o fo)(hv:JE X E value fv)(hs:swapsWith value (some (.Attribute o f pos')) pos.line X.env=pure false:=by rfl):JS X E (.Assign [.Attribute o f pos'] value pos) (NE c f fo fv):=
 (qO ho.h hv.h hs).imp fun D σ H h=>by
  obtain⟨w,ρ,rfl,R,S,h⟩:=h
  refine⟨w,ρ,rfl,R,S,Ps.bd h fun p y vy e1 R1 r1 h1=>⟨p,ρ,rfl,R1,S.mono R e1,Ps.bd h1 fun q x vx e2 R2 r2 h2=>?_⟩⟩
  obtain⟨a,dx,fs,ex,q1,q2,q3⟩:=yw hn R2 ((S.mono R e1).mono R1 e2) r2 (r1.mono R1 e2) h2
  exact⟨a,C,dx,fs,ex,q1,cl,na,q2,q3⟩
def addI (x y:W):M W:=match x,y with
 |.int i,.int j=>pr (.int (i+j))
 |_,_=>no
def sAugW (c f:Str)(fo fv:JR->M W):JR->M Fl:=fun ρ=>bd (fo ρ) fun x=>bd (KU c f x) fun v=>bd (fv ρ) fun y=>bd (addI v y) fun z=>bd (Ni c f x z) fun _=>pr (.nx ρ)
structure CGm (P:Ib)(w:Ic)(K:PySem.W.Frag)(mg:Str->Option H0)(base:Ie)(k:Nat)(C:Ig)(m:Str)(f:Ig)(fd:Je)(ps:List Str)(n:Nat)(fn:List W->M W):Prop where
 ok:FnOk P w K mg base CX0 k f fd ps (Oh K mg n fn)
 bi:Binds K fd ps []
 me:JY K C m f
def isI (c m:Str)(x:W):M W:=bd (K8 c x) fun t=>if m∈t.2.1 then no else pr x
def L4 (c m:Str)(n:Nat)(fn:List W->M W)(fo:JR->M W)(l:JR->M (List W)):JR->M W:=fun ρ=>bd (fo ρ) fun x=>bd (isI c m x) fun x=>bd (l ρ) fun ws=>arW n fn (x::ws)
theorem wZ {α β:Type}{r:Wo->α->β->Prop}{m:Str}{p:Wo}{x:W}{v:V}{k:W->M α}{Q:β->Hp->Prop}(hn:HZ X.K IC c=some (some (.ref C)))(R:Rel X.K p)(hr:Rv X.K p x v)(h:Ps (cg X E) r p (bd (isI c m x) k p.h) Q):
  ∃a dx fs,v=.ref a/\p.H a=some (.ins C dx fs)/\fs.lookup m=none/\Ps (cg X E) r p (k x p.h) Q:=by
 unfold isI at h
 rw[aa] at h
 obtain⟨j,ns,ws,dx,fs,rfl,hj,e,rfl,q2,q3,q4,h⟩:=nJ hn R hr h
 by_cases z:m∈ns
 ·simp only[if_pos z] at h
  exact h.elim
 ·simp only[if_neg z,aV] at h
  exact⟨_,dx,fs,rfl,q2,pw (by rw[q3];exact z),h⟩
end
section
variable {X:Cx}{c m:Str}{C fA:Ig}{fd:Je}{ps:List Str}{k n:Nat}{fn:List W->M W}{o e:Expr}{es:List Expr}{fo:JR->M W}{l:JR->M (List W)}{pos apos p:IH}
theorem BU {pl:Sem Bool}(hn:HZ X.K IC c=some (some (.ref C)))(cl:Cls X.K C)(F:CGm X.prog X.w X.K X.mg X.base k C m fA fd ps n fn)(hr:Room k X.A)(ho:JE X E0 o fo)(ha:JA X E0 (e::es) l)
  (hst:IJ (e::es) X.env=(false,IG e X.env)::IJ es X.env:=by rfl)(hpl:(II pos (IJ es X.env)).any (·.1)=false:=by rfl)
  (ht:IG (.Call (.Attribute o m apos) (e::es) [] pos) X.env=(do
   let ov<-IG o X.env
   IP apos.atName
   let (f,first)<-IQ [ov] (Ja ov m pl)
   callWith pos f first (II pos (IJ (e::es) X.env)) (Jc pos (Jd [] X.env))):=by rfl):
  JE X E0 (.Call (.Attribute o m apos) (e::es) [] pos) (L4 c m n fn fo l):=(fE ho.h cl F.me F.ok hr F.bi .nil M0 ha.h hst hpl ht).imp fun σ H Q h=>by
 obtain⟨w,ρ,rfl,R,S,h⟩:=h
 refine⟨w,ρ,rfl,R,S,Ps.bd h fun p x vx e1 R1 r1 h1=>?_⟩
 obtain⟨a,dx,fs,rfl,q1,q2,h1⟩:=wZ hn R1 r1 h1
 refine⟨a,dx,fs,rfl,q1,q2,p,ρ,rfl,R1,S.mono R e1,Ps.bd h1 fun q ws vs e2 R2 r2 h2=>?_⟩
 unfold arW at h2
 by_cases z:(x::ws).length=n
 ·rw[if_pos z] at h2
  exact⟨q,x::ws,rfl,z,R2,by rw[EX];exact Rvs.cons (r1.mono R1 e2) r2,h2⟩
 ·rw[if_neg z] at h2
  exact h2.elim
def L3 (c:Str)(n:Nat)(fn:List W->M W)(l:JR->M (List W)):JR->M W:=fun ρ=>bd (l ρ) fun ws=>fun h=>match arW n fn (.loc h.length::ws) (h++[.ins c [] []]) with
 |.ok .non h'=>.ok (.loc h.length) h'
 |_=>.bad
theorem Rv.addLocI {K:PySem.W.Frag}{o:Wo}{q:Ig}{b:Ob}{u:HO}:Rv K (o.add q b u) (.loc o.h.length) (.ref q):=by
 unfold Rv
 refine⟨by show _<(o.h++[b]).length;simp,?_⟩
 show V.ref q=V.ref (if o.h.length=o.h.length then q else o.mu o.h.length)
 rw[if_pos rfl]
end
end
end L2
namespace PySem
open Sem (wp)
section
variable {prog:Ib}{w:Ic}{K:Type} [DecidableEq K] {knd:KeyKind prog w K}{A:Ik}{R:Result->Ii->Prop}
end
end PySem
namespace L2
open PySem PySem.Spec PyProof.Rows
section
variable {X:Cx}
end
section
section
variable {K:PySem.W.Frag}{o:Wo}
end
section
variable {X:Cx}{E:XK}{a:Expr}{p pos:IH}{l:JR->M (List W)}
end
end
section
section
variable {X:Cx}{E:XK}{e:Expr}{f:JR->M W}{pos:IH}
def sAug (i:Nat)(f:JR->M W):JR->M Fl:=fun ρ=>bd (Me i ρ) fun x=>bd (f ρ) fun y=>bd (addI x y) fun z=>pr (.nx (ρ.set i (some z)))
end
end
end L2
namespace L2
open PySem
section
variable {β:Type}{h:List Ob}{Q:β->List Ob->Prop}{j d:Nat}
theorem nt {c:Str}{ns:List Str}{ws:List W}(e:h[d]?=some (.ins c ns ws)):K8 c (.loc d) h=.ok (d,ns,ws) h:=by
 unfold K8
 simp only[e,if_true]
theorem cq {c f:Str}{ns:List Str}{ws:List W}{w:W}{k:W->M β}(e:h[d]?=some (.ins c ns ws))(e2:LR ns ws f=some w)(q:Ok (k w) h Q):Ok (bd (KU c f (.loc d)) k) h Q:=by
 refine bg (a:=w) (h':=h) ?_ q
 unfold KU
 rw[dG (nt e)]
 simp only[e2]
 rfl
theorem wg {c f:Str}{ns ns':List Str}{ws ws':List W}{y:W}{k:Unit->M β}(e:h[d]?=some (.ins c ns ws))(z:ns.length<1000)(e2:putN ns ws f y=(ns',ws'))(q:Ok (k ()) (h.set d (.ins c ns' ws')) Q):Ok (bd (Ni c f (.loc d) y) k) h Q:=by
 refine bg (a:=()) (h':=h.set d (.ins c ns' ws')) ?_ q
 unfold Ni
 rw[dG (nt e)]
 simp only[if_pos z,e2]
theorem dL {c m:Str}{ns:List Str}{ws:List W}{k:W->M β}(e:h[d]?=some (.ins c ns ws))(z:m ∉ ns)(q:Ok (k (.loc d)) h Q):Ok (bd (isI c m (.loc d)) k) h Q:=by
 refine bg (a:=.loc d) (h':=h) ?_ q
 unfold isI
 rw[dG (nt e)]
 simp only[if_neg z]
 rfl
theorem yO {c:Str}{n:Nat}{fn:List W->M W}{ws:List W}{P:List Ob->Prop}{k:W->M β}(hn:ws.length+1=n)(p:Ok (fn (.loc h.length::ws)) (h++[.ins c [] []]) fun w h'=>w=.non/\P h')(q:∀h',P h'->Ok (k (.loc h.length)) h' Q):
  Ok (bd (fun h=>match arW n fn (.loc h.length::ws) (h++[.ins c [] []]) with
 |.ok .non h'=>.ok (.loc h.length) h'
 |_=>.bad) k) h Q:=by
 obtain⟨w,h',e,rfl,hp⟩:=p
 refine bg (a:=.loc h.length) (h':=h') ?_ (q h' hp)
 have:arW n fn (.loc h.length::ws)=fn (.loc h.length::ws):=xR hn
 simp only[this,e]
end
def ctS (g:JR->M Fl):Fl->M Fl:=fun x=>match x with
 |.nx r=>g r
 |x=>pr x
def ctI (f g:JR->M Fl)(ρ:JR):Bool->M Fl:=fun b=>if b=true then f ρ else g ρ
theorem aQ (f g:JR->M Fl)(ρ:JR):NJ f g ρ=bd (f ρ) (ctS g):=by unfold NJ;rfl
theorem bG (g:JR->M Fl)(r:JR):ctS g (.nx r)=g r:=by unfold ctS;rfl
theorem bE (g:JR->M Fl)(w:W):ctS g (.rt w)=pr (.rt w):=by unfold ctS;rfl
theorem bJ (g:JR->M Fl)(r:JR):ctS g (.bk r)=pr (.bk r):=by unfold ctS;rfl
theorem bH (g:JR->M Fl)(r:JR):ctS g (.ct r)=pr (.ct r):=by unfold ctS;rfl
theorem bu (t:JR->M Bool)(f g:JR->M Fl)(ρ:JR):sIf t f g ρ=bd (t ρ) (ctI f g ρ):=by unfold sIf;rfl
theorem cz (f g:JR->M Fl)(ρ:JR):ctI f g ρ true=f ρ:=by unfold ctI;rw[if_pos rfl]
theorem cA (f g:JR->M Fl)(ρ:JR):ctI f g ρ false=g ρ:=by unfold ctI;rw[if_neg EE]
end L2
namespace L2
open PySem PySem.Spec PyProof.Rows
section
variable {X:Cx}{E:XK}{o e f:Expr}{apos cpos:IH}{fo fe ff:JR->M W}
end
noncomputable abbrev Tgt:=W->JR->Option JR
def NV:List Tgt->List W->JR->Option JR
 |[],[],ρ=>some ρ
 |t::r,w::l,ρ=>(t w ρ).bind (NV r l)
 |_,_,_=>none
section
variable {X:Cx}{E:XK}{o e f:Expr}{es:List Expr}{pos apos cpos:IH}{l:JR->M (List W)}{fo fe ff:JR->M W}
def ktW (ws:List W):M W:=match MV LG ws with
 |some ks=>gd (ws.length<=sizeLine) (pr (.kt ks))
 |none=>no
def mKt (l:JR->M (List W)):JR->M W:=fun ρ=>bd (l ρ) ktW
theorem nC {K:PySem.W.Frag}{o:Wo}: ∀ {ws:List W}{vs:List V}{ks:List Key},MV LG ws=some ks->Rvs K o ws vs->vs=ks.map kV
 |[],vs,ks,e,r=>by unfold Rvs at r;cases e;exact r
 |w::ws,vs,ks,e,r=>by
  unfold Rvs at r
  obtain⟨v,r',rfl,h1,h2⟩:=r
  unfold MV at e
  split at e
  ·rename_i b c e1 e2
   cases e
   rw[iY e1 h1,nC e2 h2]
   rfl
  ·cases e
theorem Dw {x1}(h:JA X E es l):JE X E (.Tuple es x1 pos) (mKt l):=(jq h.h).imp fun σ H Q h=>by
 obtain⟨o,ρ,rfl,R,S,h⟩:=h
 refine⟨o,ρ,rfl,R,S,Ps.bd h fun p x vx e1 R1 r1 h1=>?_⟩
 unfold ktW at h1
 cases ek:MV LG x with
 |none=>rw[ek] at h1;exact h1.elim
 |some ks=>
  rw[ek] at h1
  obtain⟨hz,h1⟩:=h1.gd
  refine⟨by rw[r1.len];exact hz,fun q hq=>Ps.at (p:=⟨p.mu,p.h,upd p.H q (.tup vx)⟩) h1 rfl (Ex.new hq) (R1.new hq) ?_⟩
  unfold Rv
  exact⟨q,rfl,by rw[<-nC ek r1];exact aq⟩
def nB:JR->M W:=fun _ h=>.ok (.loc h.length) (h++[.dit [] []])
theorem wN:JE X E (.Dict [] [] pos) nB:=M3.imp fun σ H Q h=>by
 obtain⟨o,ρ,rfl,R,S,h⟩:=h
 intro q hq
 exact Ps.at (p:=o.add q (.dit [] []) (.dT [])) h rfl (Ex.add hq) (R.addT hq rfl Rvs.nil) Rv.addLoc
def KA (w:W)(h:List Ob):Option (List (List Key)×List W):=match w with
 |.loc k=>match h[k]? with
  |some (.dit ks ws)=>some (ks,ws)
  |_=>none
 |_=>none
theorem pR {o:Wo}{w:W}{v:V}{ks:List (List Key)}{ws:List W}(R:Rel X.K o)(e:KA w o.h=some (ks,ws))(h:Rv X.K o w v): ∃a kvs,v=.ref a/\Rd o.H a (.dT kvs)/\kvs.map (·.1)=ks/\Rvs X.K o ws (kvs.map (·.2)):=by
 cases w with
 |loc k=>
  unfold KA at e
  dsimp only at e
  split at e
  ·rename_i a b hk
   cases e
   unfold Rv at h
   obtain⟨kvs,h1,h2,h3⟩:=R.ob k _ hk
   exact⟨_,kvs,h.2,.inl h1,h2,h3⟩
  ·cases e
 |_=>cases e
def LH:W->Option (List Key)
 |.kt ks=>some ks
 |.tup l=>MV LG l
 |_=>none
theorem zx {K:PySem.W.Frag}{o:Wo}{x:W}{v:V}{k:List Key}(e:LH x=some k)(h:Rv K o x v): ∃b,v=.ref b/\SqT K o.H b (k.map kV):=by
 cases x with
 |kt ks=>cases e;unfold Rv at h;obtain⟨a,e,h⟩:=h;exact⟨a,e,.of h⟩
 |tup l=>
  unfold Rv at h
  obtain⟨a,vs,e1,s,r⟩:=h
  exact⟨a,e1,by rw[<-nC (show MV LG l=some k from e) r];exact s⟩
 |_=>cases e
theorem zw {pins:List (Ig×Ij)}{σ:St}{H:Hp}{s:Ii}{b:Ig}{k:List Key}(I:Inv X pins σ H s)(h:SqT X.K H b (k.map kV)):(IB (bZ X.prog X.w)).is s.heap k b:=by
 obtain⟨its,r,⟨o,h1,h2,n,h3⟩,_⟩:=I.tuple h
 exact⟨o,its.toArray,n,h1,h2,h3,by simpa using jA r⟩
theorem zM {pins:List (Ig×Ij)}{σ:St}{H:Hp}{s:Ii}{a b:Ig}{d:V}{r:H0}{kvs:List (List Key×V)}{k:List Key}{A:Ik}{Ex:H0->Ii->Prop}{Q:H0->Ii->Prop}(hu:A.units+1<Il)(I:Inv X pins σ H s)(e:Rd H a (.dT kvs))(eb:SqT X.K H b (k.map kV))(rd:RelV d r)(h:∀w' s',Inv X pins σ H s'->RelV ((OR kvs k).getD d) w'->Q w' s'):
  Im (Io X.prog X.w) A (call (.builtin "dict.get") [.ref a,.ref b,r]) Q Ex s:=by
 obtain⟨z,hd,xs,rel,dd⟩:=lj I.hok e
 refine call_meetsIn PySem.F.slot_dict_get dd.typeIs PySem.F.entry_dict_get (PySem.F.args_dict_get_3 _ _ _) (meetsH_dict_get_default (IB (bZ X.prog X.w)) a b hd r) ⟨Jq hu,k,xs,zw I eb,dd,h _ _ (I.tok _) ?_⟩
 exact (rel.val k).getD rd
def AA (K:PySem.W.Frag)(td ty tx:TE):TE:=fun σ H Q=>td σ H fun x H1=> ∃a,x=.ref a/\IsD H1 a/\ty σ H1 fun y H2=>tx σ H2 fun z H3=> ∃kvs k b,Rd H3 a (.dT kvs)/\y=.ref b/\SqT K H3 b (k.map kV)/\Q ((OR kvs k).getD z) H3
theorem v3 {td ty tx:TE}(hu:X.A.units+1<Il)(ho:PE X o td)(he:PE X e ty)(hf:PE X f tx)(m:M2 X o "get" apos e f cpos):PE X (.Call (.Attribute o "get" apos) [e,f] [] cpos) (AA X.K td ty tx):=by
 intro pins s σ H Q I h
 refine wpAny_Call_method m.base m.few m.line PySem.F.plainAttrs_dict PySem.F.slot_dict_get PySem.F.type_dict_get (thn (ho pins s σ H _ I h) fun u s1 qz=>?_)
 obtain⟨x,H1,I1,rx,a,ex,d,q1⟩:=qz
 subst ex
 obtain rfl:u=H0.ref a:=rx
 obtain⟨t1,t2,_⟩:=Cf I1 d
 refine⟨t1,t2,?_⟩
 rw[m.trees]
 refine Calls.callWith_builtin rfl (Calls.evalArgs_plain (Calls.spliced_cons (thn (he pins s1 σ H1 _ I1 q1) fun iv s2 ⟨y,H2,I2,ry,q2⟩=>
  Calls.spliced_cons (thn (hf pins s2 σ H2 _ I2 q2) fun fv s3 ⟨z,H3,I3,rz,kvs,k,b,e3,ey,eb,q3⟩=>Calls.spliced_nil ?_))))
 subst ey
 obtain rfl:iv=H0.ref b:=ry
 exact zM hu I3 e3 eb rz fun w' s4 I4 rw'=>⟨_,H3,I4,rw',q3⟩
def Le (x:W):M W:=fun h=>match KA x h with
 |some _=>.ok x h
 |none=>.bad
def K2 (x y d:W):M W:=fun h=>match KA x h with
 |some (ks,ws)=>match LH y with
  |some k=>.ok ((atK ks ws k).getD d) h
  |none=>.bad
 |none=>.bad
def L1 (fo fe ff:JR->M W):JR->M W:=fun ρ=>bd (fo ρ) fun x=>bd (Le x) fun x=>bd (fe ρ) fun y=>bd (ff ρ) fun d=>K2 x y d
theorem zn (hu:X.A.units+1<Il)(ho:JE X E o fo)(he:JE X E e fe)(hf:JE X E f ff)(m:M2 X o "get" apos e f cpos:=by exact⟨rfl,rfl,rfl,rfl⟩):JE X E (.Call (.Attribute o "get" apos) [e,f] [] cpos) (L1 fo fe ff):=
 (v3 hu ho.h he.h hf.h m).imp fun σ H Q h=>by
  obtain⟨w,ρ,rfl,R,S,h⟩:=h
  refine⟨w,ρ,rfl,R,S,Ps.bd h fun p x vx e1 R1 r1 h1=>?_⟩
  unfold bd Le at h1
  cases ed:KA x p.h with
  |none=>rw[ed] at h1;exact h1.elim
  |some kw=>
   obtain⟨ks0,ws0⟩:=kw
   rw[ed] at h1
   obtain⟨a,kvs0,rfl,d1,_,_⟩:=pR R1 ed r1
   refine⟨a,rfl,.inr ⟨kvs0,d1⟩,p,ρ,rfl,R1,S.mono R e1,Ps.bd (h:=h1) fun q y vy e2 R2 r2 h2=>⟨q,ρ,rfl,R2,(S.mono R e1).mono R1 e2,Ps.bd h2 fun s z vz e3 R3 r3 h3=>?_⟩⟩
   have rx:=(r1.mono R1 e2).mono R2 e3
   have ry:=r2.mono R2 e3
   unfold K2 at h3
   cases eh:KA x s.h with
   |none=>rw[eh] at h3;exact h3.elim
   |some kw=>
    obtain⟨ks,ws⟩:=kw
    rw[eh] at h3
    cases ek:LH y with
    |none=>simp only[ek] at h3;exact h3.elim
    |some k=>
     simp only[ek] at h3
     obtain⟨a',kvs,ea,g1,g2,g3⟩:=pR R3 eh rx
     cases ea
     obtain⟨b,rfl,sb⟩:=zx ek ry
     refine⟨kvs,k,b,g1,rfl,sb,?_⟩
     have hv:=ja (x:=k) g2 g3
     cases e4:atK ks ws k with
     |none=>
      rw[e4] at hv h3
      rw[show OR kvs k=none from hv]
      exact Ps.pr (c:=cg X E) (r:=Rv X.K) (a:=z) h3 R3 r3
     |some w=>
      rw[e4] at hv h3
      obtain⟨v,hv,rv⟩:=hv
      rw[show OR kvs k=some v from hv]
      exact Ps.pr (c:=cg X E) (r:=Rv X.K) (a:=w) h3 R3 rv
end
section
open Sem (wp)
open Builtin
noncomputable abbrev JX (h:Ie)(z TI TO:Ig)(f0:H0)(f1:Bool):Prop:=
 h.get? z=some {cls:=.type "zip",dict:=none,data:=.fields #[f0,.bool f1,.bool false,.ref TI,.ref TO],slots:= #[]}
noncomputable def F0 (f:H0):Prop:=f=.none\/ ∃T:Nat,f=IX T
structure YS (h:Ie)(z TI TO i1 i2 l1 l2:Ig)(T1 T2:String)(xs ys:Array H0)(n:Nat):Prop where
 z: ∃f0 f1,F0 f0/\JX h z TI TO f0 f1
 ti:Jw h TI (.ref i1) (.ref i2)
 to: ∃a b,Jw h TO a b
 u1:ItAt h T1 i1 l1 n
 u2:ItAt h T2 i2 l2 n
 s1:SeqAt h T1 l1 xs
 s2:SeqAt h T2 l2 ys
section
variable {prog:Ib}{w:Ic}{A:Ik}{E:H0->Ii->Prop}{s:Ii}
theorem pM {z TI TO:Ig}{f0:H0}{f1:Bool}{Q:Bool->Ii->Prop}(hz:JX s.heap z TI TO f0 f1)(hf:F0 f0)(kt:Q true s)(kf: ∀h',JX h' z TI TO f0 true->Fb z s.heap h'->Q false {s with heap:=h'}):Im (Io prog w) A (SmallTypes.ownedTupleIsFree (.ref z)) Q E s:=by
 unfold SmallTypes.ownedTupleIsFree
 rcases hf with rfl|⟨T,rfl⟩
 ·exact Ip (Jk hz rfl (x:=.none) rfl (Iu kt))
 ·refine Ip (Jk hz rfl (x:=IX T) rfl ?_)
  show Im _ _ (loadIfAlive T>>=_) _ _ s
  refine Ip (wpAny_alive ?_)
  cases s.heap.get? T with
  |none=>exact Iu kt
  |some o=>
   show Im _ _ (field (.ref z) 1>>=_) _ _ s
   refine Ip (Jk hz rfl (x:=.bool f1) rfl ?_)
   cases f1 with
   |true=>exact Iu (kf s.heap hz (Fb.refl _ _))
   |false=>exact Ip (Jx hz (by simp) fun h1 z1 e1=>Iu (kf h1 z1 e1))
where
 wpAny_alive {a:Ig}{M:Model}{Q:Option Ij->Ii->Prop}{s:Ii} (h:Q (s.heap.get? a) s):Im M A (loadIfAlive a) Q E s:=fun Γ p _=>by
  unfold loadIfAlive
  rw[Sem.wp_loadIfAlive]
  simpa using h
theorem tN {z TI TO i1 i2 l1 l2:Ig}{T1 T2:String}{n:Nat}{xs ys:Array H0}{x y:H0}{Q:H0->Ii->Prop}(hh:A.handled=none)(D:ZA z TI TO i1 i2 l1 l2)(Z:YS s.heap z TI TO i1 i2 l1 l2 T1 T2 xs ys n)(hx:xs[n]?=some x)(hy:ys[n]?=some y)
  (k:∀h' tk,YS h' z TI TO i1 i2 l1 l2 T1 T2 xs ys (n+1)->Jw h' s.heap.objs.size x y->h'.objs.size=s.heap.objs.size+1->(∀c o,c≠z->c≠TO->c≠i1->c≠i2->s.heap.get? c=some o->h'.get? c=some o)->Q (.ref s.heap.objs.size) {s with heap:=h',toks:=tk}):
  Im (Io prog w) A (H9.«zip.__next__» ⟨[.ref z],[]⟩) (fun fin s'=> ∃v,fin=.done (.ret v)/\Q v s') E s:=by
 obtain⟨⟨f0,f1,hf,hz⟩,hti,⟨a,b,hto⟩,u1,u2,s1,s2⟩:=Z
 have nx:n<xs.size:=(Gp.mp hx).1
 have ny:n<ys.size:=(Gp.mp hy).1
 show Im _ _ (field (.ref z) 2>>=_) _ _ s;refine Ip (Jk hz rfl (x:=.bool false) rfl ?_)
 show Im _ _ (field (.ref z) 3>>=_) _ _ s;refine Ip (Jk hz rfl (x:=.ref TI) rfl (Ip (Iz hti rfl ?_)))
 show Im _ _ (SmallTypes.ownedTupleIsFree (.ref z)>>=_) _ _ s
 refine Ip (pM hz hf ?_ fun h1 z1 e1=>?_)
 ·simp only[if_true]
  refine Ip (Iv (Ip (Jk hz rfl (x:=.ref TO) rfl (Ip (Jx hz (by simp) fun h1 z1 e1=>?_)))))
  replace z1:JX h1 z TI TO .ellipsis f1:=z1
  refine Ip ?_;simp only[Gq,Gr,E4,Fc]
  refine Ip (Ip (Jy ?_));show Im _ _ (SmallTypes.nextOf (.ref i1)>>=_) _ _ _
  refine Ip ((bf (prog:=prog) (w:=w) hh T1 i1 l1 D.b4 xs).item n _ _ _ nx ⟨u1.keep fun o q=>e1.extBut _ _ D.a3 q,s1.keep fun o q=>e1.extBut _ _ D.b2 q⟩ fun x' h2 tk2 px st2 e2=>Iu ?_)
  have:x'=x:=Option.some.inj (px.symm.trans hx)
  subst this
  have to2:Jw h2 TO a b:=e2.extBut _ _ D.a8 (e1.extBut _ _ D.a2 hto)
  refine Ip (Iz to2 rfl (Ip (Jz to2 fun h3 to3 e3=>?_)))
  replace to3:Jw h3 TO x' b:=to3
  refine Ip (JB (Iu (Ip (Ip (Jy ?_)))));show Im _ _ (SmallTypes.nextOf (.ref i2)>>=_) _ _ _
  refine Ip ((bf (prog:=prog) (w:=w) hh T2 i2 l2 D.b9 ys).item n _ _ _ ny ⟨u2.keep fun o q=>e3.extBut _ _ (Ne.symm D.a9) (e2.extBut _ _ (Ne.symm D.b1) (e1.extBut _ _ D.a4 q)),s2.keep fun o q=>e3.extBut _ _ D.b7 (e2.extBut _ _ D.b8 (e1.extBut _ _ D.b6 q))⟩ fun y' h4 tk4 py st4 e4=>Iu ?_)
  have:y'=y:=Option.some.inj (py.symm.trans hy)
  subst this
  have to4:Jw h4 TO x' b:=e4.extBut _ _ D.a9 to3
  refine Ip (Iz to4 rfl (Ip (Jz to4 fun h5 to5 e5=>?_)))
  replace to5:Jw h5 TO x' y':=to5
  refine Ip (JB (Iu (Iu ?_)));refine Ip (Iz to5 rfl (Ip (wpAny_newTuple ?_)))
  have zs:h5.objs.size=s.heap.objs.size:=by rw[e5.1,e4.1,e3.1,e2.1,e1.1]
  have z5:JX h5 z TI TO .ellipsis f1:=e5.extBut _ _ (Ne.symm D.a2) (e4.extBut _ _ (Ne.symm D.a4) (e3.extBut _ _ (Ne.symm D.a2) (e2.extBut _ _ (Ne.symm D.a3) z1)))
  have k5: ∀c o,c≠z->c≠TO->c≠i1->c≠i2->s.heap.get? c=some o->h5.get? c=some o:=fun c o c1 c2 c3 c4 e=>e5.extBut _ _ c2 (e4.extBut _ _ c4 (e3.extBut _ _ c2 (e2.extBut _ _ c3 (e1.extBut _ _ c1 e))))
  have zl:z<h5.objs.size:=Eu z5
  show Im _ _ (SmallTypes.ownedTupleHandOut (.ref z) (.ref h5.objs.size)>>=_) _ _ _
  refine Ip ?_;unfold SmallTypes.ownedTupleHandOut
  have z6:JX (h5.push {cls:=.type "tuple",data:=.seq #[x',y']}) z TI TO .ellipsis f1:=Ey _ z5
  refine Ip (Jx z6 (by simp) fun h7 z7 e7=>?_)
  replace z7:JX h7 z TI TO (IX h5.objs.size) f1:=z7
  refine Jx z7 (by simp) fun h8 z8 e8=>?_
  replace z8:JX h8 z TI TO (IX h5.objs.size) false:=z8
  have up: ∀c o,c≠z->h5.get? c=some o->h8.get? c=some o:=fun c o c1 e=>e8.extBut _ _ c1 (e7.extBut _ _ c1 (Ey _ e))
  have pr8:Jw h8 h5.objs.size x' y':=e8.extBut _ _ (FK zl) (e7.extBut _ _ (FK zl) (EJ _ rfl))
  have sz8:h8.objs.size=h5.objs.size+1:=by rw[e8.1,e7.1,E7]
  rw[zs] at z8 pr8 sz8
  refine Iu ⟨_,rfl,?_⟩
  show Q (.ref h5.objs.size) _
  rw[zs]
  refine k h8 _ ⟨⟨_,_,.inr ⟨_,rfl⟩,z8⟩,up _ _ D.a1 (k5 _ _ D.a1 D.a5 D.a6 D.a7 hti),⟨_,_,up _ _ D.a2 to5⟩,?_,?_,s1.keep fun o q=>up _ _ D.b2 (k5 _ _ D.b2 D.b3 D.b4 D.b5 q),s2.keep fun o q=>up _ _ D.b6 (k5 _ _ D.b6 D.b7 D.b8 D.b9 q)⟩ pr8 sz8 fun c o c1 c2 c3 c4 e=>up c o c1 (k5 c o c1 c2 c3 c4 e)
  ·exact st2.1.keep fun o q=>up _ _ D.a3 (e5.extBut _ _ (Ne.symm D.a8) (e4.extBut _ _ D.b1 (e3.extBut _ _ (Ne.symm D.a8) q)))
  ·exact st4.1.keep fun o q=>up _ _ D.a4 (e5.extBut _ _ (Ne.symm D.a9) q)
 ·simp only[Ff,if_false]
  refine Ip ?_
  rw[<-FU]
  simp only[E4,Fc]
  refine Ip (Ip (Ix ?_));show Im _ _ (SmallTypes.nextOf (.ref i1)>>=_) _ _ _
  refine Ip ((bf (prog:=prog) (w:=w) hh T1 i1 l1 D.b4 xs).item n _ _ _ nx ⟨u1.keep fun o q=>e1.extBut _ _ D.a3 q,s1.keep fun o q=>e1.extBut _ _ D.b2 q⟩ fun x' h2 tk2 px st2 e2=>Iu ?_)
  have:x'=x:=Option.some.inj (px.symm.trans hx)
  subst this
  refine Iu (Ip (Ip (Ix ?_)));show Im _ _ (SmallTypes.nextOf (.ref i2)>>=_) _ _ _
  refine Ip ((bf (prog:=prog) (w:=w) hh T2 i2 l2 D.b9 ys).item n _ _ _ ny ⟨u2.keep fun o q=>e2.extBut _ _ (Ne.symm D.b1) (e1.extBut _ _ D.a4 q),s2.keep fun o q=>e2.extBut _ _ D.b8 (e1.extBut _ _ D.b6 q)⟩ fun y' h4 tk4 py st4 e4=>Iu ?_)
  have:y'=y:=Option.some.inj (py.symm.trans hy)
  subst this
  refine Iu (Iu (Ip (wpAny_newTuple ?_ (show (2:Nat)<=sizeLine by decide))))
  have zs:h4.objs.size=s.heap.objs.size:=by rw[e4.1,e2.1,e1.1]
  have k4: ∀c o,c≠z->c≠i1->c≠i2->s.heap.get? c=some o->h4.get? c=some o:=fun c o c1 c3 c4 e=>e4.extBut _ _ c4 (e2.extBut _ _ c3 (e1.extBut _ _ c1 e))
  have z4:JX h4 z TI TO f0 true:=e4.extBut _ _ (Ne.symm D.a4) (e2.extBut _ _ (Ne.symm D.a3) z1)
  have up: ∀c o,h4.get? c=some o->(h4.push {cls:=.type "tuple",data:=.seq #[x',y']}).get? c=some o:=fun c o e=>Ey _ e
  refine Iu ⟨_,rfl,?_⟩
  show Q (.ref h4.objs.size) _
  have pr8:Jw (h4.push {cls:=.type "tuple",data:=.seq #[x',y']}) h4.objs.size x' y':=EJ _ rfl
  have sz8:(h4.push {cls:=.type "tuple",data:=.seq #[x',y']}).objs.size=h4.objs.size+1:=E7 ..
  rw[zs] at pr8 sz8 ⊢
  refine k _ _ ⟨⟨_,_,hf,up _ _ z4⟩,up _ _ (k4 _ _ D.a1 D.a6 D.a7 hti),⟨_,_,up _ _ (k4 _ _ D.a2 D.a8 D.a9 hto)⟩,?_,?_,s1.keep fun o q=>up _ _ (k4 _ _ D.b2 D.b4 D.b5 q),s2.keep fun o q=>up _ _ (k4 _ _ D.b6 D.b8 D.b9 q)⟩ pr8 sz8 fun c o c1 c2 c3 c4 e=>up c o (k4 c o c1 c3 c4 e)
  ·exact st2.1.keep fun o q=>up _ _ (e4.extBut _ _ D.b1 q)
  ·exact st4.1.keep fun o q=>up _ _ q
theorem u6 {z TI TO i1 i2 l1 l2:Ig}{T1 T2:String}{n:Nat}{xs ys:Array H0}{Q:Fin->Ii->Prop}(hh:A.handled=none)(D:ZA z TI TO i1 i2 l1 l2)(Z:YS s.heap z TI TO i1 i2 l1 l2 T1 T2 xs ys n)(he:(n=xs.size/\n<=ys.size)\/(n<xs.size/\n=ys.size))
  (k:∀h' tk e,(∀c o,c≠z->c≠TO->c≠i1->c≠i2->s.heap.get? c=some o->h'.get? c=some o)->(∃o,h'.get? e=some o/\o.cls=.type "StopIteration")->E (.ref e) {s with heap:=h',toks:=tk}):
  Im (Io prog w) A (H9.«zip.__next__» ⟨[.ref z],[]⟩) Q E s:=by
 obtain⟨⟨f0,f1,hf,hz⟩,hti,⟨a,b,hto⟩,u1,u2,s1,s2⟩:=Z
 show Im _ _ (field (.ref z) 2>>=_) _ _ s;refine Ip (Jk hz rfl (x:=.bool false) rfl ?_)
 show Im _ _ (field (.ref z) 3>>=_) _ _ s;refine Ip (Jk hz rfl (x:=.ref TI) rfl (Ip (Iz hti rfl ?_)))
 show Im _ _ (SmallTypes.ownedTupleIsFree (.ref z)>>=_) _ _ s
 refine Ip (pM hz hf ?_ fun h1 z1 e1=>?_)
 ·simp only[if_true]
  refine Ip (Iv (Ip (Jk hz rfl (x:=.ref TO) rfl (Ip (Jx hz (by simp) fun h1 z1 e1=>?_)))))
  replace z1:JX h1 z TI TO .ellipsis f1:=z1
  refine Ip ?_;simp only[Gq,Gr,E4,Fc]
  refine Ip (Ip (Jy ?_));show Im _ _ (SmallTypes.nextOf (.ref i1)>>=_) _ _ _
  have st1:ItAt h1 T1 i1 l1 n/\SeqAt h1 T1 l1 xs:=⟨u1.keep fun o q=>e1.extBut _ _ D.a3 q,s1.keep fun o q=>e1.extBut _ _ D.b2 q⟩
  rcases he with⟨rfl,_⟩|⟨nx,hy⟩
  ·refine Ip ((bf (prog:=prog) (w:=w) hh T1 i1 l1 D.b4 xs).done _ _ _ st1 fun h2 e e2 he=>?_)
   obtain⟨oe,g1,g2⟩:=he
   have z2:JX h2 z TI TO .ellipsis f1:=e2 _ _ (Ne.symm D.a3) z1
   have ez:e≠z:=fun q=>by subst q;rw[z2] at g1;cases g1;simp at g2
   exact Jx z2 (by simp) fun h3 _ e3=>k h3 _ e (fun c o c1 _ c3 _ q=>e3.extBut _ _ c1 (e2 _ _ c3 (e1.extBut _ _ c1 q))) ⟨oe,e3.extBut _ _ ez g1,g2⟩
  ·refine Ip ((bf (prog:=prog) (w:=w) hh T1 i1 l1 D.b4 xs).item n _ _ _ nx st1 fun x' h2 tk2 px st2 e2=>Iu ?_)
   have to2:Jw h2 TO a b:=e2.extBut _ _ D.a8 (e1.extBut _ _ D.a2 hto)
   refine Ip (Iz to2 rfl (Ip (Jz to2 fun h3 to3 e3=>?_)))
   refine Ip (JB (Iu (Ip (Ip (Jy ?_)))));show Im _ _ (SmallTypes.nextOf (.ref i2)>>=_) _ _ _
   subst hy
   refine Ip ((bf (prog:=prog) (w:=w) hh T2 i2 l2 D.b9 ys).done _ _ _ ⟨u2.keep fun o q=>e3.extBut _ _ (Ne.symm D.a9) (e2.extBut _ _ (Ne.symm D.b1) (e1.extBut _ _ D.a4 q)),s2.keep fun o q=>e3.extBut _ _ D.b7 (e2.extBut _ _ D.b8 (e1.extBut _ _ D.b6 q))⟩ fun h4 e e4 he=>?_)
   obtain⟨oe,g1,g2⟩:=he
   have z4:JX h4 z TI TO .ellipsis f1:=e4 _ _ (Ne.symm D.a4) (e3.extBut _ _ (Ne.symm D.a2) (e2.extBut _ _ (Ne.symm D.a3) z1))
   have ez:e≠z:=fun q=>by subst q;rw[z4] at g1;cases g1;simp at g2
   exact Jx z4 (by simp) fun h5 _ e5=>k h5 _ e (fun c o c1 c2 c3 c4 q=>e5.extBut _ _ c1 (e4 _ _ c4 (e3.extBut _ _ c2 (e2.extBut _ _ c3 (e1.extBut _ _ c1 q))))) ⟨oe,e5.extBut _ _ ez g1,g2⟩
 ·simp only[Ff,if_false]
  refine Ip ?_
  rw[<-FU]
  simp only[E4,Fc]
  refine Ip (Ip (Ix ?_));show Im _ _ (SmallTypes.nextOf (.ref i1)>>=_) _ _ _
  have st1:ItAt h1 T1 i1 l1 n/\SeqAt h1 T1 l1 xs:=⟨u1.keep fun o q=>e1.extBut _ _ D.a3 q,s1.keep fun o q=>e1.extBut _ _ D.b2 q⟩
  rcases he with⟨rfl,_⟩|⟨nx,hy⟩
  ·refine Ip ((bf (prog:=prog) (w:=w) hh T1 i1 l1 D.b4 xs).done _ _ _ st1 fun h2 e e2 he=>?_)
   exact k h2 _ e (fun c o c1 _ c3 _ q=>e2 _ _ c3 (e1.extBut _ _ c1 q)) he
  ·refine Ip ((bf (prog:=prog) (w:=w) hh T1 i1 l1 D.b4 xs).item n _ _ _ nx st1 fun x' h2 tk2 px st2 e2=>Iu ?_)
   refine Iu (Ip (Ip (Ix ?_)));show Im _ _ (SmallTypes.nextOf (.ref i2)>>=_) _ _ _
   subst hy
   refine Ip ((bf (prog:=prog) (w:=w) hh T2 i2 l2 D.b9 ys).done _ _ _ ⟨u2.keep fun o q=>e2.extBut _ _ (Ne.symm D.b1) (e1.extBut _ _ D.a4 q),s2.keep fun o q=>e2.extBut _ _ D.b8 (e1.extBut _ _ D.b6 q)⟩ fun h4 e e4 he=>?_)
   exact k h4 _ e (fun c o c1 c2 c3 c4 q=>e4 _ _ c4 (e2.extBut _ _ c3 (e1.extBut _ _ c1 q))) he
theorem uo {z TI TO i1 i2 l1 l2:Ig}{T1 T2:String}{n:Nat}{xs ys:Array H0}{x y:H0}{Q:Option H0->Ii->Prop}(hh:A.in1.handled=none)(D:ZA z TI TO i1 i2 l1 l2)(Z:YS s.heap z TI TO i1 i2 l1 l2 T1 T2 xs ys n)(hx:xs[n]?=some x)(hy:ys[n]?=some y)
  (k:∀h' tk,YS h' z TI TO i1 i2 l1 l2 T1 T2 xs ys (n+1)->Jw h' s.heap.objs.size x y->h'.objs.size=s.heap.objs.size+1->(∀c o,c≠z->c≠TO->c≠i1->c≠i2->s.heap.get? c=some o->h'.get? c=some o)->Q (some (.ref s.heap.objs.size)) {s with heap:=h',toks:=tk}):
  Im (Io prog w) A (IV (.ref z)) Q E s:=by
 have hT:s.TypeIs (.ref z) "zip":=by obtain⟨f0,f1,_,hz⟩:=Z.z;exact⟨_,hz,rfl⟩
 unfold IV
 exact Ip (wpAny_attempt (wpAny_callSpecial?_slot (name:=Str.ofString "__next__") hT F.slot_zip_next (Ir F.slot_zip_next hT F.entry_zip_next (tN hh D Z hx hy fun h' tk a1 a2 a3 a4=>Iu (k h' tk a1 a2 a3 a4)) (F.args_zip_next_1 _))))
theorem xq {z TI TO i1 i2 l1 l2:Ig}{T1 T2:String}{n:Nat}{xs ys:Array H0}{Q:Option H0->Ii->Prop}(hh:A.in1.handled=none)(D:ZA z TI TO i1 i2 l1 l2)(Z:YS s.heap z TI TO i1 i2 l1 l2 T1 T2 xs ys n)(he:(n=xs.size/\n<=ys.size)\/(n<xs.size/\n=ys.size))
  (k:∀h' tk,(∀c o,c≠z->c≠TO->c≠i1->c≠i2->s.heap.get? c=some o->h'.get? c=some o)->Q none {s with heap:=h',toks:=tk}):Im (Io prog w) A (IV (.ref z)) Q E s:=by
 have hT:s.TypeIs (.ref z) "zip":=by obtain⟨f0,f1,_,hz⟩:=Z.z;exact⟨_,hz,rfl⟩
 unfold IV
 refine Ip (wpAny_attempt (wpAny_callSpecial?_slot (name:=Str.ofString "__next__") hT F.slot_zip_next (Ir F.slot_zip_next hT F.entry_zip_next (u6 hh D Z he fun h' tk e hk ⟨o,g1,g2⟩=>?_) (F.args_zip_next_1 _))))
 exact Ip (Iw (T:= "StopIteration") (b:=true) ⟨o,g1,g2⟩ isSubtype_stop (Iu (k _ _ hk)))
theorem uG {z TI TO:Ig}{f0:H0}{f1:Bool}{Q:H0->Ii->Prop}(hz:JX s.heap z TI TO f0 f1)(h:Q (.ref z) s):Im (Io prog w) A (pyIter (.ref z)) Q E s:=by
 have hT:s.TypeIs (.ref z) "zip":=⟨_,hz,rfl⟩
 refine wpAny_pyIter_slot hT F.slot_zip_iter (Ir F.slot_zip_iter hT F.entry_zip_iter ?_ (F.args_zip_iter_1 _))
 show Im _ _ (ret (.ref z)) _ _ s
 exact Iu ⟨_,rfl, "zip",_,hT,F.slot_zip_next.lookup,h⟩
end
structure YO (h:Ie)(z TI TO i1 i2 a b:Ig)(T1 T2:String)(n:Nat):Prop where
 z: ∃f0 f1,F0 f0/\JX h z TI TO f0 f1
 ti:Jw h TI (.ref i1) (.ref i2)
 to: ∃u v,Jw h TO u v
 u1:ItAt h T1 i1 a n
 u2:ItAt h T2 i2 b n
theorem YO.keep {h h':Ie}{z TI TO i1 i2 a b:Ig}{T1 T2:String}{n:Nat}(Z:YO h z TI TO i1 i2 a b T1 T2 n)(k:∀c∈[z,TI,TO,i1,i2],∀o,h.get? c=some o->h'.get? c=some o):YO h' z TI TO i1 i2 a b T1 T2 n:=
 ⟨let ⟨f0,f1,q1,q2⟩:=Z.z;⟨f0,f1,q1,k z (by simp) _ q2⟩,k TI (by simp) _ Z.ti,let ⟨u,v,q⟩:=Z.to;⟨u,v,k TO (by simp) _ q⟩,Z.u1.keep fun o q=>k i1 (by simp) o q,Z.u2.keep fun o q=>k i2 (by simp) o q⟩
theorem tQ {P:Ib}{w:Ic}{K:PySem.W.Frag}{xn:Str}{tpos:IH}{a b z TI TO i1 i2:Ig}{j k:Bool}(D:ZA z TI TO i1 i2 a b):J7 P w K (.Name xn tpos) (Itz j k K a b) [z,TI,TO,i1,i2] z (fun i h=>YO h z TI TO i1 i2 a b (tyK j) (tyK k) i) where
 mem:=by simp
 obj:=fun i h st c hc=>by
  simp only[En,EF,or_false] at hc
  rcases hc with rfl|rfl|rfl|rfl|rfl
  ·obtain⟨_,_,_,q⟩:=st.z
   exact⟨_,q,fun v z=>by cases z⟩
  ·exact⟨_,st.ti,fun v z=>by cases z⟩
  ·obtain⟨_,_,q⟩:=st.to
   exact⟨_,q,fun v z=>by cases z⟩
  ·obtain⟨o,e,c,d⟩:=st.u1
   exact⟨o,e,fun v z=>by rw[d] at z;cases z⟩
  ·obtain⟨o,e,c,d⟩:=st.u2
   exact⟨o,e,fun v z=>by rw[d] at z;cases z⟩
 keep:=fun i h h' st kk=>st.keep kk
 item:=by
  intro X hP hw hK hc i pins s σ H E I hf st hg
  subst hP hw hK
  obtain⟨xs,ys,x,y,hq1,hq2,hx,hy⟩:=hg
  obtain⟨is1,rv1,q1⟩:=I.seqK hq1
  obtain⟨is2,rv2,q2⟩:=I.seqK hq2
  obtain⟨u,hu,ru⟩:=rv1.get hx
  obtain⟨v,hv,rv⟩:=rv2.get hy
  have fz:=hf z (by simp)
  have fO:=hf TO (by simp)
  have f1:=hf i1 (by simp)
  have f2:=hf i2 (by simp)
  refine uo (I.ok.hd hc) D ⟨st.z,st.ti,st.to,st.u1,st.u2,q1,q2⟩ (by simpa using hu) (by simpa using hv) fun h' tk Z' hT hsz hk=>?_
  have nT:H s.heap.objs.size=none:=I.hok.fresh (Em _)
  have lt: ∀c o,s.heap.get? c=some o->c≠s.heap.objs.size:=fun c o q=>EK (Eu q)
  have ltH: ∀c o,H c=some o->c≠s.heap.objs.size:=fun c o q z=>by rw[z,nT] at q;cases q
  have neH: ∀c o,H c=some o->c≠z/\c≠TO/\c≠i1/\c≠i2:=fun c o q=>⟨fun z=>by (rw[z,fz.1] at q;cases q),fun z=>by (rw[z,fO.1] at q;cases q),fun z=>by (rw[z,f1.1] at q;cases q),fun z=>by (rw[z,f2.1] at q;cases q)⟩
  have hk': ∀c o,c ∉ [z,TO,i1,i2]->s.heap.get? c=some o->h'.get? c=some o:=fun c o n q=>hk c o (fun z=>n (by simp [z])) (fun z=>n (by simp [z])) (fun z=>n (by simp [z])) (fun z=>n (by simp [z])) q
  have I1:Inv X pins σ (upd H s.heap.objs.size (.tup [x,y])) {s with heap:=h',toks:=tk}:=by
   refine I.call' (s':={s with heap:=h',toks:=tk}) (ch:=[z,TO,i1,i2]) rfl ⟨fun b o q n hb hx=>?_,fun b o q n hb hx=>?_,fun b o q n hx=>?_,fun b o q hx=>?_,fun b xs q=>?_,fun b o u q=>?_,fun b ps q=>?_⟩ (fun b o q=>?_) I.bare fun b hb=>?_
   ·exact hk' b o hx q
   ·exact⟨o.slots,hk' b o hx q⟩
   ·rw[af (lt b o q)];exact n
   ·exact⟨o,hk' b o hx q⟩
   ·rw[af (ltH b _ q)];exact q
   ·rw[af (ltH b _ q)];exact q
   ·exact⟨#[],by rw[af (ltH b _ q),q];simp⟩
   ·by_cases hb:b=s.heap.objs.size
    ·subst hb
     rw[aq] at q
     cases q
     exact⟨by show 2<=sizeLine;decide,_,.cons ru (.cons rv .nil),⟨_,hT,rfl,_,rfl⟩,_,hT,rfl⟩
    ·rw[af hb] at q
     refine (I.hok b o q).stay (fun c v hc r=>?_) (fun c r=>by rw[af (ltH c _ r)];exact r) fun c xs r=>by rw[af (ltH c _ r)];exact r
     have: ∃o,H c=some o:=by
      rcases hc with rfl|hc
      ·exact⟨o,q⟩
      ·exact⟨_,hc⟩
     obtain⟨o',qo⟩:=this
     obtain⟨n1,n2,n3,n4⟩:=neH c o' qo
     exact hk c v n1 n2 n3 n4 r
   ·have fb:JV X pins H b:=by
     simp only[En,EF,or_false] at hb
     rcases hb with rfl|rfl|rfl|rfl
     ·exact fz
     ·exact fO
     ·exact f1
     ·exact f2
    exact⟨fb.2.2.2.1,fb.2.1,fb.2.2.2.2.1,fb.2.2.2.2.2⟩
  have nn: ∀c∈[z,TI,TO,i1,i2],c≠s.heap.objs.size:=fun c hc=>by
   simp only[En,EF,or_false] at hc
   rcases hc with rfl|rfl|rfl|rfl|rfl
   ·obtain⟨_,_,_,q⟩:=st.z;exact lt _ _ q
   ·exact lt _ _ st.ti
   ·obtain⟨_,_,q⟩:=st.to;exact lt _ _ q
   ·obtain⟨o,e,_⟩:=st.u1;exact lt _ _ e
   ·obtain⟨o,e,_⟩:=st.u2;exact lt _ _ e
  refine⟨_,rfl,Iu ⟨.ref s.heap.objs.size,upd H s.heap.objs.size (.tup [x,y]),I1,rfl,⟨s.heap.objs.size,x,y,nT,rfl,fun xs' ys' h1 h2=>by rw[I.seqK_inj h1 hq1,I.seqK_inj h2 hq2];exact⟨hx,hy⟩,rfl⟩,⟨Z'.z,Z'.ti,Z'.to,Z'.u1,Z'.u2⟩,fun c hc=>?_⟩⟩
  rw[af (nn c hc)]
  exact (hf c hc).1
 done:=by
  intro X hP hw hK hc i pins s σ H E I hf st hg
  subst hP hw hK
  obtain⟨xs,ys,hq1,hq2,hx⟩:=hg
  obtain⟨is1,rv1,q1⟩:=I.seqK hq1
  obtain⟨is2,rv2,q2⟩:=I.seqK hq2
  have l1:=rv1.length
  have l2:=rv2.length
  have fz:=hf z (by simp)
  have fO:=hf TO (by simp)
  have f1:=hf i1 (by simp)
  have f2:=hf i2 (by simp)
  refine xq (I.ok.hd hc) D ⟨st.z,st.ti,st.to,st.u1,st.u2,q1,q2⟩ (by
   rw[Ez,Ez]
   omega) fun h' tk hk=>⟨rfl,?_⟩
  refine I.call' (s':={s with heap:=h',toks:=tk}) (ch:=[z,TO,i1,i2]) rfl ⟨fun b o q n hb hx=>?_,fun b o q n hb hx=>?_,fun b o q n hx=>n,fun b o q hx=>?_,fun b xs q=>q,fun b o u q=>q,fun b ps q=>⟨#[],by rw[q];simp⟩⟩ (fun b o q=>?_) I.bare fun b hb=>?_
  ·exact hk b o (fun z=>hx (by simp [z])) (fun z=>hx (by simp [z])) (fun z=>hx (by simp [z])) (fun z=>hx (by simp [z])) q
  ·exact⟨o.slots,hk b o (fun z=>hx (by simp [z])) (fun z=>hx (by simp [z])) (fun z=>hx (by simp [z])) (fun z=>hx (by simp [z])) q⟩
  ·exact⟨o,hk b o (fun z=>hx (by simp [z])) (fun z=>hx (by simp [z])) (fun z=>hx (by simp [z])) (fun z=>hx (by simp [z])) q⟩
  ·refine (I.hok b o q).stay (fun c v hc r=>?_) (fun c r=>r) fun c xs r=>r
   have: ∃o,H c=some o:=by
    rcases hc with rfl|hc
    ·exact⟨o,q⟩
    ·exact⟨_,hc⟩
   obtain⟨o',qo⟩:=this
   exact hk c v (fun z=>by rw[z,fz.1] at qo;cases qo) (fun z=>by rw[z,fO.1] at qo;cases qo) (fun z=>by rw[z,f1.1] at qo;cases qo) (fun z=>by rw[z,f2.1] at qo;cases qo) r
  ·have fb:JV X pins H b:=by
    simp only[En,EF,or_false] at hb
    rcases hb with rfl|rfl|rfl|rfl
    ·exact fz
    ·exact fO
    ·exact f1
    ·exact f2
   exact⟨fb.2.2.2.1,fb.2.1,fb.2.2.2.2.1,fb.2.2.2.2.2⟩
 self:=fun _ _ _ _ _ st h=>by obtain⟨_,_,_,q⟩:=st.z;exact uG q h
section
variable {X:Cx}
theorem yy {j k:Bool}{a b:Expr}{ta:TA}{p pos:IH}{xn:Str}{tpos:IH}(hg:Gl X "zip")(hm:X.mg "zip"=none)(ha:PA X [a,b] ta)(hs:IJ [a,b] X.env=[(false,IG a X.env),(false,IG b X.env)]:=by rfl)(hs2:IJ [b] X.env=[(false,IG b X.env)]:=by rfl):PI X (.Name xn tpos) (.Call (.Name "zip" p) [a,b] [] pos) (iZip j k X.K ta):=by
 intro pins s σ H R I h
 refine Call_ (d6 I hg hm boot_zip (PyProof.Rows.callWith_type1 (thn (ha pos pins s σ H _ I h) fun us s1 qz=>?_) (by rw[hs,hs2]) (by rw[hs2];rfl)))
 obtain⟨vs,H1,I1,r1,q1⟩:=qz
 obtain⟨a',b',e,⟨xs,hq1⟩,⟨ys,hq2⟩,q⟩:=q1
 subst e
 obtain⟨u,v,rfl,ru,rv⟩:=r1.two
 cases ru
 cases rv
 obtain⟨is1,rv1,t1⟩:=I1.seqK hq1
 obtain⟨is2,rv2,t2⟩:=I1.seqK hq2
 have lt: ∀ {T:String}{l:Ig}{u:Array H0},SeqAt s1.heap T l u->l<s1.heap.objs.size:=fun{T l u} h=>by
  rcases h with⟨_,o,e,_⟩|⟨_,o,e,_⟩<;>exact Eu e
 refine mt t1 t2 fun h' Z hsz hk=>wpAny_pyIter_zip Z.z ?_
 have I2:Inv X pins σ H1 {s1 with heap:=h'}:=I1.kept (t':=s1.toks) hk
 refine⟨s1.heap.objs.size+4,[s1.heap.objs.size+4,s1.heap.objs.size+2,s1.heap.objs.size+3,s1.heap.objs.size,s1.heap.objs.size+1],_,_,H1,rfl,I2,tQ (j:=j) (k:=k) (u7 (lt t1) (lt t2)),⟨⟨_,_,.inl rfl,Z.z⟩,Z.ti,Z.to,Z.u1,Z.u2⟩,fun c hc=>?_,q⟩
 have hc':s1.heap.objs.size<=c:=by
  simp only[En,EF,or_false] at hc
  rcases hc with rfl|rfl|rfl|rfl|rfl
  ·exact Fx _ _
  ·exact Fx _ _
  ·exact Fx _ _
  ·exact Em _
  ·exact Fx _ _
 exact I1.fpOk hc' (I1.hok.fresh hc')
end
end
section
section
variable {X:Cx}{E:XK}{p pos:IH}
theorem zb (j k:Bool){a b:Expr}{xn:Str}{tpos:IH}{fl:JR->M (List W)}(hm:X.mg "zip"=none)(ha:JA X E [a,b] fl)(hg:Gl X "zip":=by rfl)(hs:IJ [a,b] X.env=[(false,IG a X.env),(false,IG b X.env)]:=by rfl)(hs2:IJ [b] X.env=[(false,IG b X.env)]:=by rfl):
  JI X E (.Name xn tpos) (.Call (.Name "zip" p) [a,b] [] pos) (Mc fl (Op j k)):=(yy (j:=j) (k:=k) hg hm ha.h hs hs2).imp fun σ H Q h=>by
 obtain⟨o,ρ,rfl,R,S,h⟩:=h
 refine⟨o,ρ,rfl,R,S,Ps.bd h fun p x vx e1 R1 r1 h1=>?_⟩
 rcases x with _|⟨w,_|⟨w2,_|⟨_,_⟩⟩⟩
 ·exact h1.elim
 ·exact h1.elim
 ·have h1:Ps (cg X E) (fun p s J=>J4 X.K p J s) p (bd (Om j w) (fun s=>bd (Om k w2) fun t=>pr ⟨OZ s.l t.l,fun h=>s.G h/\t.G h⟩) p.h) Q:=h1
  obtain⟨v,u,rfl,rv,ru⟩:=r1.two
  obtain⟨s,a,rfl,hq,sk,h1⟩:=jQ R1 rv h1
  obtain⟨t,b,rfl,hq2,sk2,h1⟩:=jQ R1 ru h1
  refine⟨a,b,rfl,hq,hq2,h1.pr R1 ⟨fun o X R g=>?_,fun o i w X R g e=>?_⟩⟩
  ·obtain⟨vs,k1,k2⟩:=sk o X R g.1
   obtain⟨us,k3,k4⟩:=sk2 o X R g.2
   exact⟨vs,us,k1,k3,by rw[k2.len,k4.len];show _=(OZ s.l t.l).length;unfold OZ;rw[Fm]⟩
  ·obtain⟨vs,k1,k2⟩:=sk o X R g.1
   obtain⟨us,k3,k4⟩:=sk2 o X R g.2
   obtain⟨x,y,ex,ey,rfl⟩:=iF e
   obtain⟨v1,hv1,rv1⟩:=k2.get ex
   obtain⟨v2,hv2,rv2⟩:=k4.get ey
   refine⟨⟨vs,us,v1,v2,k1,k3,hv1,hv2⟩,fun q H' yl=>?_⟩
   obtain⟨T,z1,z2,hT,rfl,hz,rfl⟩:=yl
   obtain⟨g1,g2⟩:=hz vs us k1 k3
   have e1:z1=v1:=Option.some.inj (g1.symm.trans hv1)
   have e2:z2=v2:=Option.some.inj (g2.symm.trans hv2)
   subst e1 e2
   refine⟨⟨o.mu,o.h,upd o.H T (.tup [z1,z2])⟩,rfl,rfl,Ex.new hT,R.new hT,Rv.newT R hT (Rvs.cons rv1 (Rvs.cons rv2 Rvs.nil))⟩
 ·exact h1.elim
end
end
section
noncomputable abbrev KN:List (PKy×Ig×V)->List (PKy×Ig×H0)->Prop:=Paired fun p q=>p.1=q.1/\p.2.1=q.2.1/\RelV p.2.2 q.2.2
def kvN (xs:List (PKy×Ig×V)):List (PKy×V):=xs.map fun x=>(x.1,x.2.2)
def Nk (xs:List (PKy×Ig×V))(k:PKy)(c:Ig)(v:V):List (PKy×Ig×V):=
 if (xs.any fun x=>decide (x.1=k))=true then xs.map (fun x=>if x.1=k then (x.1,x.2.1,v) else x) else xs++[(k,c,v)]
theorem sE (xs:List (PKy×Ig×V))(k:PKy):((kvN xs).any fun kv=>decide (kv.1=k))=(xs.any fun x=>decide (x.1=k)):=by unfold kvN;rw[List.any_map];rfl
theorem sD (xs:List (PKy×Ig×V))(k:PKy)(c:Ig)(v:V):kvN (Nk xs k c v)=Nj (kvN xs) k v:=by
 unfold Nk Nj
 rw[sE]
 by_cases z:(xs.any fun x=>decide (x.1=k))=true
 ·rw[if_pos z,if_pos z]
  unfold kvN
  rw[E2,E2]
  refine FH fun x _=>?_
  show ((if x.1=k then (x.1,x.2.1,v) else x).1,(if x.1=k then (x.1,x.2.1,v) else x).2.2)=if x.1=k then (x.1,v) else (x.1,x.2.2)
  split<;>rfl
 ·rw[if_neg z,if_neg z]
  unfold kvN
  rw[Et];rfl
theorem KN.val {xs:List (PKy×Ig×V)}{ys:List (PKy×Ig×H0)}(r:KN xs ys)(k:PKy):RelO (OR (kvN xs) k) ((Jp ys k).map (·.2)):=by
 induction r with
 |nil=>exact True.intro
 | @cons p q ps qs h t ih=>
   obtain⟨h1,_,h2⟩:=h
   show RelO (OR ((p.1,p.2.2)::kvN ps) k) _
   by_cases e:p.1=k
   ·have e':q.1=k:=h1.symm.trans e
    have b:Jp (q::qs) k=some q.2:=by simp [Jp,Fw,e']
    rw[iG (show (p.1,p.2.2).1=k from e),b];exact h2
   ·have e': ¬q.1=k:=fun z=>e (h1.trans z)
    have b:Jp (q::qs) k=Jp qs k:=by simp [Jp,Fw,e']
    rw[iH (show¬(p.1,p.2.2).1=k from e),b];exact ih
theorem KN.repl {xs:List (PKy×Ig×V)}{ys:List (PKy×Ig×H0)}(r:KN xs ys)(k:PKy){y:V}{u:H0}(ry:RelV y u):
  KN (xs.map fun x=>if x.1=k then (x.1,x.2.1,y) else x) (ys.map (putAt k u)):=by
 induction r with
 |nil=>exact .nil
 | @cons p q ps qs h t ih=>
   rw[Er,Er]
   refine .cons ?_ ih
   obtain⟨h1,h2,h3⟩:=h
   unfold putAt
   by_cases e:p.1=k
   ·rw[if_pos e,if_pos (h1.symm.trans e)];exact⟨h1,h2,ry⟩
   ·rw[if_neg e,if_neg (fun z=>e (h1.trans z))];exact⟨h1,h2,h3⟩
theorem KN.put {xs:List (PKy×Ig×V)}{ys:List (PKy×Ig×H0)}(r:KN xs ys)(k:PKy){b:Ig}{y:V}{u:H0}(ry:RelV y u):KN (Nk xs k b y) (storedH ys k b u):=by
 have e:(xs.any fun x=>decide (x.1=k))=(Jp ys k).isSome:=by
  rw[<-sE,j8,(r.val k).isSome_eq,Gn]
 unfold Nk storedH
 rw[e]
 by_cases q:(Jp ys k).isSome=true
 ·rw[if_pos q,if_pos q];exact r.repl k ry
 ·rw[if_neg q,if_neg q];exact Paired.snoc r ⟨rfl,rfl,ry⟩
theorem t9 {xs:List (PKy×Ig×V)}{k:PKy}{c:Ig}{v:V}{x:PKy×Ig×V}(h:x∈Nk xs k c v):(∃y∈xs,y.1=x.1/\y.2.1=x.2.1)\/(x.1=k/\x.2.1=c):=by
 unfold Nk at h
 split at h
 ·obtain⟨y,hy,rfl⟩:=EB.mp h
  refine .inl ⟨y,hy,?_⟩
  split<;>exact⟨rfl,rfl⟩
 ·rcases E6.mp h with h|h
  ·exact .inl ⟨x,h,rfl,rfl⟩
  ·rw[EC.mp h];exact .inr ⟨rfl,rfl⟩
section
variable {X:Cx}{pins:List (Ig×Ij)}{σ:St}{H:Hp}{s:Ii}{a c:Ig}{b:Bool}{k:PKy}{xs:List (PKy×Ig×V)}{A:Ik}{Ex:H0->Ii->Prop}
theorem pI: ∀ {ks:List Int}{us:List H0},Vals (ks.map V.int) us->ItemsAre (Ih X.prog X.w) ks us
 |[],_,r=>by rw[EV] at r;cases r;exact .nil
 |k::ks,_,r=>by
  rw[Er] at r
  cases r with
  |cons h t=>
   obtain⟨tk,e⟩:=(show∃t,_=H0.int k t from h)
   subst e
   exact .cons (by simp [Ih,H0.isInt]) (pI t)
theorem nD (I:Inv X pins σ H s)(h:KeyN X.K H b c k):IsPk X.prog X.w b s.heap k c:=by
 obtain⟨d,h1,h2⟩:=h
 obtain⟨its2,r2,⟨o2,g1,g2,n2,g3⟩,_⟩:=I.tuple h2
 obtain⟨its,r,⟨o,q1,q2,n,q3⟩,_⟩:=I.tuple h1
 have kd:IsTupleKey (Ih X.prog X.w) s.heap k.2 d:=⟨o2,its2.toArray,n2,g1,g2,g3,by simpa using pI r2⟩
 cases b with
 |false=>
  obtain⟨u,v,rfl,ru,rv⟩:=r.two
  cases rv
  obtain⟨t,e⟩:=(show∃t,u=H0.int k.1 t from ru)
  subst e
  exact⟨o,_,n,d,_,q1,q2,q3,kd,by simp [H0.isInt],rfl⟩
 |true=>
  obtain⟨u,v,rfl,ru,rv⟩:=r.two
  cases ru
  obtain⟨t,e⟩:=(show∃t,v=H0.int k.1 t from rv)
  subst e
  exact⟨o,_,n,d,_,q1,q2,q3,kd,by simp [H0.isInt],rfl⟩
theorem xt (I:Inv X pins σ H s){ep:Nat}(e:H a=some (.dN b xs ep))(hk: ∀x∈xs,KeyN X.K H b x.2.1 x.1):xs.length<=sizeLine/\(a==IA)=false/\ ∃ys,KN xs ys/\s.heap.DictOfH (qR X.prog X.w b) a ys:=by
 obtain⟨z,y,ys,r,o,es,h1,h2,h3,h4,h5⟩:=(show ObjOk X.prog X.w H s.heap a (.dN b xs ep) from I.hok a _ e)
 refine⟨z,y,ys,r,o,es,ep,h1,h2,h3,h4,?_,h5⟩
 clear h4 h5 e
 induction r with
 |nil=>intro x hx;exact nomatch hx
 | @cons p q ps qs hq t ih=>
   intro x hx
   rcases En.mp hx with e|hx
   ·subst e
    have:=nD I (hk p Eo)
    rw[<-hq.1,<-hq.2.1]
    exact this
   ·exact ih (fun x hx=>hk x (EA _ hx)) (by rw[Es] at z;omega) x hx
theorem ur {v:V}{Q:H0->Ii->Prop}(hu:A.units+2<Il)(I:Inv X pins σ H s){ep:Nat}(e:H a=some (.dN b xs ep))(hk: ∀x∈xs,KeyN X.K H b x.2.1 x.1)(hc:KeyN X.K H b c k)(l:OR (kvN xs) k=some v)(h:∀w' s',Inv X pins σ H s'->RelV v w'->Q w' s'):
  Im (Io X.prog X.w) A (getItem (.ref a) (.ref c)) Q Ex s:=by
 obtain⟨z,hd,ys,rel,dd⟩:=xt I e hk
 obtain⟨w',hw,rw'⟩:=RelO.some_of (v:=v) (o:=(Jp ys k).map (·.2)) (by rw[<-l];exact rel.val k)
 obtain⟨p,hp,hp2⟩:=EH.mp hw
 refine wpAny_getItem_heap (knd:=qR X.prog X.w b) hu (nD I hc) dd hp ?_
 rw[hp2]
 exact h w' _ (I.tok _) rw'
theorem uq {v:V}{r:H0}{Q:Unit->Ii->Prop}(hu:A.units+2<Il)(I:Inv X pins σ H s){ep:Nat}(e:H a=some (.dN b xs ep))(hk: ∀x∈xs,KeyN X.K H b x.2.1 x.1)(hc:KeyN X.K H b c k)(l:xs.length<sizeLine)(rv:RelV v r)(h:∀s' ep',Inv X pins σ (upd H a (.dN b (Nk xs k c v) ep')) s'->Q () s'):
  Im (Io X.prog X.w) A (setItem (.ref a) (.ref c) r) Q Ex s:=by
 obtain⟨z,hd,ys,rel,dd⟩:=xt I e hk
 have hz:ys.length<=sizeLine:=by rw[<-Paired.length rel];exact z
 have hl:(Nk xs k c v).length<=sizeLine:=by
  have:=gI (kvN xs) k v
  rw[<-sD xs k c v] at this
  unfold kvN at this
  rw[El,El] at this
  omega
 refine wpAny_setItem_heap (hsz:=hz) (knd:=qR X.prog X.w b) hu (nD I hc) dd fun h' dd' hs=>?_
 obtain⟨q,es,ep2,hq,h2,h3,h4,_,h5⟩:=dd'
 refine h _ ep2 ?_
 exact nS I (by rw[e];exact True.intro) hs ⟨q,hq⟩ ⟨hl,hd,_,rel.put k rv,q,es,hq,h2,h3,h4,h5⟩
end
section
variable {X:Cx}{E:XK}{a b:Expr}{pos:IH}{fa fb fv:JR->M W}
def Kz (w:W)(h:List Ob):Option (Bool×List PKy×List W):=match w with
 |.loc k=>match h[k]? with
  |some (.din b ks ws)=>some (b,ks,ws)
  |_=>none
 |.dn b ks ws=>some (b,ks,ws)
 |_=>none
theorem xv {o:Wo}{w:W}{v:V}{b:Bool}{ks:List PKy}{ws:List W}(R:Rel X.K o)(e:Kz w o.h=some (b,ks,ws))(h:Rv X.K o w v): ∃a xs ep,v=.ref a/\o.H a=some (.dN b xs ep)/\xs.map (·.1)=ks/\(∀x∈xs,KeyN X.K o.H b x.2.1 x.1)/\Rvs X.K o ws (xs.map (·.2.2)):=by
 cases w with
 |loc k=>
  unfold Kz at e
  dsimp only at e
  split at e
  ·rename_i b' ks' ws' hk
   cases e
   unfold Rv at h
   obtain⟨xs,h1,h2,h3,h4⟩:=R.ob k _ hk
   exact⟨_,xs.1,xs.2,h.2,h1,h2,h3,h4⟩
  ·cases e
 |dn b' ks' ws'=>
  unfold Kz at e
  cases e
  unfold Rv at h
  obtain⟨a,xs,e,h1,_,h2,h3,h4⟩:=h
  exact⟨a,xs.1,xs.2,e,h1,h2,h3,h4⟩
 |_=>cases e
def LF (b:Bool)(w:W):Option PKy:=match b,w with
 |false,.tup [.int i,.tup l]=>(MV iOf l).map fun ns=>(i,ns)
 |true,.tup [.tup l,.int i]=>(MV iOf l).map fun ns=>(i,ns)
 |_,_=>none
theorem sF {o:Wo}{b:Bool}{w:W}{v:V}{k:PKy}(e:LF b w=some k)(h:Rv X.K o w v): ∃c,v=.ref c/\KeyN X.K o.H b c k:=by
 unfold LF at e
 split at e
 ·rename_i i l
  obtain⟨ns,e1,rfl⟩:=EH.mp e
  unfold Rv at h
  obtain⟨c,vs,rfl,s,r⟩:=h
  obtain⟨u,v,rfl,ru,rv⟩:=r.two
  unfold Rv at rv
  obtain⟨d,us,rfl,s2,r2⟩:=rv
  have eu:=Nx.mp ru
  subst eu
  have e2:us=ns.map V.int:=eA kZ e1 r2
  subst e2
  exact⟨c,rfl,d,s,s2⟩
 ·rename_i l i
  obtain⟨ns,e1,rfl⟩:=EH.mp e
  unfold Rv at h
  obtain⟨c,vs,rfl,s,r⟩:=h
  obtain⟨u,v,rfl,ru,rv⟩:=r.two
  unfold Rv at ru
  obtain⟨d,us,rfl,s2,r2⟩:=ru
  have eu:=Nx.mp rv
  subst eu
  have e2:us=ns.map V.int:=eA kZ e1 r2
  subst e2
  exact⟨c,rfl,d,s,s2⟩
 ·cases e
def Az (b:Bool):TE:=fun _ H Q=> ∀p,H p=none->Q (.ref p) (upd H p (.dN b [] 0))
theorem xu {P:Ib}{w:Ic}{H:Hp}(b:Bool)(h:Ie)(hb:IA<h.objs.size):ObjOk P w H (h.push {cls:=.type "dict",data:=.dict #[]}) h.objs.size (.dN b [] 0):=
 ⟨EI _,beq_eq_false_iff_ne.mpr (Ne.symm (EK hb)),[],.nil,_,#[],EJ _ rfl,⟨rfl,rfl,rfl⟩,rfl,rfl,F5⟩
theorem vZ (b:Bool):PE X (.Dict [] [] pos) (Az b):=fun pins s σ H Q I h=>
 wpAny_Dict_empty ⟨.ref s.heap.objs.size,_,I.laid (a:=s.heap.objs.size) (o:=.dN b [] 0) (t':=s.toks) (fun _ _ q=>Ey _ q) (Em _) (xu b s.heap I.big),rfl,h _ (I.hok.fresh (Em _))⟩
def rk (b:Bool):JR->M W:=fun _ h=>.ok (.loc h.length) (h++[.din b [] []])
theorem wO (b:Bool):JE X E (.Dict [] [] pos) (rk b):=(vZ b).imp fun σ H Q h=>by
 obtain⟨o,ρ,rfl,R,S,h⟩:=h
 intro q hq
 exact Ps.at (p:=o.add q (.din b [] []) (.dN b [] 0)) h rfl (Ex.add hq) (R.add hq ⟨([],0),aq,rfl,fun _ hx=>absurd hx EF,Rvs.nil⟩) Rv.addLoc
def rIxN (K:PySem.W.Frag):R2:=fun x y H Q=> ∃a b xs ep c k v,x=.ref a/\y=.ref c/\H a=some (.dN b xs ep)/\(∀x∈xs,KeyN K H b x.2.1 x.1)/\KeyN K H b c k/\OR (kvN xs) k=some v/\Q v H
theorem Ei (hu:X.A.units+2<Il):IxR X (rIxN X.K):=by
 intro value slice pins s σ H x y v u Q I rx ry h hs
 obtain⟨a,b,xs,ep,c,k,z,rfl,rfl,e,hk,hc,l,q⟩:=h
 cases rx
 cases ry
 obtain⟨_,_,ys,_,dd⟩:=xt I e hk
 exact tail_any dd.typeIs PySem.F.slot_dict_getitem.lookup (ur hu I e hk hc l fun w' s3 I3 rw'=>⟨z,H,I3,rw',q⟩) hs
def Lr (x y:W):M W:=fun h=>match Kz x h with
 |some (b,ks,ws)=>match LF b y with
  |some k=>match atK ks ws k with
   |some w=>.ok w h
   |none=>.bad
  |none=>.bad
 |none=>.bad
theorem yF:OpM X E (rIxN X.K) Lr:=by
 intro o x y vx vy Q R rx ry h
 unfold Lr at h
 cases e1:Kz x o.h with
 |none=>rw[e1] at h;exact h.elim
 |some t=>
  obtain⟨b,ks,ws⟩:=t
  rw[e1] at h
  cases e2:LF b y with
  |none=>simp only[e2] at h;exact h.elim
  |some k=>
   simp only[e2] at h
   cases e3:atK ks ws k with
   |none=>simp only[e3] at h;exact h.elim
   |some w=>
    simp only[e3] at h
    obtain⟨a,xs,ep,rfl,g1,g2,g3,g4⟩:=xv R e1 rx
    obtain⟨c,rfl,hc⟩:=sF e2 ry
    have hv:=ja (x:=k) (kvs:=kvN xs) (ks:=ks) (ws:=ws) (by unfold kvN;rw[E2];exact g2) (by unfold kvN;rw[E2];exact g4)
    rw[e3] at hv
    obtain⟨v,hv,rv⟩:=hv
    exact⟨a,b,xs,ep,c,k,v,rfl,rfl,g1,g3,hc,hv,Ps.pr (c:=cg X E) (r:=Rv X.K) (a:=w) h R rv⟩
theorem BX (hu:X.A.units+64<Il)(ha:JE X E a fa)(hb:JE X E b fb)(hs:j3 b):JE X E (.Subscript a b pos) (m2 Lr fa fb):=
 (oY (Ei (E1 (G5 (by decide:2<=64) _) hu)) ha.h hb.h hs).imp fun _ _ _ h=>vn yF h
def rSetN (K:PySem.W.Frag):J5:=fun o i v H Q=> ∃a b xs ep c k,o=.ref a/\i=.ref c/\H a=some (.dN b xs ep)/\(∀x∈xs,KeyN K H b x.2.1 x.1)/\KeyN K H b c k/\xs.length<sizeLine/\ ∀ep',Q (upd H a (.dN b (Nk xs k c v) ep'))
theorem CU (hu:X.A.units+2<Il):PSet X (rSetN X.K):=by
 intro pins s σ H o i v ov iv u Q I ro ri rv h
 obtain⟨a,b,xs,ep,c,k,rfl,rfl,e,hk,hc,l,q⟩:=h
 cases ro
 cases ri
 exact uq hu I e hk hc l rv fun s4 ep' I4=>⟨_,I4,q ep'⟩
def mO (x i v:W):M Unit:=match x with
 |.loc j=>fun h=>match h[j]? with
  |some (.din b ks ws)=>match LF b i with
   |some k=>if ks.length<sizeLine then .ok () (h.set j (.din b (Nl ks ws k v).1 (Nl ks ws k v).2)) else .bad
   |none=>.bad
  |_=>.bad
 |_=>no
def r9 (fo fi fv:JR->M W):JR->M Fl:=fun ρ=>bd (fv ρ) fun v=>bd (fo ρ) fun x=>bd (fi ρ) fun i=>bd (mO x i v) fun _=>pr (.nx ρ)
theorem uv {o i value:Expr}{tpos:IH}{fo fi:JR->M W}(hu:X.A.units+64<Il)(ho:JE X E o fo)(hi:JE X E i fi)(hv:JE X E value fv)
  (ha: ∀v,assign (.Subscript o i tpos) X.env v=(do
   let ov<-IQ [v] (IG o X.env)
   let iv<-IQ [v,ov] (IG i X.env)
   IP tpos
   IQ [v,ov,iv] (setItem ov iv v)
   release [v,ov,iv] []):=by intro _;rfl)
  (hs:swapsWithSole [.Subscript o i tpos] value pos.line X.env=pure false:=by rfl)(hw:swappedStores [.Subscript o i tpos] value X.env=pure none:=by rfl)
  (h1:(IS [.Subscript o i tpos] X.env).map (·.2)=[assign (.Subscript o i tpos) X.env]:=by rfl):JS X E (.Assign [.Subscript o i tpos] value pos) (r9 fo fi fv):=
 (vQ hv.h (vW ho.h hi.h (CU (E1 (G5 (by decide:2<=64) _) hu)) ha) hs hw h1).imp fun D σ H h=>by
  obtain⟨w,ρ,rfl,R,S,h⟩:=h
  refine⟨w,ρ,rfl,R,S,Ps.bd h fun p v vv e1 R1 r1 h1=>⟨p,ρ,rfl,R1,S.mono R e1,Ps.bd h1 fun q x vx e2 R2 r2 h2=>⟨q,ρ,rfl,R2,(S.mono R e1).mono R1 e2,Ps.bd h2 fun s i vi e3 R3 r3 h3=>?_⟩⟩⟩
  have S3:=((S.mono R e1).mono R1 e2).mono R2 e3
  have rv:=(r1.mono R1 e2).mono R2 e3
  have rx:=r2.mono R2 e3
  cases x with
  |loc j=>
   unfold Rv at rx
   obtain⟨hj,rfl⟩:=rx
   unfold mO bd at h3
   cases e:s.h[j]? with
   |none=>simp only[e] at h3;exact h3.elim
   |some ob=>
    cases ob with
    |din b ks ws=>
     simp only[e] at h3
     cases ek:LF b i with
     |none=>simp only[ek] at h3;exact h3.elim
     |some k=>
      simp only[ek] at h3
      by_cases z:ks.length<sizeLine
      ·simp only[if_pos z] at h3
       obtain⟨⟨xs,ep⟩,g1,g2,g3,g4⟩:=R3.ob j _ e
       dsimp only at g1 g2 g3 g4
       obtain⟨c,rfl,hc⟩:=sF ek r3
       obtain⟨b1,b2⟩:=mY (x:=k) (kvs:=kvN xs) (ks:=ks) (ws:=ws) rv (by unfold kvN;rw[E2];exact g2) (by unfold kvN;rw[E2];exact g4)
       rw[<-sD xs k c vv] at b1 b2
       unfold kvN at b1 b2
       rw[E2] at b1 b2
       refine⟨_,b,xs,ep,c,k,rfl,rfl,g1,g3,hc,by rw[<-g2,El] at z;exact z,fun ep'=>?_⟩
       refine Ps.at (p:=s.put j (.din b (Nl ks ws k v).1 (Nl ks ws k v).2) (.dN b (Nk xs k c vv) ep')) (b:=FlV.nx σ) h3 rfl (Ex.put e (by simp)) (R3.putN e (by simp) b1 (fun x hx=>?_) b2) ⟨σ,rfl,S3.mono R3 (Ex.put e (by simp))⟩
       rcases t9 hx with⟨y,hy,q1,q2⟩|⟨q1,q2⟩
       ·rw[<-q1,<-q2];exact g3 y hy
       ·rw[q1,q2];exact hc
      ·simp only[if_neg z] at h3;exact h3.elim
    |_=>simp only[e] at h3;exact h3.elim
  |_=>exact h3.elim
end
end
section
theorem vS (its:List H0):slicePick its.toArray none none (some (-1))=its.reverse.toArray:=by
 unfold slicePick
 have hb:Jn none none (some (-1)) its.toArray.size=(((its.length:Nat):Int) - 1,-1,-1):=by
  rw[Ez];rfl
 rw[hb]
 show ((sliceRange (((its.length:Nat):Int) - 1) (-1) (-1)).filterMap (its.toArray[·]?)).toArray=_
 congr 1
 have hr:sliceRange (((its.length:Nat):Int) - 1) (-1) (-1)=(List.range its.length).map fun k=>its.length - 1 - k:=by
  unfold sliceRange
  have c:(if (-1:Int)>0 then (if ((its.length:Nat):Int) - 1< -1 then (-1 - (((its.length:Nat):Int) - 1)+ -1 - 1) / -1 else 0) else (if ((its.length:Nat):Int) - 1> -1 then (((its.length:Nat):Int) - 1 - -1 - -1 - 1) / (- -1) else 0)).toNat=its.length:=by
   rw[if_neg (by decide)]
   by_cases z:((its.length:Nat):Int) - 1> -1
   ·rw[if_pos z,show (- -1:Int)=1 by decide,Int.ediv_one];omega
   ·rw[if_neg z];omega
  show (List.range (if (-1:Int)>0 then (if ((its.length:Nat):Int) - 1< -1 then (-1 - (((its.length:Nat):Int) - 1)+ -1 - 1) / -1 else 0) else (if ((its.length:Nat):Int) - 1> -1 then (((its.length:Nat):Int) - 1 - -1 - -1 - 1) / (- -1) else 0)).toNat).map _=_
  rw[c]
  refine FH fun k hk=>?_
  have:=FW.mp hk
  show (((its.length:Nat):Int) - 1+ -1 * (k:Int)).toNat=its.length - 1 - k
  omega
 rw[hr]
 apply GE
 intro i
 have hall: ∀ (n:Nat),n<=its.length->((List.range n).map fun k=>its.length - 1 - k).filterMap (its.toArray[·]?)=its.reverse.take n:=by
  intro n
  induction n with
  |zero=>intro _;rfl
  |succ n ih=>
   intro hn
   have e1:its.reverse[n]?=some (its[its.length - 1 - n]'(by omega)):=by
    rw[List.getElem?_reverse (by omega),EL]
   rw[FQ,Et,List.filterMap_append,ih (by omega),Ft,e1]
   congr 1
   show List.filterMap (its.toArray[·]?) [its.length - 1 - n]=[its[its.length - 1 - n]'(by omega)]
   rw[FX]
   rw[G8,EL (by omega)]
   rfl
 rw[hall its.length (Em _),<-HA,EN]
section
variable {X:Cx}{E:XK}{e st:Expr}{te:TE}{ts:TO}{pos p2:IH}{fa:JR->M W}{fs:JR->M (Option Int)}
def tRev (K:PySem.W.Frag)(te:TE)(ts:TO):TE:=fun σ H Q=>te σ H fun x H1=>ts σ H1 fun o H2=>o=some (-1)/\ ∃a xs,x=.ref a/\SqL K H2 a xs/\ ∀p,H2 p=none->Q (.ref p) (upd H2 p (.lst xs.reverse))
theorem AV (he:PE X e te)(hs:PO X (some st) ts):PE X (.Subscript e (.Slice none none (some st) p2) pos) (tRev X.K te ts):=by
 intro pins s σ H Q I h
 refine Subscript_ (thn (he pins s σ H _ I h) fun v s1 qz=>?_)
 obtain⟨x,H1,I1,r1,q1⟩:=qz
 refine wpAny_Slice ?_
 rw[evalPart_none]
 refine Iu (Iu (thn (hs pins s1 σ H1 _ I1 q1) fun vs s3 qz=>?_))
 obtain⟨u,H3,I3,pu,q3⟩:=qz
 obtain⟨rfl,a,xs,rfl,hx,q⟩:=q3
 cases r1
 have I4:Inv X pins σ H3 {s3 with heap:=s3.heap.push {cls:=.type "slice",data:=.fields #[.none,.none,vs]}}:=I3.kept (t':=s3.toks) fun b ob q=>Ey _ q
 show Im (Io X.prog X.w) X.A (subscriptTail e (.Slice none none (some st) p2) (.ref a) (.ref s3.heap.objs.size)) (EP X pins σ Q) X.xe {s3 with heap:=s3.heap.push {cls:=.type "slice",data:=.fields #[.none,.none,vs]}}
 obtain⟨its,r,ht,hz⟩:=I4.list hx
 have hlen:=r.length
 refine tail_any (ops:=[.ref a,.ref s3.heap.objs.size]) ht.isList.typeIs slot_list_getitem.lookup ?_ (by with_unfolding_all rfl)
 refine wpAny_getItem_list_slice ht.isList (Ie.IsSliceOf.new ..) .none .none pu (by simp) ?_ (by rw[Ez]<;>omega)
 rw[vS]
 refine⟨.ref _,_,I4.laid (t':=s3.toks) (o:=.lst xs.reverse) (fun b ob q=>Ey _ q) (Em _) ?_,rfl,q _ (I4.hok.fresh (Em _))⟩
 exact⟨by rw[HA];exact hz,_,0,r.reverse,EJ _ rfl⟩
theorem Rvs.reverse {K:PySem.W.Frag}{o:Wo}: ∀ {l:List W}{vs:List V},Rvs K o l vs->Rvs K o l.reverse vs.reverse
 |[],vs,h=>by unfold Rvs at h;subst h;exact Rvs.nil
 |w::l,vs,h=>by
  unfold Rvs at h
  obtain⟨v,r,rfl,h1,h2⟩:=h
  rw[Gm,Gm]
  exact (Rvs.reverse h2).app (Rvs.cons h1 Rvs.nil)
def No (x:W)(o:Option Int):M W:=match o with
 |some (-1)=>bd (LU x) fun l=>pr (.tl l.reverse)
 |_=>no
def Ma (fa:JR->M W)(fs:JR->M (Option Int)):JR->M W:=fun ρ=>bd (fa ρ) fun x=>bd (fs ρ) fun o=>No x o
theorem BN (he:JE X E e fa)(hs:JO X E (some st) fs):JE X E (.Subscript e (.Slice none none (some st) p2) pos) (Ma fa fs):=(AV he.h hs.h).imp fun σ H Q h=>by
 obtain⟨o,ρ,rfl,R,S,h⟩:=h
 refine⟨o,ρ,rfl,R,S,Ps.bd h fun p x vx e1 R1 r1 h1=>⟨p,ρ,rfl,R1,S.mono R e1,Ps.bd h1 fun q a va e2 R2 r2 h2=>?_⟩⟩
 subst r2
 have rx:=r1.mono R1 e2
 unfold No at h2
 split at h2
 ·obtain⟨l,a',vs,rfl,s,r,h2⟩:=dD R2 rx h2
  exact⟨rfl,a',vs,rfl,s,fun q' hq=>iO R2 hq r.reverse h2⟩
 ·exact h2.elim
end
end
section
open Sem (wp)
section
variable {prog:Ib}{w:Ic}{A:Ik}{E:H0->Ii->Prop}{s:Ii}
end
section
variable {X:Cx}{pins:List (Ig×Ij)}{σ:St}{H:Hp}{s:Ii}
end
section
variable {X:Cx}{a b:Expr}{p p2 pos pos2:IH}
end
end
section
section
variable {X:Cx}{E:XK}
def lzW (ws:List W):M W:=match ws with
 |[.tup l,.tup m]=>gd (min l.length m.length<sizeLine) (pr (.tl (OZ l m)))
 |_=>no
open Classical in
open Classical in
noncomputable def Mj:List Int->Int
 |[]=>0
 |[a]=>a
 |a::l=>if Mj l<a then a else Mj l
noncomputable def Ml:List Int->Int
 |[]=>0
 |[a]=>a
 |a::l=>if a<Ml l then a else Ml l
theorem pj: ∀ {l:List Int},l≠ []->Mj l∈l/\ ∀x∈l,x<=Mj l
 |[],h=>absurd rfl h
 |[a],_=>⟨EC.mpr rfl,fun x hx=>by rw[EC.mp hx];exact EW _⟩
 |a::b::l,_=>by
  obtain⟨h1,h2⟩:=pj (l:=b::l) (by simp)
  show (if Mj (b::l)<a then a else Mj (b::l))∈_/\ ∀x∈_,x<=(if Mj (b::l)<a then a else Mj (b::l))
  by_cases c:Mj (b::l)<a
  ·rw[if_pos c]
   refine⟨Eo,fun x hx=>?_⟩
   rcases En.mp hx with rfl|hx
   ·exact EW _
   ·have:=h2 x hx;omega
  ·rw[if_neg c]
   refine⟨EA _ h1,fun x hx=>?_⟩
   rcases En.mp hx with rfl|hx
   ·omega
   ·exact h2 x hx
theorem kO: ∀ {l:List Int},l≠ []->Ml l∈l/\ ∀x∈l,Ml l<=x
 |[],h=>absurd rfl h
 |[a],_=>⟨EC.mpr rfl,fun x hx=>by rw[EC.mp hx];exact EW _⟩
 |a::b::l,_=>by
  obtain⟨h1,h2⟩:=kO (l:=b::l) (by simp)
  show (if a<Ml (b::l) then a else Ml (b::l))∈_/\ ∀x∈_,(if a<Ml (b::l) then a else Ml (b::l))<=x
  by_cases c:a<Ml (b::l)
  ·rw[if_pos c]
   refine⟨Eo,fun x hx=>?_⟩
   rcases En.mp hx with rfl|hx
   ·exact EW _
   ·have:=h2 x hx;omega
  ·rw[if_neg c]
   refine⟨EA _ h1,fun x hx=>?_⟩
   rcases En.mp hx with rfl|hx
   ·omega
   ·exact h2 x hx
theorem iE (bt:Nat->Nat->Bool): ∀n,JC bt n<=n
 |0=>Em _
 |n+1=>by
  unfold JC
  split
  ·exact Em _
  ·exact Gb (iE bt n)
theorem xQ (f:Nat->Int): ∀n j,j<=n->f j<=f (JC (fun i j=>decide (f i>f j)) n)
 |0,j,h=>by rw[Nat.le_zero.mp h];exact EW _
 |n+1,j,h=>by
  unfold JC
  have ih:=xQ f n
  by_cases c:f (n+1)>f (JC (fun i j=>decide (f i>f j)) n)
  ·rw[if_pos (decide_eq_true c)]
   by_cases e:j=n+1
   ·rw[e];exact EW _
   ·have:=ih j (by omega);omega
  ·rw[if_neg (by rw[decide_eq_false c];simp)]
   by_cases e:j=n+1
   ·rw[e];omega
   ·exact ih j (by omega)
theorem xP (f:Nat->Int): ∀n j,j<=n->f (JC (fun i j=>decide (f i<f j)) n)<=f j
 |0,j,h=>by rw[Nat.le_zero.mp h];exact EW _
 |n+1,j,h=>by
  unfold JC
  have ih:=xP f n
  by_cases c:f (n+1)<f (JC (fun i j=>decide (f i<f j)) n)
  ·rw[if_pos (decide_eq_true c)]
   by_cases e:j=n+1
   ·rw[e];exact EW _
   ·have:=ih j (by omega);omega
  ·rw[if_neg (by rw[decide_eq_false c];simp)]
   by_cases e:j=n+1
   ·rw[e];omega
   ·exact ih j (by omega)
theorem jW {xs:Array (Int×Tok)}{ns:List Int}(e:ns=xs.toList.map (·.1)){i:Nat}(h:i<xs.size):ns[i]?=some (Js xs i):=by
 rw[e,ED,HB,HC h]
 unfold Js
 rw[HC h]
 rfl
theorem CJ (hc:X.calm=true):CallR X (.builtin "max") (fun xs H Q=> ∃ (p:Ig) (ns:List Int),xs=[.ref p]/\SqL X.K H p (ns.map V.int)/\ns≠ []/\Q (.int (Mj ns)) H):=by
 intro pins s σ H xs us Q I r h
 obtain⟨p,ns,rfl,hq,hne,q⟩:=h
 obtain⟨u,rfl,ru⟩:=OS r
 cases ru
 obtain⟨its,rv,pl,hz⟩:=I.list hq
 have hi:=d8 rv
 obtain⟨xs,e⟩:=hi.allInts.items
 have hl:s.heap.IsList p (intItems xs):=by rw[<-e];exact pl.isList
 have en:ns=xs.toList.map (·.1):=by
  rw[<-nums_intItems,<-e]
  exact (show numsOf its.toArray.toList=ns from hi.numsOf).symm
 have sz:xs.size=ns.length:=by rw[en,El,Fu]
 have pos:0<xs.size:=by rw[sz];exact He.mpr hne
 refine max_intList (I.ok.hd hc) hl pos fun v h' tk hv hk=>?_
 obtain⟨t,rfl⟩:=intItems_at hv
 have il:=iE (fun i j=>decide (Js xs i>Js xs j)) (xs.size - 1)
 have e1:=jW en (i:=JC (fun i j=>decide (Js xs i>Js xs j)) (xs.size - 1)) (by omega)
 obtain⟨m1,m2⟩:=pj hne
 obtain⟨k,hk'⟩:=Hf m1
 have kl:=(Ev.mp hk').1
 have e2:=jW en (i:=k) (by omega)
 rw[hk'] at e2
 have a1:=m2 _ (EO e1)
 have a2:=xQ (Js xs) (xs.size - 1) k (by omega)
 have:Js xs (JC (fun i j=>decide (Js xs i>Js xs j)) (xs.size - 1))=Mj ns:=by
  have:=Option.some.inj e2
  omega
 rw[this]
 exact⟨.int (Mj ns),H,I.kept (t':=tk) hk,⟨t,rfl⟩,q⟩
theorem uV (hc:X.calm=true):CallR X (.builtin "min") (fun xs H Q=> ∃ (p:Ig) (ns:List Int),xs=[.ref p]/\SqL X.K H p (ns.map V.int)/\ns≠ []/\Q (.int (Ml ns)) H):=by
 intro pins s σ H xs us Q I r h
 obtain⟨p,ns,rfl,hq,hne,q⟩:=h
 obtain⟨u,rfl,ru⟩:=OS r
 cases ru
 obtain⟨its,rv,pl,hz⟩:=I.list hq
 have hi:=d8 rv
 obtain⟨xs,e⟩:=hi.allInts.items
 have hl:s.heap.IsList p (intItems xs):=by rw[<-e];exact pl.isList
 have en:ns=xs.toList.map (·.1):=by
  rw[<-nums_intItems,<-e]
  exact (show numsOf its.toArray.toList=ns from hi.numsOf).symm
 have sz:xs.size=ns.length:=by rw[en,El,Fu]
 have pos:0<xs.size:=by rw[sz];exact He.mpr hne
 refine min_intList (I.ok.hd hc) hl pos fun v h' tk hv hk=>?_
 obtain⟨t,rfl⟩:=intItems_at hv
 have il:=iE (fun i j=>decide (Js xs i<Js xs j)) (xs.size - 1)
 have e1:=jW en (i:=JC (fun i j=>decide (Js xs i<Js xs j)) (xs.size - 1)) (by omega)
 obtain⟨m1,m2⟩:=kO hne
 obtain⟨k,hk'⟩:=Hf m1
 have kl:=(Ev.mp hk').1
 have e2:=jW en (i:=k) (by omega)
 rw[hk'] at e2
 have a1:=m2 _ (EO e1)
 have a2:=xP (Js xs) (xs.size - 1) k (by omega)
 have:Js xs (JC (fun i j=>decide (Js xs i<Js xs j)) (xs.size - 1))=Ml ns:=by
  have:=Option.some.inj e2
  omega
 rw[this]
 exact⟨.int (Ml ns),H,I.kept (t':=tk) hk,⟨t,rfl⟩,q⟩
def KM (f:List Int->Int)(ws:List W):M W:=match ws with
 |[w]=>bd (LU w) fun l=>match MV iOf l with
  |some ns=>gd (ns≠ []) (pr (.int (f ns)))
  |none=>no
 |_=>no
variable {a:Expr}{p pos:IH}{l:JR->M (List W)}
theorem DL {f:List Int->Int}:JJ X E (fun xs H Q=> ∃ (p:Ig) (ns:List Int),xs=[.ref p]/\SqL X.K H p (ns.map V.int)/\ns≠ []/\Q (.int (f ns)) H) (KM f):=fun o ws vs Q R rv h=>by
 unfold KM at h
 split at h
 ·obtain⟨v,rfl,r⟩:=rv.one
  obtain⟨l,a,us,rfl,s,r,h⟩:=dD R r h
  cases e:MV iOf l with
  |none=>rw[e] at h;exact h.elim
  |some ns=>
   rw[e] at h
   obtain⟨hn,h⟩:=h.gd
   have e2:us=ns.map V.int:=eA kZ e r
   subst e2
   exact⟨a,ns,rfl,s,hn,h.pr R (Nx.mpr rfl)⟩
 ·exact h.elim
theorem zi (hc:X.calm=true)(hm:X.mg "min"=none)(ha:JA X E [a] l)(hg:Gl X "min":=by rfl)(he:IJ [a] X.env=(false,IG a X.env)::IJ [] X.env:=by rfl)(hpl:(II pos (IJ [] X.env)).any (·.1)=false:=by rfl):JE X E (.Call (.Name "min" p) [a] [] pos) (LY (KM Ml) l):=
 gH (uV hc) DL hg hm rfl ha (by decide) (by decide) he hpl
end
end
section
open Sem (wp)
open AutoSeq1 (wpAny_loadPart')
section
variable {prog:Ib}{w:Ic}{A:Ik}{E:H0->Ii->Prop}{s:Ii}
theorem lI {Q:List H0->Ii->Prop}{r:Ig}{a b c:Int}{t u v:Tok}{n:Nat}(hh:A.handled=none)(hr:IsRange s.heap r a b c t u v)(hsmall:H9.Range.small a b c=true)
  (hn:H9.Range.rangeSize a b c=n)(hlen:n<=2 ^ 24)
  (hQ: ∀ (h':Ie) (tk:Nat) (acc':Array H0),(∀b o',s.heap.get? b=some o'->h'.get? b=some o')->ItemsOf (fun i v=> ∃t,v=.int (a+i * c) t) acc' n->Q acc'.toList {s with heap:=h',toks:=tk}):
  Im (Io prog w) A (collect (.ref r)) Q E s:=by
 unfold collect
 refine Ip (wpAny_runValue (codeAny_builtin F.entry_proto_collect ?_))
 rw[Ik.under_plainId F.plain_proto_collect _]
 show Im _ A.in1 (newList []>>=fun l=>again (.builtin "list.__iadd__" ⟨[l,.ref r],[]⟩)) _ _ s
 refine Ip (Jl ?_)
 refine Iu ⟨plainId_quiet F.plain_list_iadd _,codeAny_builtin F.entry_list_iadd ?_⟩
 rw[Ik.under_plainId F.plain_list_iadd _]
 show Im _ A.in1 (H9.List.listExtendWith (.ref s.heap.objs.size) (.ref r) (.ref s.heap.objs.size)) _ _ _
 have hS:(s.heap.push {cls:=.type "list",data:=.seq ([]:List H0).toArray}).get? s.heap.objs.size=some {cls:=.type "list",data:=.seq #[] 0}:=EJ _ rfl
 refine IL (wpAny_extend_range (A:=A) (R:=fun re s'=> ∃h' tk acc' c',re=.ok (.ret (.ref s.heap.objs.size))/\s'={s with heap:=h',toks:=tk}/\(∀b o',s.heap.get? b=some o'->h'.get? b=some o')/\h'.get? s.heap.objs.size=some {cls:=.type "list",dict:=none,data:=.seq acc' c',slots:= #[]}/\ItemsOf (fun i v=> ∃t,v=.int (a+i * c) t) acc' n)
  (s:={s with heap:=s.heap.push {cls:=.type "list",data:=.seq ([]:List H0).toArray}}) hh (Ey _ hr) hsmall hn hlen _ _ 0 hS fun h' tk acc' c' hk hS' hacc=>⟨h',tk,acc',c',rfl,rfl,fun b o' hb=>hk b o' (EK (Eu hb)) (Ey _ hb),hS',hacc⟩) (fun fin s' h=>?_) (fun e s' h=>?_)
 ·have fin': ∀ {re:Result}{s':Ii},(∃h' tk acc' c',re=.ok (.ret (.ref s.heap.objs.size))/\s'={s with heap:=h',toks:=tk}/\(∀b o',s.heap.get? b=some o'->h'.get? b=some o')/\h'.get? s.heap.objs.size=some {cls:=.type "list",dict:=none,data:=.seq acc' c',slots:= #[]}/\ItemsOf (fun i v=> ∃t,v=.int (a+i * c) t) acc' n)->re=.ok (.ret (.ref s.heap.objs.size))/\Im (Io prog w) A (match H0.ref s.heap.objs.size with
   |H0.ref a=>do
    match (<-load a).data with
     |Data.seq xs _=>pure xs.toList
     |_=>unsupported "internal:collect"
   |_=>unsupported "internal:collect") Q E s':=by
   rintro re s' ⟨h',tk,acc',c',rfl,rfl,hk,hS',hacc⟩
   refine⟨rfl,?_⟩
   show Im _ A (load s.heap.objs.size>>=_) _ _ _
   refine Ip (wpAny_load hS' ?_)
   exact Iu (hQ h' tk acc' hk hacc)
  cases fin with
  |done f=>
   obtain⟨e,q⟩:=fin' h
   cases e
   exact q
  |again c'=>exact⟨h.1,Jf h.2 fun re s'' hr=>by
   obtain⟨e,q⟩:=fin' hr
   subst e
   exact q⟩
 ·obtain⟨_,_,_,_,e,_⟩:=h
  cases e
end
theorem iV (r:Ig)(a b c:Int)(t u v:Tok)(n:Nat)(hsmall:H9.Range.small a b c=true)(hn:H9.Range.rangeSize a b c=n)(hlen:n<=2 ^ 24)(hz:n<=sizeLine):
  Meets (H9.«tuple.__new__» ⟨[.type "tuple",.ref r],[]⟩)
   (fun A R s=>A.handled=none/\IsRange s.heap r a b c t u v/\ ∀ (h':Ie) (tk:Nat) (acc':Array H0),(∀b o',s.heap.get? b=some o'->h'.get? b=some o')->ItemsOf (fun i v=> ∃t,v=.int (a+i * c) t) acc' n->R (.ok (.ret (.ref h'.objs.size))) {s with heap:=h'.push {cls:=.type "tuple",data:=.seq acc'},toks:=tk}):=
 .of_wp fun prog w A R s h=>by
  obtain⟨hp,g,d,tk,os⟩:=s;obtain⟨hh,ht,h⟩:=h
  have hsub:=sub_tuple_self
  have hinit:=init_tuple_lookup
  have hmh:=madeHere_tuple
  have hT:Ii.TypeIs ⟨hp,g,d,tk,os⟩ (.ref r) "range":=⟨_,ht,rfl⟩
  wp_walk using wpAny_loadPart' ht,wpAny_typeOf hT,lI (A:=A.in1) hh ht hsmall hn hlen
  intro h' tk' acc' hk hacc
  show Im _ _ (H9.Tuple.tupleExact acc'.toList.toArray>>=fun v=>ret v) _ _ _
  unfold H9.Tuple.tupleExact
  refine Ip (Jl ?_ (by show acc'.toList.toArray.size<=sizeLine;have:=hacc.1;simp only[HD];omega))
  refine Iu ⟨_,rfl,?_⟩
  have e:acc'.toList.toArray=acc':=by simp
  rw[e]
  exact h h' tk' acc' hk hacc
section
variable {prog:Ib}{w:Ic}{A:Ik}{E:H0->Ii->Prop}{s:Ii}
theorem jD {r:Ig}{a b c:Int}{t u v:Tok}{n:Nat}{Q:H0->Ii->Prop}(hh:A.handled=none)(hr:IsRange s.heap r a b c t u v)(hsmall:H9.Range.small a b c=true)
  (hn:H9.Range.rangeSize a b c=n)(hlen:n<=2 ^ 24)(hz:n<=sizeLine)
  (h:∀ (h':Ie) (tk:Nat) (acc':Array H0),(∀b o',s.heap.get? b=some o'->h'.get? b=some o')->ItemsOf (fun i v=> ∃t,v=.int (a+i * c) t) acc' n->Q (.ref h'.objs.size) {s with heap:=h'.push {cls:=.type "tuple",data:=.seq acc'},toks:=tk}):
  Im (Io prog w) A (call (.type "tuple") [.ref r]) Q E s:=
 callType_new F.called_tuple (by decide) (F.typeCall_tuple_1 _) (F.newCall_tuple_1 _) (fun obj=>F.args_object_init_2 obj _) F.entry_tuple_new
  (iV r a b c t u v n hsmall hn hlen hz) ⟨hh,hr,fun h' tk acc' hk hacc=>⟨⟨_,EJ _ rfl,rfl⟩,h h' tk acc' hk hacc⟩⟩
end
def tTR (ta:TA):TE:=fun σ H Q=>ta σ H fun vs H1=> ∃i j:Int,vs=[.int i,.int j]/\(-(2 ^ 62)<=i/\i<2 ^ 62/\ -(2 ^ 62)<=j/\j<2 ^ 62)/\(j - i).toNat<=sizeLine/\ ∀l,H1 l=none->Q (.ref l) (upd H1 l (.tup (La i (j - i).toNat)))
section
variable {X:Cx}{E:XK}{a b:Expr}{p p2 pos pos2:IH}
theorem uf {ta:TA}(hc:X.calm=true)(hgl:Gl X "tuple")(hml:X.mg "tuple"=none)(hg:Gl X "range")(hm:X.mg "range"=none)(ha:PA X [a,b] ta)(hs:IJ [a,b] X.env=[(false,IG a X.env),(false,IG b X.env)]:=by rfl)(hs2:IJ [b] X.env=[(false,IG b X.env)]:=by rfl)
  (he:IJ [.Call (.Name "range" p2) [a,b] [] pos2] X.env=(false,IG (.Call (.Name "range" p2) [a,b] [] pos2) X.env)::IJ [] X.env:=by rfl)(hpl:(II pos (IJ [] X.env)).any (·.1)=false:=by rfl):
  PE X (.Call (.Name "tuple" p) [.Call (.Name "range" p2) [a,b] [] pos2] [] pos) (tTR ta):=by
 intro pins s σ H Q I h
 refine Jg (d6 I hgl hml PyProof.Rows.boot_tuple ?_ (by decide) (by decide))
 refine PyProof.Rows.callWith_type1 ?_ he hpl
 rw[he]
 refine Calls.spliced_cons ?_
 refine Call_ (d6 I hg hm boot_range (PyProof.Rows.callWith_type1 (thn (ha pos2 pins s σ H _ I h) fun us s1 qz=>?_) (by rw[hs,hs2]) (by rw[hs2];rfl)))
 obtain⟨vs,H1,I1,r1,q1⟩:=qz
 obtain⟨i,j,e,⟨q1,q2,q3,q4⟩,hz,q⟩:=q1
 subst e
 cases r1 with
 |cons r rr=>
  cases rr with
  |cons r' rr=>
   cases rr
   obtain⟨t,rfl⟩:=r
   obtain⟨t',rfl⟩:=r'
   refine call_range_2 (Calls.spliced_nil ?_)
   have I2:Inv X pins σ H1 {s1 with heap:=s1.heap.push {cls:=.type "range",data:=.fields #[.int i t,.int j t',.int 1 s1.toks]},toks:=s1.toks+1}:=I1.kept fun b o e=>Ey _ e
   have hn:H9.Range.rangeSize i j 1=((j - i).toNat:Int):=by rw[rangeSize_one];split<;>omega
   refine jD (I2.ok.hd hc) (IsRange.new ..) (small_one q1 q2 q3 q4) hn (EG hz (by decide)) hz fun h' tk acc' hk hacc=>?_
   have vs:Vals (La i (j - i).toNat) acc'.toList:=j7 _ _ _ (by rw[Fu,hacc.1]) fun k v e=>by
    obtain⟨t,e⟩:=hacc.2 k v (by rw[<-HB];exact e)
    exact⟨t,by rw[e];congr 1;omega⟩
   have I3:Inv X pins σ H1 {s1 with heap:=h',toks:=tk}:=I2.kept (t':=tk) hk
   exact⟨.ref _,_,I3.laid (t':=tk) (fun b o e=>Ey _ e) (Em _) (show ObjOk X.prog X.w _ (h'.push {cls:=.type "tuple",data:=.seq acc'}) _ (.tup (La i (j - i).toNat)) from⟨by rw[ml];exact hz,acc'.toList,vs,by rw[HD];exact IsTupD.new _ _⟩),rfl,q _ (I3.hok.fresh (Em _))⟩
def trW (ws:List W):M W:=match ws with
 |[.int i,.int j]=>gd ((-(2 ^ 62)<=i/\i<2 ^ 62/\ -(2 ^ 62)<=j/\j<2 ^ 62)/\(j - i).toNat<=sizeLine) (pr (.tup (Lb i (j - i).toNat)))
 |_=>no
theorem uy {l:JR->M (List W)}(hc:X.calm=true)(hml:X.mg "tuple"=none)(hm:X.mg "range"=none)(ha:JA X E [a,b] l)(hgl:Gl X "tuple":=by rfl)(hg:Gl X "range":=by rfl)(hs:IJ [a,b] X.env=[(false,IG a X.env),(false,IG b X.env)]:=by rfl)(hs2:IJ [b] X.env=[(false,IG b X.env)]:=by rfl)
  (he:IJ [.Call (.Name "range" p2) [a,b] [] pos2] X.env=(false,IG (.Call (.Name "range" p2) [a,b] [] pos2) X.env)::IJ [] X.env:=by rfl)(hpl:(II pos (IJ [] X.env)).any (·.1)=false:=by rfl):JE X E (.Call (.Name "tuple" p) [.Call (.Name "range" p2) [a,b] [] pos2] [] pos) (LY trW l):=
 (uf hc hgl hml hg hm ha.h hs hs2 he hpl).imp fun σ H Q h=>by
  obtain⟨o,ρ,rfl,R,S,h⟩:=h
  refine⟨o,ρ,rfl,R,S,Ps.bd h fun p x vx e1 R1 r1 h1=>?_⟩
  unfold trW at h1
  split at h1
  ·obtain⟨v,u,rfl,r,ru⟩:=r1.two
   obtain⟨hz,h1⟩:=h1.gd
   exact⟨_,_,by rw[Nx.mp r,Nx.mp ru],hz.1,hz.2,fun l hl=>jT R1 hl (lY _ _) h1⟩
  ·exact h1.elim
end
end
section
section
variable {X:Cx}{E:XK}{a b:Expr}{p p2 pos pos2:IH}
end
end
section
section
variable {prog:Ib}{w:Ic}{A:Ik}{E:H0->Ii->Prop}{s:Ii}
end
section
variable {X:Cx}{o:Expr}{p apos cpos pos:IH}
end
end
end L2
namespace L2
open PyProof.Rows
section
variable (n:Nat)(lt:Nat->Nat->Bool)
structure Mg where
 out:Array Nat
 ia:Nat
 ib:Nat
 ac:Nat
 bc:Nat
 g:Nat
section
variable (a b:Array Nat)
end
end
end L2
namespace L2
open PySem PySem.W PyProof.Rows
section
variable {M:Model}{A:Ik}{E:H0->Ii->Prop}{s:Ii}{σ β:Type}{f:Nat->β->StateT σ Sem (ForInStep β)}{Q:β->σ->Prop}{st:σ}
end
section
variable {prog:Ib}{w:Ic}{A:Ik}{E:H0->Ii->Prop}{s:Ii}{κ:SortKind}{it:Array Keyed}{n:Nat}{lt:Nat->Nat->Bool}
variable {p:Array Nat}{pe:Array (Nat×Nat×Nat)}{g:Nat}
end
section
section
variable {prog:Ib}{w:Ic}{A:Ik}{E:H0->Ii->Prop}{s:Ii}{κ:SortKind}{it:Array Keyed}{n:Nat}{lt:Nat->Nat->Bool}
variable {p:Array Nat}{pe:Array (Nat×Nat×Nat)}{g:Nat}
noncomputable abbrev GS:=Option (Option Nat)×Nat×Nat
section
variable {f:Nat->GS->StateT SortSt Sem (ForInStep GS)}{st:SortSt}{left:Bool}{key base hint mx:Nat}{a:Array Nat}
end
end
end
section
section
variable {prog:Ib}{w:Ic}{A:Ik}{E:H0->Ii->Prop}{s:Ii}{κ:SortKind}{it:Array Keyed}{n:Nat}{lt:Nat->Nat->Bool}
variable {p:Array Nat}{pe:Array (Nat×Nat×Nat)}{a b:Array Nat}
noncomputable abbrev M6:=Option (Array Keyed)×Array Keyed×Nat×Nat×Nat×Nat
noncomputable abbrev M5:=Option (Array Keyed)×Array Keyed×Nat×Nat×Nat
noncomputable abbrev t6 (it:Array Keyed)(r:Option (Array Nat))(s:Mg):M6:=(r.map (·.map (kas_item it)),s.out.map (kas_item it),s.ia,s.ib,s.ac,s.bc)
noncomputable abbrev t5 (it:Array Keyed)(r:Option (Array Nat))(s:Mg):M5:=(r.map (·.map (kas_item it)),s.out.map (kas_item it),s.ia,s.ib,s.g)
end
end
section
section
variable {prog:Ib}{w:Ic}{A:Ik}{E:H0->Ii->Prop}{s:Ii}{κ:SortKind}{it:Array Keyed}{n:Nat}{lt:Nat->Nat->Bool}{p:Array Nat}
end
end
section
section
variable {prog:Ib}{w:Ic}{A:Ik}{E:H0->Ii->Prop}{s:Ii}
end
end
section
section
variable {prog:Ib}{w:Ic}{A:Ik}{E:H0->Ii->Prop}{s:Ii}
end
section
variable {X:Cx}{pins:List (Ig×Ij)}{σ:St}{H:Hp}{s:Ii}
end
end
section
section
variable {prog:Ib}{w:Ic}{A:Ik}{E:H0->Ii->Prop}{s:Ii}
end
end
end L2
namespace L2
open PySem PySem.Spec PyProof.Rows
section
variable {X:Cx}{E:XK}{a:Expr}{p p2 pos kpos:IH}{fa:JR->M W}{l:JR->M (List W)}
end
section
open Sem (wp)
section
variable {prog:Ib}{w:Ic}{A:Ik}{E:H0->Ii->Prop}{s:Ii}
end
section
variable {X:Cx}{pins:List (Ig×Ij)}{σ:St}{H:Hp}{s:Ii}
end
section
variable {X:Cx}{E:XK}{tg e a b:Expr}{pos p p2 pos2:IH}{fa fb fv:JR->M W}{l:JR->M (List W)}
end
end
section
section
variable {X:Cx}{E:XK}{tg e a b:Expr}{pos p p2 pos2:IH}{fa fb fv:JR->M W}{l:JR->M (List W)}
end
end
section
open Sem (wp)
section
variable {prog:Ib}{w:Ic}{A:Ik}{E:H0->Ii->Prop}{s:Ii}
end
section
variable {X:Cx}{E:XK}{o e f:Expr}{pos apos cpos:IH}{fa fo fe ff:JR->M W}{elts:List Expr}{tpos:IH}
end
end
section
section
variable {X:Cx}{E:XK}
def NC:JR->M Fl:=fun _=>no
theorem BB {st:IK}:JS X E st NC:=⟨fun pins s σ H D I q=>by
 obtain⟨o,ρ,rfl,R,S,h⟩:=q
 exact h.elim⟩
noncomputable def dh (x y:Str):List Str:=if (decide (x.length<y.length)||decide (H9.Str.strKind x<H9.Str.strKind y))=true then [x] else if (H9.Str.occurrences x y 0 x.length (x.length+1)).isEmpty=true then [x] else H9.Str.partsBetween x (H9.Str.occurrences x y 0 x.length (x.length+1)) y.length
def AL:V->List V->Hp->VK->Prop:=fun x vs H Q=> ∃ (a b:Str),x=.str a/\vs=[.str b]/\(b.length==0)=false/\a.length<=sizeLine/\(dh a b).length<=sizeLine/\ ∀q,H q=none->Q (.ref q) (upd H q (.lst ((dh a b).map V.str)))
theorem lS: ∀ (l:List Str) (t:Nat),Vals (l.map V.str) (strsFrom t l)
 |[],_=>.nil
 |x::l,t=>.cons ⟨_,rfl⟩ (lS l (t+1))
theorem jy {pins:List (Ig×Ij)}{σ:St}{H:Hp}{s:Ii}{Q:VK}{l:List Str}{us:List H0}{tk:Nat}(I:Inv X pins σ H s)(hv:Vals (l.map V.str) us)(hz:l.length<=sizeLine)(q:∀q,H q=none->Q (.ref q) (upd H q (.lst (l.map V.str)))):
  EP X pins σ Q (.ref s.heap.objs.size) {s with toks:=tk,heap:=s.heap.push {cls:=.type "list",data:=.seq us.toArray}}:=
 ⟨.ref s.heap.objs.size,_,I.laid (t':=tk) (fun b o e=>Ey _ e) (Em _) (show ObjOk X.prog X.w _ (s.heap.push {cls:=.type "list",data:=.seq us.toArray}) _ (.lst (l.map V.str)) from⟨by rw[El];exact hz,us,_,hv,EJ _ rfl⟩),rfl,q _ (I.hok.fresh (Em _))⟩
theorem wC:MtR X "str.split" AL:=by
 intro pins s σ H x vs v us Q I rx rv h
 obtain⟨a,b,rfl,rfl,hb,ha,hz,q⟩:=h
 obtain⟨t,rfl⟩:=rx
 obtain⟨u,rfl,ru⟩:=rv.one
 obtain⟨t2,rfl⟩:=ru
 by_cases c1:(decide (a.length<b.length)||decide (H9.Str.strKind a<H9.Str.strKind b))=true
 ·have e:dh a b=[a]:=if_pos c1
  rw[e] at q
  refine Jo F.slot_str_split (Jm s a t) F.entry_str_split (F.args_str_split_2 _ _) (meets_str_split_cannot_occur a b t t2 c1) ?_
  exact jy (l:=[a]) (us:=[.str a t]) (tk:=s.toks) I (.cons ⟨t,rfl⟩ .nil) (by show 1<=sizeLine;decide) q
 ·have c1':(decide (a.length<b.length)||decide (H9.Str.strKind a<H9.Str.strKind b))=false:=by rw[<-Hg];exact c1
  by_cases c2:(H9.Str.occurrences a b 0 a.length (a.length+1)).isEmpty=true
  ·have e:dh a b=[a]:=by unfold dh;rw[if_neg c1,if_pos c2]
   rw[e] at q
   refine Jo F.slot_str_split (Jm s a t) F.entry_str_split (F.args_str_split_2 _ _) (meets_str_split_not_found a b t t2 c1' hb c2) ?_
   exact jy (l:=[a]) (us:=[.str a t]) (tk:=s.toks) I (.cons ⟨t,rfl⟩ .nil) (by show 1<=sizeLine;decide) q
  ·have c2':(H9.Str.occurrences a b 0 a.length (a.length+1)).isEmpty=false:=by rw[<-Hg];exact c2
   have e:dh a b=H9.Str.partsBetween a (H9.Str.occurrences a b 0 a.length (a.length+1)) b.length:=by unfold dh;rw[if_neg c1,if_neg c2]
   rw[e] at q hz
   refine Jo F.slot_str_split (Jm s a t) F.entry_str_split (F.args_str_split_2 _ _) (meets_str_split_sep a b t t2 c1' hb c2' ha hz) ?_
   exact jy (l:=H9.Str.partsBetween a (H9.Str.occurrences a b 0 a.length (a.length+1)) b.length) I (lS _ _) hz q
def Ol (x:W)(ws:List W):M W:=match x,ws with
 |.str a,[.str b]=>gd ((b.length==0)=false/\a.length<=sizeLine/\(dh a b).length<=sizeLine) (pr (.tl ((dh a b).map W.str)))
 |_,_=>no
theorem gy {K:PySem.W.Frag}{o:Wo}: ∀ns:List Str,Rvs K o (ns.map W.str) (ns.map V.str)
 |[]=>Rvs.nil
 |n::r=>Rvs.cons (Nz.mpr rfl) (gy r)
variable {o e:Expr}{apos cpos:IH}{fo:JR->M W}{l:JR->M (List W)}
theorem wJ (ho:JE X E o fo)(ha:JA X E [e] l)(hbase:Jb o "split" X.env (IG o X.env)=IG o X.env:=by rfl)
  (hfew:((II cpos (IJ [e] X.env)).all (fun x=>!x.1) && (Jc cpos (Jd [] X.env)).all (fun x=>x.1.isSome) && decide (([e]:List Expr).length+([]:List Jh).length+(if ([]:List Jh).isEmpty then 0 else 1)<30))=true:=by rfl)
  (hline:(apos.endLine==cpos.line)=true:=by rfl)(hs:IJ [e] X.env=(false,IG e X.env)::IJ [] X.env:=by rfl)(hplain:(II cpos (IJ [] X.env)).any (·.1)=false:=by rfl):
  JE X E (.Call (.Attribute o "split" apos) [e] [] cpos) (L5 isS Ol fo l):=
 (su PySem.F.plainAttrs_str PySem.F.slot_str_split PySem.F.type_str_split wC ho.h ha.h hbase hfew hline hs hplain).imp fun σ H Q h=>by
  obtain⟨w,ρ,rfl,R,S,h⟩:=h
  refine⟨w,ρ,rfl,R,S,Ps.bd h fun p x vx e1 R1 r1 h1=>?_⟩
  cases x with
  |str a=>
   have h1:Ps (cg X E) (Rv X.K) p (bd (l ρ) (fun ws=>Ol (.str a) ws) p.h) Q:=h1
   rw[Nz.mp r1]
   refine⟨rfl,p,ρ,rfl,R1,S.mono R e1,Ps.bd h1 fun q ws vs e2 R2 r2 h2=>?_⟩
   rcases ws with _|⟨w',_|⟨_,_⟩⟩
   ·exact h2.elim
   ·obtain⟨v,rfl,r⟩:=r2.one
    cases w' with
    |str b=>
     have h2:Ps (cg X E) (Rv X.K) q (gd ((b.length==0)=false/\a.length<=sizeLine/\(dh a b).length<=sizeLine) (pr (.tl ((dh a b).map W.str))) q.h) Q:=h2
     obtain⟨hz,h2⟩:=h2.gd
     exact⟨a,b,rfl,by rw[Nz.mp r],hz.1,hz.2.1,hz.2.2,fun q hq=>iO R2 hq (gy _) h2⟩
    |_=>exact h2.elim
   ·cases w'<;>exact h2.elim
  |_=>exact h1.elim
end
section
variable {X:Cx}{c m:Str}{C fA:Ig}{fd:Je}{ps:List Str}{k n:Nat}{fn:List W->M W}{o:Expr}{fo:JR->M W}{pos apos:IH}
theorem zj {pl:Sem Bool}(hn:HZ X.K IC c=some (some (.ref C)))(cl:Cls X.K C)(F:CGm X.prog X.w X.K X.mg X.base k C m fA fd ps n fn)(hr:Room k X.A)(ho:JE X E0 o fo)
  (ht:IG (.Call (.Attribute o m apos) [] [] pos) X.env=(do
   let ov<-IG o X.env
   IP apos.atName
   let (f,first)<-IQ [ov] (Ja ov m pl)
   callWith pos f first (II pos (IJ [] X.env)) (Jc pos (Jd [] X.env))):=by rfl):
  JE X E0 (.Call (.Attribute o m apos) [] [] pos) (L4 c m n fn fo L7):=(dZ ho.h cl F.me F.ok hr F.bi .nil M0 ht).imp fun σ H Q h=>by
 obtain⟨w,ρ,rfl,R,S,h⟩:=h
 refine⟨w,ρ,rfl,R,S,Ps.bd h fun p x vx e1 R1 r1 h1=>?_⟩
 obtain⟨a,dx,fs,rfl,q1,q2,h1⟩:=wZ hn R1 r1 h1
 have h1:Ps (cg X E0) (Rv X.K) p (arW n fn [x] p.h) Q:=h1
 unfold arW at h1
 by_cases z:([x]:List W).length=n
 ·rw[if_pos z] at h1
  exact⟨a,dx,fs,rfl,q1,q2,p,[x],rfl,z,R1,by first|(rw[EX];exact Rvs.cons r1 Rvs.nil)|exact Rvs.cons r1 Rvs.nil,h1⟩
 ·rw[if_neg z] at h1
  exact h1.elim
theorem wK {p0:IH}(M:Mk X.K C fA)(hn:HZ X.K IC c=some (some (.ref C)))(F:FnOk X.prog X.w X.K X.mg X.base CX0 k fA fd ps (Oh X.K X.mg n fn))(hb:Binds X.K fd ps [])(hr:Room (k+1) X.A)(hm:X.mg c=some (.ref C))(hg:Gl X c:=by rfl)
  (hdb:(c==("__debug__":Str))=false:=by decide):JE X E0 (.Call (.Name c p0) [] [] pos) (L3 c n fn L7):=(vX M F hr hg hm hb .nil M0 hdb).imp fun σ H Q h=>by
 obtain⟨p,ρ,rfl,R1,S,h⟩:=h
 intro x dx hx hdx hne
 have X1:Ex p ⟨p.mu,p.h,upd p.H dx (.own x)⟩:=Ex.new hdx
 have N1:Rel X.K ⟨p.mu,p.h,upd p.H dx (.own x)⟩:=R1.new hdx
 have hx1:(⟨p.mu,p.h,upd p.H dx (.own x)⟩:Wo).H x=none:=by
  show upd p.H dx (.own x) x=none
  rw[af (Ne.symm hne)];exact hx
 have X2:Ex ⟨p.mu,p.h,upd p.H dx (.own x)⟩ (Wo.add ⟨p.mu,p.h,upd p.H dx (.own x)⟩ x (.ins c [] []) (.ins C dx [])):=Ex.add hx1
 have N2:Rel X.K (Wo.add ⟨p.mu,p.h,upd p.H dx (.own x)⟩ x (.ins c [] []) (.ins C dx [])):=N1.add hx1 ⟨C,dx,[],hn,aq,rfl,Rvs.nil⟩
 have h1:Ps (cg X E0) (Rv X.K) p (match arW n fn [.loc p.h.length] (p.h++[.ins c [] []]) with
  |.ok .non h'=>.ok (.loc p.h.length) h'
  |_=>.bad) Q:=h
 by_cases z:([W.loc p.h.length]:List W).length=n
 ·rw[xR z] at h1
  refine⟨Wo.add ⟨p.mu,p.h,upd p.H dx (.own x)⟩ x (.ins c [] []) (.ins C dx []),[.loc p.h.length],rfl,z,N2,?_,?_⟩
  ·exact Rvs.cons Rv.addLocI Rvs.nil
  ·show Ps ⟨X.K,X.mg,E0⟩ (Rv X.K) _ (fn [.loc p.h.length] (p.h++[.ins c [] []])) _
   cases ef:fn [.loc p.h.length] (p.h++[.ins c [] []]) with
   |ok a h'=>
    rw[ef] at h1
    cases a with
    |non=>
     intro p' b hp X3 R3 rb
     refine⟨Ny.mp rb,Ps.at (p:=p') h1 hp ((X1.trans X2).trans X3) R3 ?_⟩
     have lt:p.h.length<(Wo.add ⟨p.mu,p.h,upd p.H dx (.own x)⟩ x (.ins c [] []) (.ins C dx [])).h.length:=by show _<(p.h++[_]).length;simp
     unfold Rv
     refine⟨EM lt X3.le,?_⟩
     rw[X3.mu _ lt]
     show V.ref x=V.ref (if p.h.length=p.h.length then x else p.mu p.h.length)
     rw[if_pos rfl]
    |_=>exact h1.elim
   |ex y h'=>rw[ef] at h1;exact h1.elim
   |bad=>rw[ef] at h1;exact h1.elim
 ·have:arW n fn [.loc p.h.length]=no:=if_neg z
  rw[this] at h1
  exact h1.elim
end
end
section
section
variable {X:Cx}{E:XK}{o i e value:Expr}{p pos apos cpos tpos:IH}{fo fi fv:JR->M W}{l:JR->M (List W)}
def Lh (w:W):M W:=bd (LS w) fun _=>pr w
end
end
section
section
variable {X:Cx}{E:XK}{o i e value:Expr}{p pos apos cpos tpos:IH}{fo fi fv:JR->M W}{l:JR->M (List W)}
def N9 (x:W)(ws:List W):M W:=match ws with
 |[.str k]=>bd (LS x) fun l=>match MV sOf l with
  |some (ss:List Str)=>match ss.findIdx? (fun m=>decide (m=k)) with
   |some j=>pr (.int (j:Int))
   |none=>no
  |none=>no
 |_=>no
theorem vC {k:Str}: ∀ {ss:List Str}{us:List H0},Vals (ss.map V.str) us->us.length=ss.length/\ ∀ (i:Nat) (u:H0),us[i]?=some u-> ∃m,ss[i]?=some m/\eqU (.str k) u=decide (m=k)
 |[],_,r=>by rw[EV] at r;cases r;exact⟨rfl,fun i u h=>by cases h⟩
 |n::ss,_,r=>by
  rw[Er] at r
  cases r with
  |cons h t=>
   obtain⟨a,b⟩:=vC (k:=k) t
   refine⟨congrArg (· +1) a,fun i u hu=>?_⟩
   cases i with
   |zero=>
    cases hu
    refine⟨n,rfl,?_⟩
    rw[rH h rfl]
    by_cases q:n=k
    ·subst q;simp [eqV]
    ·rw[decide_eq_false q];simp [eqV,q]
   |succ i=>exact b i u hu
def rSIdx:V->List V->Hp->VK->Prop:=fun x vs H Q=> ∃ (p:Ig) (ss:List Str) (k:Str) (j:Nat),x=.ref p/\vs=[.str k]/\H p=some (.lst (ss.map V.str))/\ss.findIdx? (fun m=>decide (m=k))=some j/\Q (.int j) H
theorem yW:MtM X "list.index" rSIdx:=by
 intro pins s σ H x vs v us Q I rx rv h
 obtain⟨p,ss,k,j,rfl,rfl,hp,hj,q⟩:=h
 cases rx
 obtain⟨u,rfl,ru⟩:=rv.one
 obtain⟨t,rfl⟩:=ru
 obtain⟨its,n,r,ho,hz⟩:=I.lst hp
 obtain⟨len,gt⟩:=vC (k:=k) r
 rw[GD] at hj
 obtain⟨h1,h2,h3⟩:=hj
 have at': ∀ (i:Nat) (hi:i<its.length),eqU (.str k) its[i]=decide (ss[i]'(by omega)=k):=fun i hi=>by
  obtain⟨m,e1,e2⟩:=gt i its[i] (EL hi)
  rw[EL (by omega)] at e1
  cases e1
  exact e2
 have lz:=iu
 rw[El] at hz
 refine Jo F.slot_list_index ⟨_,ho,rfl⟩ F.entry_list_index (F.args_list_index_2 _ _) (SeqAt.list_indexAt p its.toArray n none #[] (.str k t) (eqU (.str k)) j (by rw[Ez];omega) (by omega) ?_ fun m hm hlt=>?_) ⟨ho,fun y hy=>eX (x:=.str k) (v:=.str k t) ⟨t,rfl⟩ rfl r ?_ y (by simpa using hy),.int j,H,I.tok _,⟨_,rfl⟩,q⟩
 ·rw[HE,at' j (by omega)];exact h2
 ·rw[HE,at' m (by rw[Ez] at hm;exact hm)]
  have:=h3 m hlt
  simpa using this
 ·rw[Hh];exact Fk.mpr fun _ _=>rfl
theorem zh (ho:JE X E o fo)(ha:JA X E [e] l)(hbase:Jb o "index" X.env (IG o X.env)=IG o X.env:=by rfl)
  (hfew:((II cpos (IJ [e] X.env)).all (fun x=>!x.1) && (Jc cpos (Jd [] X.env)).all (fun x=>x.1.isSome) && decide (([e]:List Expr).length+([]:List Jh).length+(if ([]:List Jh).isEmpty then 0 else 1)<30))=true:=by rfl)
  (hline:(apos.endLine==cpos.line)=true:=by rfl)(hs:IJ [e] X.env=(false,IG e X.env)::IJ [] X.env:=by rfl)(hplain:(II cpos (IJ [] X.env)).any (·.1)=false:=by rfl):
  JE X E (.Call (.Attribute o "index" apos) [e] [] cpos) (L5 Lh N9 fo l):=
 (su PySem.F.plainAttrs_list PySem.F.slot_list_index PySem.F.type_list_index yW ho.h ha.h hbase hfew hline hs hplain).imp fun σ H Q h=>by
  obtain⟨w,ρ,rfl,R,S,h⟩:=h
  refine⟨w,ρ,rfl,R,S,Ps.bd h fun p x vx e1 R1 r1 h1=>?_⟩
  have h1:Ps (cg X E) (Rv X.K) p (bd (bd (LS x) fun _=>pr x) (fun x=>bd (l ρ) fun ws=>N9 x ws) p.h) Q:=h1
  rw[aa] at h1
  obtain⟨l0,a,vs0,rfl,s1,r3,h1⟩:=eC R1 r1 h1
  rw[aV] at h1
  refine⟨.inl ⟨rfl,vs0,.of s1⟩,p,ρ,rfl,R1,S.mono R e1,Ps.bd h1 fun q ws vs e2 R2 r2 h2=>?_⟩
  unfold N9 at h2
  split at h2
  ·rename_i k
   obtain⟨v,rfl,r⟩:=r2.one
   obtain⟨l1,a1,vs1,ea,s2,r4,h2⟩:=eC R2 (r1.mono R1 e2) h2
   cases ea
   cases t1:MV sOf l1 with
   |none=>simp only[t1] at h2;exact h2.elim
   |some ss=>
    simp only[t1] at h2
    have e3:vs1=ss.map V.str:=eA vK t1 r4
    subst e3
    cases hj:ss.findIdx? (fun m=>decide (m=k)) with
    |none=>simp only[hj] at h2;exact h2.elim
    |some j=>
     simp only[hj] at h2
     exact⟨a,ss,k,j,rfl,by rw[Nz.mp r],s2,hj,h2.pr R2 (Nx.mpr rfl)⟩
  ·exact h2.elim
end
end
end L2
namespace L2
open PySem
theorem qd {c:Nat}: ∀ {a b u v:List Nat},c ∉ a->c ∉ b->a++c::u=b++c::v->a=b/\u=v
 |[],[],u,v,_,_,e=>⟨rfl,(List.cons.inj e).2⟩
 |[],y::b,u,v,_,h,e=>absurd (List.cons.inj e).1 (fun z=>h (z▸Eo))
 |x::a,[],u,v,h,_,e=>absurd (List.cons.inj e).1 (fun z=>h (z▸Eo))
 |x::a,y::b,u,v,h1,h2,e=>by
  obtain⟨e1,e2⟩:=List.cons.inj e
  obtain⟨q1,q2⟩:=qd (fun z=>h1 (EA _ z)) (fun z=>h2 (EA _ z)) e2
  exact⟨by rw[e1,q1],q2⟩
theorem mL {a b:Str}(h:a.cps.toList=b.cps.toList):a=b:=by
 cases a;cases b
 congr 1
 exact Array.toList_inj.mp h
theorem eY (c:Nat)(x y:Str)(r:List Str):(Str.join ⟨#[c]⟩ (x::y::r)).cps.toList=x.cps.toList++c::(Str.join ⟨#[c]⟩ (y::r)).cps.toList:=by
 show ((x++(⟨#[c]⟩:Str))++Str.join ⟨#[c]⟩ (y::r)).cps.toList=_
 rw[hU,hU,EQ]
 rfl
theorem pB {c:Nat}: ∀ {ps qs:List Str},ps≠ []->qs≠ []->(∀p∈ps,c ∉ p.cps.toList)->(∀p∈qs,c ∉ p.cps.toList)->Str.join ⟨#[c]⟩ ps=Str.join ⟨#[c]⟩ qs->ps=qs
 |[],_,h,_,_,_,_=>absurd rfl h
 |_::_,[],_,h,_,_,_=>absurd rfl h
 |[x],[y],_,_,_,_,e=>by rw[show x=y from e]
 |[x],y::z::r,_,_,f,_,e=>by
  have e:=congrArg (fun s:Str=>s.cps.toList) e
  rw[eY] at e
  refine absurd ?_ (f x Eo)
  have e:x.cps.toList=_:=e
  rw[e]
  exact E3 _ Eo
 |x::w::s,[y],_,_,_,f,e=>by
  have e:=congrArg (fun s:Str=>s.cps.toList) e
  rw[eY] at e
  refine absurd ?_ (f y Eo)
  have e:_=y.cps.toList:=e
  rw[<-e]
  exact E3 _ Eo
 |x::w::s,y::z::r,_,_,f,g,e=>by
  have e:=congrArg (fun s:Str=>s.cps.toList) e
  rw[eY,eY] at e
  obtain⟨e1,e2⟩:=qd (f x Eo) (g y Eo) e
  have e3:=pB (ps:=w::s) (qs:=z::r) (by simp) (by simp) (fun p hp=>f p (EA _ hp)) (fun p hp=>g p (EA _ hp)) (mL e2)
  rw[mL e1,e3]
theorem qy {c:Nat}{ps:List Str}(h:ps≠ [])(f:∀p∈ps,c ∉ p.cps.toList):dh (Str.join ⟨#[c]⟩ ps) ⟨#[c]⟩=ps:=by
 have e:dh (Str.join ⟨#[c]⟩ ps) ⟨#[c]⟩=Txt.split (Str.join ⟨#[c]⟩ ps) ⟨#[c]⟩:=rfl
 rw[e]
 refine pB (c:=c) (fun z=>?_) h (StrLaws.split_free _ _) f (StrLaws.join_split _ _)
 have:=PyProof.Rows.split_pos (Str.join ⟨#[c]⟩ ps) ⟨#[c]⟩
 rw[z] at this
 exact absurd this (by simp)
theorem oG {c:Nat}{ps:List Str}(h:ps≠ [])(f:∀p∈ps,c ∉ p.cps.toList)(z:(Str.join ⟨#[c]⟩ ps).length<=sizeLine)(z2:ps.length<=sizeLine):Ol (.str (Str.join ⟨#[c]⟩ ps)) [.str ⟨#[c]⟩]=pr (.tl (ps.map W.str)):=by
 show gd _ _=_
 rw[qy h f,ag ⟨rfl,z,z2⟩]
end L2
namespace Wd
open PySem L2
noncomputable def LET:Str:= "abcdefghijklmnopqrstuvwxyz"
noncomputable def FIG:Str:= "0123456789"
def Li (c:Nat):Bool:=decide (c∈LET.cps.toList)
def Lf (c:Nat):Bool:=decide (c∈FIG.cps.toList)
def Lc (c:Nat):Bool:=decide (c∈(LET++FIG).cps.toList)
theorem wT:LET.cps.toList=G9 97 26:=by decide+kernel
theorem xk:FIG.cps.toList=G9 48 10:=by decide+kernel
theorem Lj {c:Nat}:Li c=true↔97<=c/\c<=122:=by
 unfold Li
 rw[decide_eq_true_eq,wT,HF]
 omega
theorem Lg {c:Nat}:Lf c=true↔48<=c/\c<=57:=by
 unfold Lf
 rw[decide_eq_true_eq,xk,HF]
 omega
def OG:List Str:=["box", "block", "put", "say", "ask", "go", "if", "else", "table", "stop"]
def aK (w:Str):Bool:=decide (1<=w.length/\w.length<=8) && (w.cps.toList.all Li && !decide (w∈OG))
def Mw (w:Str):Bool:=decide (1<=w.length/\w.length<=3) && (!(decide (w.cps.toList.head?=some 48) && !decide (w= "0")) && w.cps.toList.all Lf)
noncomputable def dk (w:Str):Int:=((PySem.NumText.digitsVal w.cps.toList:Nat):Int)
inductive Exp where
 |num (n:Int)
 |box (x:Str)
 |bin (s:Str)(l r:Exp)
 deriving DecidableEq
def LN (l:List Nat):Option (Exp×List Nat):=
 if aK ⟨(l.takeWhile Lc).toArray⟩=true then some (.box ⟨(l.takeWhile Lc).toArray⟩,l.dropWhile Lc)
 else if Mw ⟨(l.takeWhile Lc).toArray⟩=true then some (.num (dk ⟨(l.takeWhile Lc).toArray⟩),l.dropWhile Lc) else none
noncomputable def Kn (f:List Nat->Option (Exp×List Nat))(ops:List Nat):Nat->Exp->List Nat->Option (Exp×List Nat)
 |0,e,l=>some (e,l)
 |_+1,e,[]=>some (e,[])
 |n+1,e,c::r=>if c∈ops then (match f r with
   |none=>none
   |some (e2,r2)=>Kn f ops n (.bin ⟨#[c]⟩ e e2) r2) else some (e,c::r)
def MZ (f:List Nat->Option (Exp×List Nat))(ops:List Nat)(l:List Nat):Option (Exp×List Nat):=match f l with
 |none=>none
 |some (e,r)=>Kn f ops r.length e r
noncomputable def MQ:List Nat:=[42]
noncomputable def MU:List Nat:=[43,45]
noncomputable def cK (f:List Nat->Option (Exp×List Nat))(r:List Nat):Option (Exp×List Nat):=match f r with
 |some (e,41::r2)=>some (e,r2)
 |_=>none
def bO:Nat->List Nat->Option (Exp×List Nat)
 |0,l=>if l.head?=some 40 then none else LN l
 |m+1,l=>if l.head?=some 40 then cK (MZ (MZ (bO m) MQ) MU) l.tail else LN l
def bR (m:Nat):List Nat->Option (Exp×List Nat):=MZ (bO m) MQ
def eQ (m:Nat):List Nat->Option (Exp×List Nat):=MZ (bR m) MU
def KL (w:Str):Option Exp:=if w.length>60 then none else match eQ 5 w.cps.toList with
 |some (e,[])=>some e
 |_=>none
noncomputable def Suf (f:List Nat->Option (Exp×List Nat)):Prop:= ∀l e r,f l=some (e,r)->r<:+l
theorem oA:Suf LN:=fun l e r h=>by
 unfold LN at h
 split at h
 ·cases h;exact HG _
 ·split at h
  ·cases h;exact HG _
  ·cases h
theorem lR {f:List Nat->Option (Exp×List Nat)}{ops:List Nat}(hf:Suf f): ∀ (n:Nat) (e:Exp) (l:List Nat) (e':Exp) (r:List Nat),Kn f ops n e l=some (e',r)->r<:+l
 |0,e,l,e',r,h=>by cases h;exact Hi _
 |_+1,e,[],e',r,h=>by cases h;exact Hi _
 |n+1,e,c::l,e',r,h=>by
  unfold Kn at h
  split at h
  ·split at h
   ·cases h
   ·rename_i e2 r2 hf2
    exact (lR hf n _ r2 e' r h).trans ((hf l e2 r2 hf2).trans (List.suffix_cons c l))
  ·cases h;exact Hi _
theorem gO {f:List Nat->Option (Exp×List Nat)}{ops:List Nat}(hf:Suf f):Suf (MZ f ops):=fun l e r h=>by
 unfold MZ at h
 split at h
 ·cases h
 ·rename_i e1 r1 h1
  exact (lR hf _ _ _ _ _ h).trans (hf l e1 r1 h1)
theorem oB {f:List Nat->Option (Exp×List Nat)}(hf:Suf f):Suf (cK f):=fun l e r h=>by
 unfold cK at h
 split at h
 ·rename_i e1 r1 h1
  cases h
  exact (List.suffix_cons 41 r).trans (hf l e _ h1)
 ·cases h
theorem ii: ∀m,Suf (bO m)
 |0=>fun l e r h=>by
  unfold bO at h
  split at h
  ·cases h
  ·exact oA l e r h
 |m+1=>fun l e r h=>by
  unfold bO at h
  split at h
  ·exact (oB (gO (gO (ii m))) _ e r h).trans (List.tail_suffix l)
  ·exact oA l e r h
theorem jE (m:Nat):Suf (bR m):=gO (ii m)
theorem lQ (m:Nat):Suf (eQ m):=gO (jE m)
theorem vq {w l r:List Nat}{p:Nat}(hl:l=w.drop p)(h:r<:+l):r=w.drop (w.length - r.length)/\r.length<=l.length:=by
 subst hl
 refine⟨List.suffix_iff_eq_drop.mp (h.trans (List.drop_suffix p w)),h.length_le⟩
end Wd
namespace Q
open PySem L2
noncomputable def top (i:Nat):IK:=PySem.Challenge.pw_blockfall_k49_whole_turning_counts.main.body.getD i (.Pass ⟨0,0,0,0⟩)
noncomputable abbrev jR:IK:=top 19
noncomputable abbrev mV:IK:=top 20
noncomputable abbrev ND:IK:=top 22
noncomputable abbrev mU:IK:=top 23
noncomputable abbrev iN:IK:=top 24
noncomputable abbrev jS:IK:=top 25
noncomputable abbrev gx:IK:=top 26
noncomputable abbrev qI:IK:=cc (top 21) 0
noncomputable abbrev qJ:IK:=cc (top 21) 1
noncomputable abbrev ky:IK:=cc (top 21) 2
noncomputable abbrev qH:IK:=cc (top 21) 3
noncomputable abbrev NI:IK:=cc (top 21) 4
end Q
namespace Q
open PySem L2 Wd
def OH:List V:=OG.map V.str
structure Txt (K:PySem.W.Frag)(mg:Str->Option H0)(CS CN:Ig):Prop where
 cl:Cls K CS
 nw:NoAttr K CS "word"
 np:NoAttr K CS "place"
 mgS:mg "Signs"=some (.ref CS)
 mgN:mg "NoRow"=some (.ref CN)
 exN:PySem.W.excIn K CN Kd "ValueError.__new__"=true
 len:mg "len"=none
 all:mg "all"=none
 int:mg "int"=none
 let_: ∃t,mg "LETTERS"=some (.str LET t)
 fig: ∃t,mg "FIGURES"=some (.str FIG t)
 tak: ∃a,mg "TAKEN_WORDS"=some (.ref a)/\ ∀H:Hp,SqT K H a OH
 n8: ∃t,mg "LONGEST_NAME"=some (.int 8 t)
 n3: ∃t,mg "LONGEST_NUMBER"=some (.int 3 t)
 n60: ∃t,mg "LONGEST_EXPRESSION"=some (.int 60 t)
 n5: ∃t,mg "DEEPEST_BRACKET"=some (.int 5 t)
theorem cZ {H:Hp}{p:Ig}(h:H p=none)(o:HO):Same H (upd H p o):=fun b u q=>by rw[af (ba q h)];exact q
theorem small {n:Nat}(h:n<=1000):n<=sizeLine:=Gj (jo h)
theorem aP {α:Type}{l:List α}{i:Nat}{x:α}(h:l[i]?=some x):l.take (i+1)=l.take i++[x]:=by
 obtain⟨hi,e⟩:=Ev.mp h
 rw[Ft,h]
 rfl
theorem Cz {α:Type}{xs:List α}{i:Int}{v:α}(h0:0<=i)(h:xs[i.toNat]?=some v):atI xs i=some v:=by
 have q:=jc h
 have e:((i.toNat:Nat):Int)=i:=by omega
 rw[e] at q;exact q
theorem bh (w:Str):w.cps.toList.length=w.length:=by simp [Str.length]
theorem yesT {σ:St}{H:Hp}{A B:Hp->Prop}(h:A H):OE σ H (fun b H3=>if b=true then A H3 else B H3):=by
 show if true=true then A H else B H
 rw[if_pos rfl];exact h
section
variable {P:Ib}{w:Ic}{K:PySem.W.Frag}{mg:Str->Option H0}{base:Ie}{f CS CN:Ig}{fd:Je}
def km:Sp:=fun vs H Q _=> ∃z:Str,vs=[.str z]/\z.length<=sizeLine/\ ∀H',Same H H'->Q (.bl (aK z)) H'
theorem AD:JU ["word"] ["word"] (ae jR):=⟨rfl,rfl,rfl,by decide+kernel,rfl,by decide+kernel,by decide+kernel⟩
theorem ww:((["sign", ".0"]:List Str)++(["word"]:List Str).map (hid ["sign", ".0"])).Nodup:=by decide+kernel
theorem uM (z:Str):inV (.str z) OH=decide (z∈OG):=by
 unfold inV OH
 rw[Fg,Gv,decide_eq_true_eq]
 constructor
 ·rintro⟨v,hv,h⟩
  obtain⟨y,hy,rfl⟩:=EB.mp hv
  have:y=z:=by simpa [eqV] using h
  subst this;exact hy
 ·intro h
  exact⟨.str z,EB.mpr ⟨z,h,rfl⟩,by simp [eqV]⟩
theorem rE:OH.all KS=true:=by decide+kernel
theorem yN (F:Fun K "is_name" "is_name" jR f fd)(T:Txt K mg CS CN):FnOk P w K mg base CX0 1 f fd ["word"] km:=by
 refine F.ok AD (fun vs H Q E h=>?_) (fun cdv A outer s H vs Q E hr h=>?_)
 ·obtain⟨z,rfl,_⟩:=h
  rfl
 obtain⟨z,rfl,hz,q⟩:=h
 obtain⟨t8,h8⟩:=T.n8
 obtain⟨tL,hL⟩:=T.let_
 obtain⟨aT,hT,sT⟩:=T.tak
 refine⟨_,ax (gg (PW.pt (vN (dl v8 (c9 Ki rfl T.len PySem.boot_len (ai (pv 0) MX)) M4 (d5 _))
   (qL (dl ma (c9 Ki rfl T.len PySem.boot_len (ai (pv 0) MX)) (c8 (v:=.int 8) rfl h8 ⟨_,rfl⟩) (d5 _))))) (aJ (cC M1)) Nc)
  (aJ (cC (qU (c9 (p4 rfl) rfl T.all PyProof.Rows.boot_all (ai (nq (ls:=["sign", ".0"]) rfl (.of (ae jR)) (vU (pv 0)) (fun _ _ _ _=>bY (i:=0) ww rfl (Or.inl rfl) (.inr rfl)) (fun _ _ _ _=>nj)
      (fun _ _ _ _=>gQ MI (pv 0) (c8 (v:=.str LET) rfl hL ⟨_,rfl⟩) (by with_unfolding_all rfl))) MX))
   (qT (gQ MO (pv 0) (c8 (v:=.ref aT) rfl hT rfl) (by with_unfolding_all rfl)))))),?_⟩
 refine⟨_,rfl,z,rfl,hz,_,_,rfl,rfl,_,rfl,?_⟩
 have no: ¬(1<=z.length/\z.length<=8)->aK z=false:=fun h=>by unfold aK;rw[decide_eq_false h];rfl
 refine Lo (fun c=>?_) (fun c=>?_)
 ·have c1:(z.length:Int)<1:=of_decide_eq_true c
  refine Lq ?_
  have:=q H (Same.refl _)
  rw[no (by omega)] at this
  exact this
 ·have c1: ¬(z.length:Int)<1:=of_decide_eq_false (FI.mpr c)
  refine⟨_,rfl,z,rfl,hz,_,_,rfl,rfl,_,rfl,?_⟩
  refine Lo (fun c=>?_) (fun c=>?_)
  ·have c2:(z.length:Int)>8:=of_decide_eq_true c
   have:=q H (Same.refl _)
   rw[no (by omega)] at this
   exact this
  ·have c2: ¬(z.length:Int)>8:=of_decide_eq_false (FI.mpr c)
   have yes:aK z=(z.cps.toList.all Li && !decide (z∈OG)):=by
    unfold aK
    rw[decide_eq_true (by omega:1<=z.length/\z.length<=8)];rfl
   refine⟨rfl,_,rfl,z,rfl,pV (fun i ys H'=>H'=H/\ys=((z.cps.toList.take i).map Li).map V.bl) ⟨rfl,rfl⟩ ?_ ?_⟩
   ·rintro i c0 ys H' hc ⟨rfl,rfl⟩
    refine⟨rfl,rfl,yesT ?_⟩
    refine⟨_,rfl,_,_,rfl,rfl,?_,rfl,?_⟩
    ·rw[El,El,E5]
     exact jo (by rw[bh];omega)
    ·rw[aP hc,Et,Et,rB];rfl
   ·rintro ys H' ⟨rfl,rfl⟩ D hD
    refine⟨D,(z.cps.toList.take z.cps.size).map Li,rfl,SqL.of aq,_,rfl,?_⟩
    have ea:((z.cps.toList.take z.cps.size).map Li).all id=z.cps.toList.all Li:=by
     have:z.cps.size=z.cps.toList.length:=by simp
     rw[this,EN,Hh];rfl
    rw[ea]
    cases hb:z.cps.toList.all Li with
    |false=>
     refine Lp ?_
     have this: ∀L,Q _ (upd H' D (.lst L)):=fun L=>q _ (cZ hD _)
     rw[yes,hb] at this
     exact this _
    |true=>
     refine Lq ⟨_,rfl,aT,OH,rfl,.inr (sT _),rfl,rE,?_⟩
     have this: ∀L,Q _ (upd H' D (.lst L)):=fun L=>q _ (cZ hD _)
     rw[yes,hb,<-uM] at this
     exact this _
def Oi:Sp:=fun vs H Q _=> ∃z:Str,vs=[.str z]/\z.length<=sizeLine/\ ∀H',Same H H'->Q (.bl (Mw z)) H'
theorem scNum:JU ["word"] ["word"] (ae mV):=⟨rfl,rfl,rfl,by decide+kernel,rfl,by decide+kernel,by decide+kernel⟩
theorem Bm (F:Fun K "is_number" "is_number" mV f fd)(T:Txt K mg CS CN):FnOk P w K mg base CX0 1 f fd ["word"] Oi:=by
 refine F.ok scNum (fun vs H Q E h=>?_) (fun cdv A outer s H vs Q E hr h=>?_)
 ·obtain⟨z,rfl,_⟩:=h
  rfl
 obtain⟨z,rfl,hz,q⟩:=h
 obtain⟨t3,h3⟩:=T.n3
 obtain⟨tL,hL⟩:=T.fig
 refine⟨_,ax (gg (PW.pt (vN (dl v8 (c9 Ki rfl T.len PySem.boot_len (ai (pv 0) MX)) M4 (d5 _))
   (qL (dl ma (c9 Ki rfl T.len PySem.boot_len (ai (pv 0) MX)) (c8 (v:=.int 3) rfl h3 ⟨_,rfl⟩) (d5 _))))) (aJ (cC M1)) Nc)
  (ax (gg (PW.pt (vO (dl MG (oY nG (pv 0) M4 (fun _ _=>rfl)) M8 (d5 _)) (sj (dl MN (pv 0) M8 (d5 _))))) (aJ (cC M1)) Nc)
  (aJ (cC (c9 (p4 rfl) rfl T.all PyProof.Rows.boot_all (ai (nq (ls:=["sign", ".0"]) rfl (.of (ae mV)) (vU (pv 0)) (fun _ _ _ _=>bY (i:=0) ww rfl (Or.inl rfl) (.inr rfl)) (fun _ _ _ _=>nj)
      (fun _ _ _ _=>gQ MI (pv 0) (c8 (v:=.str FIG) rfl hL ⟨_,rfl⟩) (by with_unfolding_all rfl))) MX))))),?_⟩
 refine⟨_,rfl,z,rfl,hz,_,_,rfl,rfl,_,rfl,?_⟩
 have no: ¬(1<=z.length/\z.length<=3)->Mw z=false:=fun h=>by unfold Mw;rw[decide_eq_false h];rfl
 refine Lo (fun c=>?_) (fun c=>?_)
 ·have c1:(z.length:Int)<1:=of_decide_eq_true c
  refine Lq ?_
  have:=q H (Same.refl _)
  rw[no (by omega)] at this
  exact this
 ·have c1: ¬(z.length:Int)<1:=of_decide_eq_false (FI.mpr c)
  refine⟨_,rfl,z,rfl,hz,_,_,rfl,rfl,_,rfl,?_⟩
  refine Lo (fun c=>?_) (fun c=>?_)
  ·have c2:(z.length:Int)>3:=of_decide_eq_true c
   have:=q H (Same.refl _)
   rw[no (by omega)] at this
   exact this
  ·have c2: ¬(z.length:Int)>3:=of_decide_eq_false (FI.mpr c)
   have yes:Mw z=(!(decide (z.cps.toList.head?=some 48) && !decide (z= "0")) && z.cps.toList.all Lf):=by
    unfold Mw
    rw[decide_eq_true (by omega:1<=z.length/\z.length<=3)];rfl
   obtain⟨c0,r0,e0⟩: ∃c0 r0,z.cps.toList=c0::r0:=by
    cases h:z.cps.toList with
    |nil=>have:=bh z;rw[h] at this;simp at this;omega
    |cons a b=>exact⟨a,b,rfl⟩
   refine⟨_,rfl,z,0,c0,rfl,rfl,hz,by rw[e0];exact Cz (by decide) rfl,rfl,_,rfl,?_⟩
   have h48:decide (V.str ⟨#[c0]⟩=V.str "0")=decide (z.cps.toList.head?=some 48):=by
    rw[e0,decide_eq_decide]
    constructor
    ·intro h
     have h1:=V.str.inj h
     have h2:(#[c0]:Array Nat)=("0":Str).cps:=congrArg Str.cps h1
     have h3:("0":Str).cps= #[48]:=by decide+kernel
     rw[h3] at h2
     have:c0=48:=by simpa using h2
     subst this;rfl
    ·intro h
     have:c0=48:=by simpa using h
     subst this
     have h3:(⟨#[48]⟩:Str)= "0":=by decide+kernel
     rw[h3]
   have fin:(!(decide (z.cps.toList.head?=some 48) && !decide (z= "0")))=true->tRet (tCB (fun xs H Q=> ∃ (p:Ig) (bs:List Bool),xs=[.ref p]/\SqL K H p (bs.map V.bl)/\Q (.bl (bs.all id)) H) (Oy (Ox ["word"] ["sign", ".0"] (iStr (OD 0)) (K1 0) OE (tOp (fun x y H Q=> ∃i j,x=.str i/\y=.str j/\Q (.bl (!(H9.Str.occurrences j i 0 j.length 1).isEmpty)) H) (OD 0) (tC (.str FIG)))) OB)) {nx:=fun _ H'=>Q .non H',rt:=Q} (Oq ["word"] [.str z]) H:=by
    intro hb
    refine⟨rfl,_,rfl,z,rfl,pV (fun i ys H'=>H'=H/\ys=((z.cps.toList.take i).map Lf).map V.bl) ⟨rfl,rfl⟩ ?_ ?_⟩
    ·rintro i c0 ys H' hc ⟨rfl,rfl⟩
     refine⟨rfl,rfl,yesT ?_⟩
     refine⟨_,rfl,_,_,rfl,rfl,?_,rfl,?_⟩
     ·rw[El,El,E5]
      exact jo (by rw[bh];omega)
     ·rw[aP hc,Et,Et,rB];rfl
    ·rintro ys H' ⟨rfl,rfl⟩ D hD
     refine⟨D,(z.cps.toList.take z.cps.size).map Lf,rfl,SqL.of aq,?_⟩
     have ea:((z.cps.toList.take z.cps.size).map Lf).all id=z.cps.toList.all Lf:=by
      have:z.cps.size=z.cps.toList.length:=by simp
      rw[this,EN,Hh];rfl
     rw[ea]
     have this: ∀L,Q _ (upd H' D (.lst L)):=fun L=>q _ (cZ hD _)
     rw[yes,hb,Bool.true_and] at this
     exact this _
   rw[h48]
   refine Lo (fun c=>?_) (fun c=>?_)
   ·refine⟨_,rfl,rfl,_,rfl,?_⟩
    have e2:decide (V.str z=V.str "0")=decide (z= "0"):=by
     rw[decide_eq_decide];exact⟨V.str.inj,congrArg V.str⟩
    rw[e2]
    refine Lo (fun c2=>?_) (fun c2=>?_)
    ·have:=q H (Same.refl _)
     rw[yes,c,c2] at this
     exact this
    ·exact fin (by rw[c,FI.mpr c2];rfl)
   ·exact fin (by rw[FI.mpr c];rfl)
end
end Q
namespace Q
open PySem L2 Wd
structure CF (P:Ib)(w:Ic)(K:PySem.W.Frag)(mg:Str->Option H0)(base:Ie)(CX:CXT)(k:Nat)(x:Str)(f:Ig)(fd:Je)(ps:List Str)(sp:Sp):Prop where
 ok:FnOk P w K mg base CX k f fd ps sp
 bi:Binds K fd ps []
 kp:HX K (.ref f)=true
 mg:mg x=some (.ref f)
structure CM (P:Ib)(w:Ic)(K:PySem.W.Frag)(mg:Str->Option H0)(base:Ie)(CX:CXT)(k:Nat)(C:Ig)(m:Str)(f:Ig)(fd:Je)(ps:List Str)(sp:Sp):Prop where
 ok:FnOk P w K mg base CX k f fd ps sp
 bi:Binds K fd ps []
 me:JY K C m f
theorem u8: ¬(("word":Str)= "place"):=by decide+kernel
def KY (z:Str)(p:Int):List (Str×V):=Nh "place" (.int p) (Nh "word" (.str z) [])
theorem j1 (z:Str)(p:Int):KY z p=([("word",V.str z),("place",V.int p)]:List (Str×V)):=by
 show (if ("word":Str)= "place" then [(("word":Str),V.int p)] else (("word":Str),V.str z)::Nh "place" (V.int p) [])=([("word",V.str z),("place",V.int p)]:List (Str×V))
 rw[if_neg u8]
 all_goals rfl
theorem g6 (z:Str)(p:Int):(KY z p).lookup ("word":Str)=some (.str z):=by
 unfold KY
 rw[cE,if_neg u8,cE,if_pos rfl]
theorem cU (z:Str)(p:Int):(KY z p).lookup ("place":Str)=some (.int p):=by
 unfold KY
 rw[cE,if_pos rfl]
theorem cS (z:Str)(p:Int){m:Str}(h1: ¬m= "place")(h2: ¬m= "word"):(KY z p).lookup m=none:=by
 unfold KY
 rw[cE,if_neg h1,cE,if_neg h2]
 all_goals rfl
theorem pO (z:Str)(p y:Int):Nh "place" (.int y) (KY z p)=KY z y:=by
 rw[j1,j1]
 show (if ("word":Str)= "place" then _ else (("word":Str),V.str z)::(if ("place":Str)= "place" then [(("place":Str),V.int y)] else _))=([("word",V.str z),("place",V.int y)]:List (Str×V))
 rw[if_neg u8,if_pos rfl]
def SgAt (C:Ig)(H:Hp)(a:Ig)(z:Str)(p:Nat):Prop:=z.length<=sizeLine/\p<=z.length/\ ∃dx,H a=some (.ins C dx (KY z (p:Int)))
def Moved (H H':Hp)(a:Ig):Prop:= ∀b o,b≠a->H b=some o->H' b=some o
theorem Moved.refl (H:Hp)(a:Ig):Moved H H a:=fun _ _ _ h=>h
theorem Moved.trans {H H1 H2:Hp}{a:Ig}(x:Moved H H1 a)(y:Moved H1 H2 a):Moved H H2 a:=fun b o hb h=>y b o hb (x b o hb h)
theorem Moved.same {H H1:Hp}{a:Ig}(x:Same H H1):Moved H H1 a:=fun b o _ h=>x b o h
theorem gU {H:Hp}{a:Ig}(o:HO):Moved H (upd H a o) a:=fun b u hb h=>by rw[af hb];exact h
theorem SgAt.same {C:Ig}{H H':Hp}{a:Ig}{z:Str}{p:Nat}(g:Same H H')(h:SgAt C H a z p):SgAt C H' a z p:=let ⟨h1,h2,dx,e⟩:=h;⟨h1,h2,dx,g _ _ e⟩
noncomputable def cN (z:Str)(p:Nat)(y:Str):Bool:=match z.cps.toList.drop p with
 |[]=>false
 |c::_=>decide (c∈y.cps.toList)
section
variable {P:Ib}{w:Ic}{K:PySem.W.Frag}{mg:Str->Option H0}{base:Ie}{f CS CN fD fS:Ig}{fd fdD fdS:Je}
def r6 (C:Ig):Sp:=fun vs H Q _=> ∃ (a dx:Ig) (z:Str),vs=[.ref a,.str z]/\H a=some (.ins C dx [])/\z.length<=sizeLine/\ ∀H',Moved H H' a->SgAt C H' a z 0->Q .non H'
theorem yn:JU ["self", "word"] ["self", "word"] (ae qI):=⟨rfl,rfl,rfl,by decide+kernel,rfl,by decide+kernel,by decide+kernel⟩
theorem wf (F:Fun K "__init__" "Signs.__init__" qI f fd)(T:Txt K mg CS CN):FnOk P w K mg base CX0 1 f fd ["self", "word"] (r6 CS):=by
 refine F.ok yn (fun vs H Q E h=>?_) (fun cdv A outer s H vs Q E hr h=>?_)
 ·obtain⟨a,dx,z,rfl,_⟩:=h
  rfl
 obtain⟨a,dx,z,rfl,hp,hz,k⟩:=h
 refine⟨_,ax (qO (pv 0) (pv 1) rfl) (aJ (qO (pv 0) M4 rfl)),?_⟩
 refine⟨_,rfl,_,rfl,a,CS,dx,[],rfl,hp,T.cl,T.nw,(by show 0<1000;decide),_,rfl,a,CS,dx,_,rfl,aq,T.cl,T.np,(by show 1<1000;decide),?_⟩
 exact k _ ((gU _).trans (gU _)) ⟨hz,EI _,dx,aq⟩
def mQ (C:Ig):Sp:=fun vs H Q _=> ∃ (a:Ig) (z:Str) (p:Nat),vs=[.ref a]/\SgAt C H a z p/\Q (.bl (decide (p=z.length))) H
theorem AE:JU ["self"] ["self"] (ae qJ):=⟨rfl,rfl,rfl,by decide+kernel,rfl,by decide+kernel,by decide+kernel⟩
theorem yR (F:Fun K "is_done" "Signs.is_done" qJ f fd)(T:Txt K mg CS CN):FnOk P w K mg base CX0 1 f fd ["self"] (mQ CS):=by
 refine F.ok AE (fun vs H Q E h=>?_) (fun cdv A outer s H vs Q E hr h=>?_)
 ·obtain⟨a,z,p,rfl,_⟩:=h
  rfl
 obtain⟨a,z,p,rfl,⟨hz,hp,dx,ha⟩,k⟩:=h
 refine⟨_,aJ (cC (gQ MG (eR (pv 0) rfl) (c9 Ki rfl T.len PySem.boot_len (ai (eR (pv 0) rfl) MX)) (d5 _))),?_⟩
 refine⟨_,rfl,a,CS,dx,_,_,rfl,ha,T.cl,T.np,cU _ _,_,rfl,a,CS,dx,_,_,rfl,ha,T.cl,T.nw,g6 _ _,z,rfl,hz,rfl,?_⟩
 have e:decide (V.int (p:Int)=V.int (z.length:Int))=decide (p=z.length):=by
  rw[decide_eq_decide]
  exact⟨fun h=>by have:=V.int.inj h;omega,fun h=>by rw[h]⟩
 show Q (.bl (decide (V.int (p:Int)=V.int (z.length:Int)))) H
 rw[e]
 exact k
def dC (C:Ig):Sp:=fun vs H Q _=> ∃ (a:Ig) (z:Str) (p:Nat) (y:Str),vs=[.ref a,.str y]/\SgAt C H a z p/\Q (.bl (cN z p y)) H
theorem vI:JU ["self", "wanted"] ["self", "wanted"] (ae ky):=⟨rfl,rfl,rfl,by decide+kernel,rfl,by decide+kernel,by decide+kernel⟩
theorem z9 {z:Str}{p:Nat}(h:p<z.length): ∃c,z.cps.toList[p]?=some c/\z.cps.toList.drop p=c::z.cps.toList.drop (p+1):=by
 have hl:p<z.cps.toList.length:=by rw[bh];exact h
 exact⟨z.cps.toList[p],EL hl,F8 hl⟩
theorem uj (F:Fun K "stands_one_of" "Signs.stands_one_of" ky f fd)(T:Txt K mg CS CN)(M:CM P w K mg base CX0 1 CS "is_done" fD fdD ["self"] (mQ CS)):FnOk P w K mg base CX0 2 f fd ["self", "wanted"] (dC CS):=by
 refine F.ok vI (fun vs H Q E h=>?_) (fun cdv A outer s H vs Q E hr h=>?_)
 ·obtain⟨a,z,p,y,rfl,_⟩:=h
  rfl
 obtain⟨a,z,p,y,rfl,S,k⟩:=h
 obtain⟨hz,hp,dx,ha⟩:=id S
 refine⟨_,aJ (cC (qU (AW (dZ (pv 0) T.cl M.me M.ok hr M.bi .nil M0)) (qT (gQ MI (oY nG (eR (pv 0) rfl) (eR (pv 0) rfl) (fun _ _=>rfl)) (pv 1) (by with_unfolding_all rfl))))),?_⟩
 refine⟨_,rfl,a,dx,_,rfl,ha,cS _ _ (by decide+kernel) (by decide+kernel),a,z,p,rfl,S,_,rfl,_,rfl,?_⟩
 by_cases hd:p=z.length
 ·rw[decide_eq_true hd]
  refine Lp ?_
  have e:cN z p y=false:=by
   unfold cN
   rw[GF (by rw[bh];omega)]
  rw[e] at k
  exact k
 ·rw[decide_eq_false hd]
  obtain⟨c,hc,hdr⟩:=z9 (z:=z) (p:=p) (by omega)
  refine Lq ⟨_,rfl,a,CS,dx,_,_,rfl,ha,T.cl,T.nw,g6 _ _,_,rfl,a,CS,dx,_,_,rfl,ha,T.cl,T.np,cU _ _,z,(p:Int),c,rfl,rfl,hz,jc hc,_,rfl,_,_,rfl,rfl,?_⟩
  have e:cN z p y=decide (c∈y.cps.toList):=by
   unfold cN
   rw[hdr]
  rw[e] at k
  rw[rB]
  exact k
def jm (C:Ig):Sp:=fun vs H Q _=> ∃ (a:Ig) (z:Str) (p:Nat) (c:Nat),vs=[.ref a]/\SgAt C H a z p/\z.cps.toList[p]?=some c/\ ∀H',Moved H H' a->SgAt C H' a z (p+1)->Q (.str ⟨#[c]⟩) H'
theorem NS:JU ["self", "sign"] ["self"] (ae qH):=⟨rfl,rfl,rfl,by decide+kernel,rfl,by decide+kernel,by decide+kernel⟩
theorem iW {z:Str}{p c:Nat}(h:z.cps.toList[p]?=some c):p<z.length:=by rw[<-bh];exact (Ev.mp h).1
theorem yL (F:Fun K "take_sign" "Signs.take_sign" qH f fd)(T:Txt K mg CS CN):FnOk P w K mg base CX0 1 f fd ["self"] (jm CS):=by
 refine F.ok NS (fun vs H Q E h=>?_) (fun cdv A outer s H vs Q E hr h=>?_)
 ·obtain⟨a,z,p,c,rfl,_⟩:=h
  rfl
 obtain⟨a,z,p,c,rfl,⟨hz,hp,dx,ha⟩,hc,k⟩:=h
 refine⟨_,ax (dj (i:=1) NS.nd rfl (Or.inl rfl) (oY nG (eR (pv 0) rfl) (eR (pv 0) rfl) (fun _ _=>rfl))) (ax (l7 (pv 0) M4 xa) (aJ (cC (pv 1)))),?_⟩
 refine⟨_,rfl,a,CS,dx,_,_,rfl,ha,T.cl,T.nw,g6 _ _,_,rfl,a,CS,dx,_,_,rfl,ha,T.cl,T.np,cU _ _,z,(p:Int),c,rfl,rfl,hz,jc hc,?_⟩
 refine⟨_,rfl,a,CS,dx,_,_,rfl,ha,T.cl,T.np,cU _ _,_,_,rfl,rfl,dx,_,ha,(by rw[j1];show 2<1000;decide),_,rfl,?_⟩
 refine k _ (gU _) ⟨hz,iW hc,dx,?_⟩
 rw[aq,pO]
 rfl
def Oj (C:Ig):Sp:=fun vs H Q _=> ∃ (a:Ig) (z:Str) (p:Nat) (y:Str),vs=[.ref a,.str y]/\SgAt C H a z p/\
 ∀H',Moved H H' a->SgAt C H' a z (p+((z.cps.toList.drop p).takeWhile fun c=>decide (c∈y.cps.toList)).length)->Q (.str ⟨((z.cps.toList.drop p).takeWhile fun c=>decide (c∈y.cps.toList)).toArray⟩) H'
theorem NR:JU ["self", "wanted", "begin"] ["self", "wanted"] (ae NI):=⟨rfl,rfl,rfl,by decide+kernel,rfl,by decide+kernel,by decide+kernel⟩
theorem Bl (F:Fun K "run_of" "Signs.run_of" NI f fd)(T:Txt K mg CS CN)(M:CM P w K mg base CX0 2 CS "stands_one_of" fS fdS ["self", "wanted"] (dC CS)):FnOk P w K mg base CX0 3 f fd ["self", "wanted"] (Oj CS):=by
 refine F.ok NR (fun vs H Q E h=>?_) (fun cdv A outer s H vs Q E hr h=>?_)
 ·obtain⟨a,z,p,y,rfl,_⟩:=h
  rfl
 obtain⟨a,z,p,y,rfl,S,k⟩:=h
 obtain⟨hz,hp,dx,ha⟩:=id S
 refine⟨_,ax (dj (i:=2) NR.nd rfl (Or.inl rfl) (eR (pv 0) rfl))
  (ax (kC IT.never (fu (fE (pv 0) T.cl M.me M.ok hr M.bi .nil M0 (ai (pv 1) MX))) (aJ (l7 (pv 0) M4 xa)))
  (aJ (cC (oX Oc (eR (pv 0) rfl) (ni (pv 2)) (ni (eR (pv 0) rfl)))))),?_⟩
 refine⟨_,rfl,a,CS,dx,_,_,rfl,ha,T.cl,T.np,cU _ _,?_⟩
 refine⟨fun m σ H'=> ∃j,σ=[some (.ref a),some (.str y),some (.int (p:Int))]/\Moved H H' a/\SgAt CS H' a z (p+j)/\m=z.length - (p+j)/\
  (z.cps.toList.drop p).takeWhile (fun c=>decide (c∈y.cps.toList))=(z.cps.toList.drop p).take j++(z.cps.toList.drop (p+j)).takeWhile (fun c=>decide (c∈y.cps.toList))/\j<=(z.cps.toList.drop p).length,⟨_,0,rfl,Moved.refl _ _,S,rfl,by simp,EI _⟩,?_⟩
 rintro m σ H' ⟨j,rfl,mv,S',rfl,tw,jl⟩
 obtain⟨hz',hp',dx',ha'⟩:=id S'
 refine⟨_,rfl,a,dx',_,rfl,ha',cS _ _ (by decide+kernel) (by decide+kernel),_,rfl,a,z,p+j,y,rfl,S',_,rfl,?_⟩
 refine Lo (fun c=>?_) (fun c=>?_)
 ·have lt:p+j<z.length:=by
   rcases Nat.lt_or_ge (p+j) z.length with h|h
   ·exact h
   ·unfold cN at c
    rw[GF (by rw[bh];exact h)] at c
    cases c
  obtain⟨c0,hc0,hdr⟩:=z9 lt
  have cw:decide (c0∈y.cps.toList)=true:=by
   unfold cN at c
   rw[hdr] at c
   exact c
  refine⟨_,fun σ' H'' h=>h,⟨_,rfl,a,CS,dx',_,_,rfl,ha',T.cl,T.np,cU _ _,_,_,rfl,rfl,dx',_,ha',(by rw[j1];show 2<1000;decide),?_⟩⟩
  refine⟨z.length - (p+(j+1)),by omega,j+1,rfl,mv.trans (gU _),⟨hz,by omega,dx',?_⟩,rfl,?_,?_⟩
  ·rw[aq,pO]
   show some (HO.ins CS dx' (KY z (((p+j:Nat):Int)+1)))=some (HO.ins CS dx' (KY z ((p+(j+1):Nat):Int)))
   have:((p+j:Nat):Int)+1=((p+(j+1):Nat):Int):=by omega
   rw[this]
  ·rw[tw,hdr,HH,if_pos cw]
   have:(z.cps.toList.drop p)[j]?=some c0:=by rw[G6];exact hc0
   rw[aP this,EQ]
   rfl
  ·rw[Fh,bh];omega
 ·have tn:(z.cps.toList.drop (p+j)).takeWhile (fun c=>decide (c∈y.cps.toList))=[]:=by
   unfold cN at c
   split at c
   ·rename_i h;rw[h];rfl
   ·rename_i c1 r1 h
    rw[h,HH,if_neg c]
  rw[tn,EX] at tw
  have tl:((z.cps.toList.drop p).takeWhile fun c=>decide (c∈y.cps.toList)).length=j:=by rw[tw,E5];omega
  refine⟨_,rfl,a,CS,dx',_,_,rfl,ha',T.cl,T.nw,g6 _ _,_,rfl,_,rfl,_,rfl,a,CS,dx',_,_,rfl,ha',T.cl,T.np,cU _ _,_,rfl,z,rfl,hz,?_⟩
  have q:=k H' mv (by rw[tl];exact S')
  rw[StrLaws.sliceText_nat z (a:=p) (b:=p+j) (by omega) hp',HI,<-tw]
  exact q
end
end Q
namespace Q
open PySem L2 Wd
def IsE (H:Hp):Exp->V->Prop
 |.num n,v=> ∃p,v=.ref p/\H p=some (.tup [.str "number",.int n])
 |.box x,v=> ∃p,v=.ref p/\H p=some (.tup [.str "box",.str x])
 |.bin s l r,v=> ∃p a b,v=.ref p/\H p=some (.tup [.str s,a,b])/\IsE H l a/\IsE H r b
theorem IsE.mono {H H':Hp}(g:Same H H'): ∀ {e:Exp}{v:V},IsE H e v->IsE H' e v
 |.num _,_,⟨p,e,h⟩=>⟨p,e,g _ _ h⟩
 |.box _,_,⟨p,e,h⟩=>⟨p,e,g _ _ h⟩
 |.bin _ _ _,_,⟨p,a,b,e,h,h1,h2⟩=>⟨p,a,b,e,g _ _ h,h1.mono g,h2.mono g⟩
theorem qp {H:Hp}{a p C dx:Ig}{fs:List (Str×V)}{xs:List V}(ha:H a=some (.ins C dx fs))(h:H p=some (.tup xs)):p≠a:=fun z=>by rw[z,ha] at h;cases h
theorem IsE.moved {H H':Hp}{a C dx:Ig}{fs:List (Str×V)}(ha:H a=some (.ins C dx fs))(g:Moved H H' a): ∀ {e:Exp}{v:V},IsE H e v->IsE H' e v
 |.num _,_,⟨p,e,h⟩=>⟨p,e,g _ _ (qp ha h) h⟩
 |.box _,_,⟨p,e,h⟩=>⟨p,e,g _ _ (qp ha h) h⟩
 |.bin _ _ _,_,⟨p,x,y,e,h,h1,h2⟩=>⟨p,x,y,e,g _ _ (qp ha h) h,h1.moved ha g,h2.moved ha g⟩
def gc (C CN:Ig)(H:Hp)(a:Ig)(z:Str)(Q:VK)(E:XK):Option (Exp×List Nat)->Prop
 |some (e,r)=> ∀v H',Moved H H' a->SgAt C H' a z (z.length - r.length)->IsE H' e v->Q v H'
 |none=> ∀H',Moved H H' a->E (.ref CN) none H'
def dI (C CN:Ig)(fP:Nat->List Nat->Option (Exp×List Nat))(m:Nat):Sp:=fun vs H Q E=> ∃ (a:Ig) (z:Str) (p:Nat),vs=[.ref a,.int (5 - (m:Int))]/\SgAt C H a z p/\gc C CN H a z Q E (fP m (z.cps.toList.drop p))
def brP:Nat->List Nat->Option (Exp×List Nat)
 |0,_=>none
 |m+1,r=>cK (eQ m) r
theorem uP (m:Nat)(l:List Nat):bO m l=if l.head?=some 40 then brP m l.tail else LN l:=by
 cases m<;>rfl
def Of (C CN:Ig)(m:Nat):Sp:=fun vs H Q E=> ∃ (a:Ig) (z:Str) (p:Nat) (r:List Nat),vs=[.ref a,.int (6 - (m:Int))]/\m<=5/\SgAt C H a z p/\z.cps.toList.drop p=40::r/\gc C CN H a z Q E (brP m r)
theorem lu {f:List Nat->Option (Exp×List Nat)}{ops:List Nat}{e:Exp}: ∀ {n:Nat}{l:List Nat},(∀c r,l=c::r-> ¬c∈ops)->Kn f ops n e l=some (e,l)
 |0,_,_=>rfl
 |_+1,[],_=>rfl
 |_+1,c::r,h=>by
  unfold Kn
  rw[if_neg (h c r rfl)]
theorem Ab:("+-":Str).cps.toList=MU:=by decide+kernel
theorem Ac:("*":Str).cps.toList=MQ:=by decide+kernel
theorem Dc:("(":Str).cps.toList=[40]:=by decide+kernel
theorem Db:(")":Str).cps.toList=[41]:=by decide+kernel
theorem pQ {z:Str}{p:Nat}(hp:p<=z.length):z.length - (z.cps.toList.drop p).length=p:=by rw[Fh,bh];omega
theorem f8 {z:Str}{p c:Nat}{r:List Nat}(h:z.cps.toList.drop p=c::r):z.cps.toList[p]?=some c/\z.cps.toList.drop (p+1)=r:=by
 refine⟨?_,?_⟩
 ·have:(z.cps.toList.drop p)[0]?=some c:=by rw[h];rfl
  rw[G6] at this
  exact this
 ·have:=congrArg (List.drop 1) h
  rw[List.drop_drop] at this
  exact this
theorem xJ {f:List Nat->Option (Exp×List Nat)}{r:List Nat}(h:f r=none):cK f r=none:=by unfold cK;rw[h]
theorem zT {f:List Nat->Option (Exp×List Nat)}{r r2:List Nat}{e:Exp}(h:f r=some (e,41::r2)):cK f r=some (e,r2):=by unfold cK;rw[h];rfl
theorem xI {f:List Nat->Option (Exp×List Nat)}{r r1:List Nat}{e:Exp}(h:f r=some (e,r1))(h2: ¬r1.head?=some 41):cK f r=none:=by
 unfold cK
 rw[h]
 split
 ·rename_i heq
  cases heq
  exact absurd rfl h2
 ·rfl
theorem i9 {C:Ig}{H:Hp}{a:Ig}{z:Str}{p:Nat}{r:List Nat}(h:r<:+z.cps.toList.drop p):z.cps.toList.drop (z.length - r.length)=r:=by
 have:=(vq (w:=z.cps.toList) rfl h).1
 rw[bh] at this
 exact this.symm
section
variable {P:Ib}{w:Ic}{K:PySem.W.Frag}{mg:Str->Option H0}{base:Ie}{f CS CN fG fS fK:Ig}{fd fdG fdS fdK:Je}
theorem NT:JU ["signs", "depth", "e", "sign"] ["signs", "depth"] (ae mU):=⟨rfl,rfl,rfl,by decide+kernel,rfl,by decide+kernel,by decide+kernel⟩
theorem o4 {m k:Nat}(hk:2<=k)(F:Fun K "read_terms" "read_terms" mU f fd)(T:Txt K mg CS CN)(G:CF P w K mg base (CXx P w) k "read_factors" fG fdG ["signs", "depth"] (dI CS CN bR m))
  (MS:CM P w K mg base CX0 2 CS "stands_one_of" fS fdS ["self", "wanted"] (dC CS))(MT:CM P w K mg base CX0 1 CS "take_sign" fK fdK ["self"] (jm CS)):FnOk P w K mg base (CXx P w) (k+1) f fd ["signs", "depth"] (dI CS CN eQ m):=by
 refine F.okX NT (fun vs H Q E h=>?_) (fun cdv A outer s H vs Q E hr h=>?_)
 ·obtain⟨a,z,p,rfl,_⟩:=h
  rfl
 obtain⟨a,z,p,rfl,S,k0⟩:=h
 refine⟨_,ax (dj (i:=2) NT.nd rfl (Or.inl rfl) (dm G.ok hr rfl G.mg G.kp G.bi .nil d4 (ai (pv 0) (ai (pv 1) MX))))
  (ax (kC IT.leaving (fu (fE (pv 0) T.cl MS.me MS.ok (hr.mono hk) MS.bi .nil M0 (ai M8 MX)))
   (ax (dj (i:=3) NT.nd rfl (Or.inl rfl) (dZ (pv 0) T.cl MT.me MT.ok (hr.mono (by omega)) MT.bi .nil M0))
   (aJ (dj (i:=2) NT.nd rfl (Or.inl rfl) (jq (ai (pv 3) (ai (pv 2) (ai (dm G.ok hr rfl G.mg G.kp G.bi .nil d4 (ai (pv 0) (ai (pv 1) MX))) MX))))))))
  (aJ (cC (pv 2)))),?_⟩
 have sufG:Suf (bR m):=jE m
 refine⟨_,rfl,_,rfl,a,z,p,rfl,S,?_⟩
 have k1:gc CS CN H a z Q E (MZ (bR m) MU (z.cps.toList.drop p)):=k0
 unfold MZ at k1
 cases hG:bR m (z.cps.toList.drop p) with
 |none=>
  rw[hG] at k1
  exact fun H' mv=>k1 H' mv
 |some er=>
  obtain⟨e1,r1⟩:=er
  rw[hG] at k1
  have k1:gc CS CN H a z Q E (Kn (bR m) MU r1.length e1 r1):=k1
  intro v1 H1 mv1 S1 i1
  have b1:z.cps.toList.drop (z.length - r1.length)=r1:=i9 (C:=CS) (H:=H) (a:=a) (sufG _ _ _ hG)
  generalize hR:Kn (bR m) MU r1.length e1 r1=R at k1
  refine⟨fun mm σ H'=> ∃ (v:V) (e:Exp) (p' n:Nat) (sg:Option V),σ=[some (.ref a),some (.int (5 - (m:Int))),some v,sg]/\Moved H H' a/\SgAt CS H' a z p'/\IsE H' e v/\(z.cps.toList.drop p').length<=n/\
   Kn (bR m) MU n e (z.cps.toList.drop p')=R/\mm=z.length - p',⟨_,v1,e1,z.length - r1.length,r1.length,none,rfl,mv1,S1,i1,by rw[b1];exact Em _,by rw[b1];exact hR,rfl⟩,?_⟩
  rintro mm σ H' ⟨v,e,p',n,sg,rfl,mv,S',ie,ln,ch,rfl⟩
  obtain⟨hz,hp',dx,ha⟩:=id S'
  refine⟨_,rfl,a,dx,_,rfl,ha,cS _ _ (by decide+kernel) (by decide+kernel),a,z,p', "+-",rfl,S',_,rfl,?_⟩
  refine Lo (fun c=>?_) (fun c=>?_)
  ·unfold cN at c
   cases hd:z.cps.toList.drop p' with
   |nil=>rw[hd] at c;cases c
   |cons c0 r0=>
    rw[hd] at c ch ln
    have c0m:c0∈MU:=by rw[<-Ab];exact of_decide_eq_true c
    obtain⟨n,rfl⟩: ∃n',n=n'+1:=⟨n - 1,by rw[Es] at ln;omega⟩
    obtain⟨at0,dr0⟩:=f8 hd
    unfold Kn at ch
    rw[if_pos c0m] at ch
    refine⟨_,fun σ' H'' h=>h,⟨_,rfl,a,dx,_,rfl,ha,cS _ _ (by decide+kernel) (by decide+kernel),a,z,p',c0,rfl,S',at0,fun H2 mv2 S2=>?_⟩⟩
    obtain⟨_,hp2,dx2,ha2⟩:=id S2
    refine⟨_,rfl,_,rfl,_,rfl,_,rfl,a,z,p'+1,rfl,S2,?_⟩
    rw[dr0]
    cases hG2:bR m r0 with
    |none=>
     rw[hG2] at ch
     subst ch
     exact fun H3 mv3=>k1 H3 (mv.trans (mv2.trans mv3))
    |some er2=>
     obtain⟨e2,r2⟩:=er2
     rw[hG2] at ch
     intro v2 H3 mv3 S3 i3
     refine⟨small (by show 3<=1000;decide),fun t ht=>?_⟩
     have g4:=cZ ht (.tup [.str ⟨#[c0]⟩,v,v2])
     have suf2:r2<:+z.cps.toList.drop (p'+1):=by rw[dr0];exact sufG _ _ _ hG2
     have b2:=i9 (C:=CS) (H:=H) (a:=a) suf2
     have l2:r2.length<=r0.length:=(sufG _ _ _ hG2).length_le
     have l0:=iW at0
     have l3:r0.length=z.length - (p'+1):=by rw[<-dr0,Fh,bh]
     refine⟨z.length - (z.length - r2.length),by omega,.ref t,.bin ⟨#[c0]⟩ e e2,z.length - r2.length,n,_,rfl,mv.trans (mv2.trans (mv3.trans (Moved.same g4))),S3.same g4,?_,?_,?_,rfl⟩
     ·exact⟨t,v,v2,rfl,aq,((ie.moved ha mv2).moved ha2 mv3).mono g4,i3.mono g4⟩
     ·rw[b2];rw[Es] at ln;omega
     ·rw[b2];exact ch
  ·have st:Kn (bR m) MU n e (z.cps.toList.drop p')=some (e,z.cps.toList.drop p'):=lu fun c0 r0 hd hm=>by
    unfold cN at c
    rw[hd] at c
    exact c (decide_eq_true (by rw[Ab];exact hm))
   rw[st] at ch
   subst ch
   exact⟨_,rfl,k1 v H' mv (by rw[pQ hp'];exact S') ie⟩
theorem NQ:JU ["signs", "depth", "e", "sign"] ["signs", "depth"] (ae iN):=⟨rfl,rfl,rfl,by decide+kernel,rfl,by decide+kernel,by decide+kernel⟩
theorem kK {m k:Nat}(hk:2<=k)(F:Fun K "read_factors" "read_factors" iN f fd)(T:Txt K mg CS CN)(G:CF P w K mg base (CXx P w) k "read_factor" fG fdG ["signs", "depth"] (dI CS CN bO m))
  (MS:CM P w K mg base CX0 2 CS "stands_one_of" fS fdS ["self", "wanted"] (dC CS))(MT:CM P w K mg base CX0 1 CS "take_sign" fK fdK ["self"] (jm CS)):FnOk P w K mg base (CXx P w) (k+1) f fd ["signs", "depth"] (dI CS CN bR m):=by
 refine F.okX NQ (fun vs H Q E h=>?_) (fun cdv A outer s H vs Q E hr h=>?_)
 ·obtain⟨a,z,p,rfl,_⟩:=h
  rfl
 obtain⟨a,z,p,rfl,S,k0⟩:=h
 refine⟨_,ax (dj (i:=2) NQ.nd rfl (Or.inl rfl) (dm G.ok hr rfl G.mg G.kp G.bi .nil d4 (ai (pv 0) (ai (pv 1) MX))))
  (ax (kC IT.leaving (fu (fE (pv 0) T.cl MS.me MS.ok (hr.mono hk) MS.bi .nil M0 (ai M8 MX)))
   (ax (dj (i:=3) NQ.nd rfl (Or.inl rfl) (dZ (pv 0) T.cl MT.me MT.ok (hr.mono (by omega)) MT.bi .nil M0))
   (aJ (dj (i:=2) NQ.nd rfl (Or.inl rfl) (jq (ai (pv 3) (ai (pv 2) (ai (dm G.ok hr rfl G.mg G.kp G.bi .nil d4 (ai (pv 0) (ai (pv 1) MX))) MX))))))))
  (aJ (cC (pv 2)))),?_⟩
 have sufG:Suf (bO m):=ii m
 refine⟨_,rfl,_,rfl,a,z,p,rfl,S,?_⟩
 have k1:gc CS CN H a z Q E (MZ (bO m) MQ (z.cps.toList.drop p)):=k0
 unfold MZ at k1
 cases hG:bO m (z.cps.toList.drop p) with
 |none=>
  rw[hG] at k1
  exact fun H' mv=>k1 H' mv
 |some er=>
  obtain⟨e1,r1⟩:=er
  rw[hG] at k1
  have k1:gc CS CN H a z Q E (Kn (bO m) MQ r1.length e1 r1):=k1
  intro v1 H1 mv1 S1 i1
  have b1:z.cps.toList.drop (z.length - r1.length)=r1:=i9 (C:=CS) (H:=H) (a:=a) (sufG _ _ _ hG)
  generalize hR:Kn (bO m) MQ r1.length e1 r1=R at k1
  refine⟨fun mm σ H'=> ∃ (v:V) (e:Exp) (p' n:Nat) (sg:Option V),σ=[some (.ref a),some (.int (5 - (m:Int))),some v,sg]/\Moved H H' a/\SgAt CS H' a z p'/\IsE H' e v/\(z.cps.toList.drop p').length<=n/\
   Kn (bO m) MQ n e (z.cps.toList.drop p')=R/\mm=z.length - p',⟨_,v1,e1,z.length - r1.length,r1.length,none,rfl,mv1,S1,i1,by rw[b1];exact Em _,by rw[b1];exact hR,rfl⟩,?_⟩
  rintro mm σ H' ⟨v,e,p',n,sg,rfl,mv,S',ie,ln,ch,rfl⟩
  obtain⟨hz,hp',dx,ha⟩:=id S'
  refine⟨_,rfl,a,dx,_,rfl,ha,cS _ _ (by decide+kernel) (by decide+kernel),a,z,p', "*",rfl,S',_,rfl,?_⟩
  refine Lo (fun c=>?_) (fun c=>?_)
  ·unfold cN at c
   cases hd:z.cps.toList.drop p' with
   |nil=>rw[hd] at c;cases c
   |cons c0 r0=>
    rw[hd] at c ch ln
    have c0m:c0∈MQ:=by rw[<-Ac];exact of_decide_eq_true c
    obtain⟨n,rfl⟩: ∃n',n=n'+1:=⟨n - 1,by rw[Es] at ln;omega⟩
    obtain⟨at0,dr0⟩:=f8 hd
    unfold Kn at ch
    rw[if_pos c0m] at ch
    refine⟨_,fun σ' H'' h=>h,⟨_,rfl,a,dx,_,rfl,ha,cS _ _ (by decide+kernel) (by decide+kernel),a,z,p',c0,rfl,S',at0,fun H2 mv2 S2=>?_⟩⟩
    obtain⟨_,hp2,dx2,ha2⟩:=id S2
    refine⟨_,rfl,_,rfl,_,rfl,_,rfl,a,z,p'+1,rfl,S2,?_⟩
    rw[dr0]
    cases hG2:bO m r0 with
    |none=>
     rw[hG2] at ch
     subst ch
     exact fun H3 mv3=>k1 H3 (mv.trans (mv2.trans mv3))
    |some er2=>
     obtain⟨e2,r2⟩:=er2
     rw[hG2] at ch
     intro v2 H3 mv3 S3 i3
     refine⟨small (by show 3<=1000;decide),fun t ht=>?_⟩
     have g4:=cZ ht (.tup [.str ⟨#[c0]⟩,v,v2])
     have suf2:r2<:+z.cps.toList.drop (p'+1):=by rw[dr0];exact sufG _ _ _ hG2
     have b2:=i9 (C:=CS) (H:=H) (a:=a) suf2
     have l2:r2.length<=r0.length:=(sufG _ _ _ hG2).length_le
     have l0:=iW at0
     have l3:r0.length=z.length - (p'+1):=by rw[<-dr0,Fh,bh]
     refine⟨z.length - (z.length - r2.length),by omega,.ref t,.bin ⟨#[c0]⟩ e e2,z.length - r2.length,n,_,rfl,mv.trans (mv2.trans (mv3.trans (Moved.same g4))),S3.same g4,?_,?_,?_,rfl⟩
     ·exact⟨t,v,v2,rfl,aq,((ie.moved ha mv2).moved ha2 mv3).mono g4,i3.mono g4⟩
     ·rw[b2];rw[Es] at ln;omega
     ·rw[b2];exact ch
  ·have st:Kn (bO m) MQ n e (z.cps.toList.drop p')=some (e,z.cps.toList.drop p'):=lu fun c0 r0 hd hm=>by
    unfold cN at c
    rw[hd] at c
    exact c (decide_eq_true (by rw[Ac];exact hm))
   rw[st] at ch
   subst ch
   exact⟨_,rfl,k1 v H' mv (by rw[pQ hp'];exact S') ie⟩
theorem NN:JU ["signs", "depth", "e"] ["signs", "depth"] (ae gx):=⟨rfl,rfl,rfl,by decide+kernel,rfl,by decide+kernel,by decide+kernel⟩
theorem Bn (F:Fun K "read_bracket" "read_bracket" gx f fd)(T:Txt K mg CS CN):FnOk P w K mg base (CXx P w) 1 f fd ["signs", "depth"] (Of CS CN 0):=by
 refine F.okX NN (fun vs H Q E h=>?_) (fun cdv A outer s H vs Q E hr h=>?_)
 ·obtain⟨a,z,p,r,rfl,_⟩:=h
  rfl
 obtain⟨a,z,p,r,rfl,h5,S,hd,k0⟩:=h
 obtain⟨t5,g5⟩:=T.n5
 refine⟨_,ax (gg (dl ma (pv 1) (c8 (v:=.int 5) rfl g5 ⟨_,rfl⟩) (d5 _)) (aJ (eV eU rfl rfl T.mgN T.exN (ai M8 MX))) Nc) ub,?_⟩
 refine⟨_,rfl,_,_,rfl,rfl,_,rfl,?_⟩
 refine Lq ⟨small (by show 1<=1000;decide),k0 H (Moved.refl _ _)⟩
theorem Dj {m k:Nat}(hk:2<=k)(F:Fun K "read_bracket" "read_bracket" gx f fd)(T:Txt K mg CS CN)(G:CF P w K mg base (CXx P w) k "read_terms" fG fdG ["signs", "depth"] (dI CS CN eQ m))
  (MS:CM P w K mg base CX0 2 CS "stands_one_of" fS fdS ["self", "wanted"] (dC CS))(MT:CM P w K mg base CX0 1 CS "take_sign" fK fdK ["self"] (jm CS)):FnOk P w K mg base (CXx P w) (k+1) f fd ["signs", "depth"] (Of CS CN (m+1)):=by
 refine F.okX NN (fun vs H Q E h=>?_) (fun cdv A outer s H vs Q E hr h=>?_)
 ·obtain⟨a,z,p,r,rfl,_⟩:=h
  rfl
 obtain⟨a,z,p,r,rfl,h5,S,hd,k0⟩:=h
 obtain⟨t5,g5⟩:=T.n5
 refine⟨_,ax (gg (dl ma (pv 1) (c8 (v:=.int 5) rfl g5 ⟨_,rfl⟩) (d5 _)) (aJ (eV eU rfl rfl T.mgN T.exN (ai M8 MX))) Nc)
  (ax (mZ (dZ (pv 0) T.cl MT.me MT.ok (hr.mono (by omega)) MT.bi .nil M0))
  (ax (dj (i:=2) NN.nd rfl (Or.inl rfl) (dm G.ok hr rfl G.mg G.kp G.bi .nil d4 (ai (pv 0) (ai (pv 1) MX))))
  (ax (gg (qM (fu (fE (pv 0) T.cl MS.me MS.ok (hr.mono hk) MS.bi .nil M0 (ai M8 MX)))) (aJ (eV eU rfl rfl T.mgN T.exN (ai M8 MX))) Nc)
  (ax (mZ (dZ (pv 0) T.cl MT.me MT.ok (hr.mono (by omega)) MT.bi .nil M0))
  (aJ (cC (pv 2))))))),?_⟩
 obtain⟨hz,hp,dx,ha⟩:=id S
 obtain⟨at0,dr0⟩:=f8 hd
 refine⟨_,rfl,_,_,rfl,rfl,_,rfl,?_⟩
 refine Lo (fun c=>?_) (fun c=>?_)
 ·have c1:(6 - ((m+1:Nat):Int))>5:=of_decide_eq_true c
  omega
 ·refine⟨_,rfl,a,dx,_,rfl,ha,cS _ _ (by decide+kernel) (by decide+kernel),a,z,p,40,rfl,S,at0,fun H1 mv1 S1=>?_⟩
  have e6:(6 - ((m+1:Nat):Int))=5 - (m:Int):=by omega
  refine⟨_,rfl,_,rfl,a,z,p+1,by show [V.ref a,V.int (6 - ((m+1:Nat):Int))]=_;rw[e6],S1,?_⟩
  rw[dr0]
  have k1:gc CS CN H a z Q E (cK (eQ m) r):=k0
  cases hG:eQ m r with
  |none=>
   rw[xJ hG] at k1
   exact fun H' mv=>k1 H' (mv1.trans mv)
  |some er=>
   obtain⟨e1,r1⟩:=er
   intro v2 H2 mv2 S2 i2
   obtain⟨_,hp2,dx2,ha2⟩:=id S2
   have suf1:r1<:+z.cps.toList.drop (p+1):=by rw[dr0];exact lQ m _ _ _ hG
   have b1:=i9 (C:=CS) (H:=H) (a:=a) suf1
   refine⟨_,rfl,a,dx2,_,rfl,ha2,cS _ _ (by decide+kernel) (by decide+kernel),a,z,_, ")",rfl,S2,_,rfl,?_⟩
   have st:cN z (z.length - r1.length) ")"=decide (r1.head?=some 41):=by
    unfold cN
    rw[b1]
    cases r1 with
    |nil=>rfl
    |cons c0 r0=>
     show decide (c0∈(")":Str).cps.toList)=decide (some c0=some 41)
     rw[Db,decide_eq_decide]
     simp
   rw[st]
   by_cases h41:r1.head?=some 41
   ·rw[decide_eq_true h41]
    obtain⟨r2,rfl⟩: ∃r2,r1=41::r2:=by
     cases r1 with
     |nil=>cases h41
     |cons c0 r0=>have:c0=41:=by simpa using h41
                  subst this;exact⟨r0,rfl⟩
    obtain⟨at1,dr1⟩:=f8 b1
    refine Lp ⟨_,rfl,a,dx2,_,rfl,ha2,cS _ _ (by decide+kernel) (by decide+kernel),a,z,_,41,rfl,S2,at1,fun H3 mv3 S3=>⟨_,rfl,?_⟩⟩
    rw[zT hG] at k1
    have k2: ∀v H',Moved H H' a->SgAt CS H' a z (z.length - r2.length)->IsE H' e1 v->Q v H':=k1
    refine k2 v2 H3 (mv1.trans (mv2.trans mv3)) ?_ (i2.moved ha2 mv3)
    have l1:=iW at1
    have:z.length - (41::r2).length+1=z.length - r2.length:=by
     have:=suf1.length_le
     rw[Fh,bh,Es] at this
     rw[Es];omega
    rw[this] at S3
    exact S3
   ·rw[decide_eq_false h41]
    refine Lq ⟨small (by show 1<=1000;decide),?_⟩
    rw[xI hG h41] at k1
    have k2: ∀H',Moved H H' a->E (.ref CN) none H':=k1
    exact k2 H2 (mv1.trans mv2)
theorem NP:JU ["signs", "depth", "factor"] ["signs", "depth"] (ae jS):=⟨rfl,rfl,rfl,by decide+kernel,rfl,by decide+kernel,by decide+kernel⟩
theorem CB:LET.length+FIG.length<=sizeLine:=by decide+kernel
theorem o7 {z:Str}(h:Mw z=true):PySem.intText? z=some (dk z)/\z.length<=640:=by
 unfold Mw at h
 simp only[ES,decide_eq_true_eq] at h
 obtain⟨⟨h1,h2⟩,_,h4⟩:=h
 refine⟨?_,by omega⟩
 refine PySem.intText_digits (fun c hc=>?_) (fun e=>?_) (by omega)
 ·exact Lg.mp (Fk.mp h4 c hc)
 ·have:=bh z;rw[e] at this;simp at this;omega
theorem md {m k:Nat}{fN fM fR:Ig}{fdN fdM fdR:Je}(hk:3<=k)(hm5:m<=5)(F:Fun K "read_factor" "read_factor" jS f fd)(T:Txt K mg CS CN)(G:CF P w K mg base (CXx P w) k "read_bracket" fG fdG ["signs", "depth"] (Of CS CN m))
  (MS:CM P w K mg base CX0 2 CS "stands_one_of" fS fdS ["self", "wanted"] (dC CS))(MR:CM P w K mg base CX0 3 CS "run_of" fR fdR ["self", "wanted"] (Oj CS))
  (FN:CF P w K mg base CX0 1 "is_name" fN fdN ["word"] km)(FM:CF P w K mg base CX0 1 "is_number" fM fdM ["word"] Oi):FnOk P w K mg base (CXx P w) (k+1) f fd ["signs", "depth"] (dI CS CN bO m):=by
 refine F.okX NP (fun vs H Q E h=>?_) (fun cdv A outer s H vs Q E hr h=>?_)
 ·obtain⟨a,z,p,rfl,_⟩:=h
  rfl
 obtain⟨a,z,p,rfl,S,k0⟩:=h
 obtain⟨tL,hL⟩:=T.let_
 obtain⟨tF,hF⟩:=T.fig
 refine⟨_,ax (gg (fu (fE (pv 0) T.cl MS.me MS.ok (hr.mono (by omega)) MS.bi .nil M0 (ai M8 MX))) (aJ (cC (dm G.ok hr rfl G.mg G.kp G.bi .nil d4 (ai (pv 0) (ai (sr MC (pv 1) M4) MX))))) Nc)
  (ax (dj (i:=2) NP.nd rfl (Or.inl rfl) (fE (pv 0) T.cl MR.me MR.ok (hr.mono hk) MR.bi .nil M0 (ai (sr ME (c8 (v:=.str LET) rfl hL ⟨_,rfl⟩) (c8 (v:=.str FIG) rfl hF ⟨_,rfl⟩)) MX)))
  (ax (gg (fu (dm FN.ok (hr.mono (by omega)) rfl FN.mg FN.kp FN.bi .nil M0 (ai (pv 2) MX))) (aJ (cC (jq (ai M8 (ai (pv 2) MX))))) Nc)
  (ax (gg (fu (dm FM.ok (hr.mono (by omega)) rfl FM.mg FM.kp FM.bi .nil M0 (ai (pv 2) MX))) (aJ (cC (jq (ai M8 (ai (jr i8 rfl T.int PyProof.Rows.boot_int (ai (pv 2) MX)) MX))))) Nc)
  (aJ (eV eU rfl rfl T.mgN T.exN (ai M8 MX)))))),?_⟩
 obtain⟨hz,hp,dx,ha⟩:=id S
 refine⟨_,rfl,a,dx,_,rfl,ha,cS _ _ (by decide+kernel) (by decide+kernel),a,z,p, "(",rfl,S,_,rfl,?_⟩
 rw[uP] at k0
 have st:cN z p "("=decide ((z.cps.toList.drop p).head?=some 40):=by
  unfold cN
  cases hd:z.cps.toList.drop p with
  |nil=>rfl
  |cons c0 r0=>
   show decide (c0∈("(":Str).cps.toList)=decide (some c0=some 40)
   rw[Dc,decide_eq_decide]
   simp
 rw[st]
 by_cases h40:(z.cps.toList.drop p).head?=some 40
 ·rw[decide_eq_true h40]
  rw[if_pos h40] at k0
  obtain⟨r,hd⟩: ∃r,z.cps.toList.drop p=40::r:=by
   cases hd:z.cps.toList.drop p with
   |nil=>rw[hd] at h40;cases h40
   |cons c0 r0=>rw[hd] at h40
                have:c0=40:=by simpa using h40
                subst this;exact⟨r0,rfl⟩
  rw[hd] at k0
  refine Lq ⟨_,rfl,_,rfl,_,_,rfl,rfl,a,z,p,r,?_,hm5,S,hd,k0⟩
  show [V.ref a,V.int (5 - (m:Int)+1)]=_
  have:(5 - (m:Int)+1)=6 - (m:Int):=by omega
  rw[this]
 ·rw[decide_eq_false h40]
  rw[if_neg h40] at k0
  refine Lp ⟨_,rfl,a,dx,_,rfl,ha,cS _ _ (by decide+kernel) (by decide+kernel),_,_,rfl,rfl,CB,a,z,p,LET++FIG,rfl,S,fun H1 mv1 S1=>?_⟩
  have ean:(fun c=>decide (c∈(LET++FIG).cps.toList))=Lc:=rfl
  rw[ean] at S1 ⊢
  have fl:(⟨((z.cps.toList.drop p).takeWhile Lc).toArray⟩:Str).length<=sizeLine:=by
   show (((z.cps.toList.drop p).takeWhile Lc).toArray).size<=sizeLine
   rw[Ez]
   have:=(List.takeWhile_sublist (l:=z.cps.toList.drop p) Lc).length_le
   rw[Fh,bh] at this
   omega
  have dw:z.length - ((z.cps.toList.drop p).dropWhile Lc).length=p+((z.cps.toList.drop p).takeWhile Lc).length:=by
   have e:=congrArg List.length (List.takeWhile_append_dropWhile (p:=Lc) (l:=z.cps.toList.drop p))
   rw[Ep,Fh,bh] at e
   omega
  unfold LN at k0
  refine⟨_,rfl,_,rfl,fl,fun H2 g2=>⟨_,rfl,?_⟩⟩
  refine Lo (fun c=>?_) (fun c=>?_)
  ·rw[if_pos c] at k0
   have k1: ∀v H',Moved H H' a->SgAt CS H' a z (z.length - ((z.cps.toList.drop p).dropWhile Lc).length)->IsE H' (.box ⟨((z.cps.toList.drop p).takeWhile Lc).toArray⟩) v->Q v H':=k0
   refine⟨_,rfl,small (by show 2<=1000;decide),fun t ht=>?_⟩
   refine k1 _ _ (mv1.trans ((Moved.same g2).trans (Moved.same (cZ ht _)))) ?_ ⟨t,rfl,aq⟩
   rw[dw]
   exact (S1.same g2).same (cZ ht _)
  ·rw[if_neg c] at k0
   refine⟨_,rfl,_,rfl,fl,fun H3 g3=>⟨_,rfl,?_⟩⟩
   refine Lo (fun c2=>?_) (fun c2=>?_)
   ·rw[if_pos c2] at k0
    have k1: ∀v H',Moved H H' a->SgAt CS H' a z (z.length - ((z.cps.toList.drop p).dropWhile Lc).length)->IsE H' (.num (dk ⟨((z.cps.toList.drop p).takeWhile Lc).toArray⟩)) v->Q v H':=k0
    obtain⟨n1,n2⟩:=o7 c2
    refine⟨_,rfl,_,_,rfl,n1,n2,small (by show 2<=1000;decide),fun t ht=>?_⟩
    refine k1 _ _ (mv1.trans ((Moved.same g2).trans ((Moved.same g3).trans (Moved.same (cZ ht _))))) ?_ ⟨t,rfl,aq⟩
    rw[dw]
    exact ((S1.same g2).same g3).same (cZ ht _)
   ·rw[if_neg c2] at k0
    exact⟨small (by show 1<=1000;decide),k0 H3 (mv1.trans ((Moved.same g2).trans (Moved.same g3)))⟩
end
end Q
namespace Q
open PySem L2 Wd
def Told (CN:Ig)(H:Hp)(Q:VK)(E:XK):Option Exp->Prop
 |some e=> ∀v H',Same H H'->IsE H' e v->Q v H'
 |none=> ∀H',Same H H'->E (.ref CN) none H'
def qA (CN:Ig):Sp:=fun vs H Q E=> ∃z:Str,vs=[.str z]/\z.length<=sizeLine/\Told CN H Q E (KL z)
section
variable {P:Ib}{w:Ic}{K:PySem.W.Frag}{mg:Str->Option H0}{base:Ie}{f CS CN fT fI fD:Ig}{fd fdT fdI fdD:Je}
theorem NO:JU ["word", "signs", "e"] ["word"] (ae ND):=⟨rfl,rfl,rfl,by decide+kernel,rfl,by decide+kernel,by decide+kernel⟩
theorem yQ {k:Nat}(hk:2<=k)(F:Fun K "expression" "expression" ND f fd)(T:Txt K mg CS CN)(G:CF P w K mg base (CXx P w) k "read_terms" fT fdT ["signs", "depth"] (dI CS CN eQ 5))
  (M:Mk K CS fI)(GI:FnOk P w K mg base CX0 1 fI fdI ["self", "word"] (r6 CS))(bI:Binds K fdI ["self", "word"] [])(MD:CM P w K mg base CX0 1 CS "is_done" fD fdD ["self"] (mQ CS)):FnOk P w K mg base (CXx P w) (k+1) f fd ["word"] (qA CN):=by
 refine F.okX NO (fun vs H Q E h=>?_) (fun cdv A outer s H vs Q E hr h=>?_)
 ·obtain⟨z,rfl,_⟩:=h
  rfl
 obtain⟨z,rfl,hz,k0⟩:=h
 obtain⟨t60,h60⟩:=T.n60
 refine⟨_,ax (gg (dl ma (c9 Ki rfl T.len PySem.boot_len (ai (pv 0) MX)) (c8 (v:=.int 60) rfl h60 ⟨_,rfl⟩) (d5 _)) (aJ (eV eU rfl rfl T.mgN T.exN (ai M8 MX))) Nc)
  (ax (dj (i:=1) NO.nd rfl (Or.inl rfl) (yB M GI (hr.mono hk) rfl T.mgS bI .nil M0 (ai (pv 0) MX)))
  (ax (dj (i:=2) NO.nd rfl (Or.inl rfl) (dm G.ok hr rfl G.mg G.kp G.bi .nil d4 (ai (pv 1) (ai M4 MX))))
  (ax (gg (qM (fu (dZ (pv 1) T.cl MD.me MD.ok (hr.mono (by omega)) MD.bi .nil M0))) (aJ (eV eU rfl rfl T.mgN T.exN (ai M8 MX))) Nc)
  (aJ (cC (pv 2)))))),?_⟩
 refine⟨_,rfl,z,rfl,hz,_,_,rfl,rfl,_,rfl,?_⟩
 unfold KL at k0
 refine Lo (fun c=>?_) (fun c=>?_)
 ·have c1:(z.length:Int)>60:=of_decide_eq_true c
  rw[if_pos (by omega)] at k0
  exact⟨small (by show 1<=1000;decide),k0 H (Same.refl _)⟩
 ·have c1: ¬(z.length:Int)>60:=of_decide_eq_false (FI.mpr c)
  rw[if_neg (by omega)] at k0
  refine⟨_,rfl,fun x dx nx ndx nex=>?_⟩
  refine⟨x,dx,z,rfl,aq,hz,fun H1 mv1 S1=>⟨rfl,?_⟩⟩
  have s0: ∀ {H2:Hp},Moved H1 H2 x->Same H H2:=fun{H2} mv b o e=>mv b o (ba e nx) (mv1 b o (ba e nx) (by rw[af (ba e nx),af (ba e ndx)];exact e))
  refine⟨_,rfl,x,z,0,rfl,S1,?_⟩
  rw[Hc]
  cases hG:eQ 5 z.cps.toList with
  |none=>
   rw[hG] at k0
   exact fun H2 mv2=>k0 H2 (s0 mv2)
  |some er=>
   obtain⟨e1,r1⟩:=er
   rw[hG] at k0
   intro v2 H2 mv2 S2 i2
   obtain⟨_,hp2,dx2,ha2⟩:=id S2
   refine⟨_,rfl,x,dx2,_,rfl,ha2,cS _ _ (by decide+kernel) (by decide+kernel),x,z,_,rfl,S2,_,rfl,?_⟩
   have rl:r1.length<=z.length:=by
    have:=(lQ 5 _ _ _ hG).length_le
    rw[bh] at this;exact this
   cases r1 with
   |nil=>
    have k1: ∀v H',Same H H'->IsE H' e1 v->Q v H':=k0
    rw[decide_eq_true (by simp:z.length - ([]:List Nat).length=z.length)]
    exact Lp ⟨_,rfl,k1 v2 H2 (s0 mv2) i2⟩
   |cons c0 r0=>
    have k1: ∀H',Same H H'->E (.ref CN) none H':=k0
    rw[decide_eq_false (by rw[Es] at rl ⊢;omega)]
    exact Lq ⟨small (by show 1<=1000;decide),k1 H2 (s0 mv2)⟩
end
section
variable {P:Ib}{w:Ic}{K:PySem.W.Frag}{mg:Str->Option H0}{base:Ie}{CS CN fT fF fA fB fS fK fN fM fR:Ig}{fdT fdF fdA fdB fdS fdK fdN fdM fdR:Je}
theorem sf (T:Txt K mg CS CN)(FT:Fun K "read_terms" "read_terms" mU fT fdT)(bT:Binds K fdT ["signs", "depth"] [])(mT:mg "read_terms"=some (.ref fT))
  (FF:Fun K "read_factors" "read_factors" iN fF fdF)(bF:Binds K fdF ["signs", "depth"] [])(mF:mg "read_factors"=some (.ref fF))
  (FA:Fun K "read_factor" "read_factor" jS fA fdA)(bA:Binds K fdA ["signs", "depth"] [])(mA:mg "read_factor"=some (.ref fA))
  (FB:Fun K "read_bracket" "read_bracket" gx fB fdB)(bB:Binds K fdB ["signs", "depth"] [])(mB:mg "read_bracket"=some (.ref fB))
  (MS:CM P w K mg base CX0 2 CS "stands_one_of" fS fdS ["self", "wanted"] (dC CS))(MT:CM P w K mg base CX0 1 CS "take_sign" fK fdK ["self"] (jm CS))(MR:CM P w K mg base CX0 3 CS "run_of" fR fdR ["self", "wanted"] (Oj CS))
  (CN':CF P w K mg base CX0 1 "is_name" fN fdN ["word"] km)(CM':CF P w K mg base CX0 1 "is_number" fM fdM ["word"] Oi):
  ∀m,m<=5->CF P w K mg base (CXx P w) (4 * m+7) "read_terms" fT fdT ["signs", "depth"] (dI CS CN eQ m)
 |0,h=>by
  have B0:CF P w K mg base (CXx P w) 4 "read_bracket" fB fdB ["signs", "depth"] (Of CS CN 0):=⟨(Bn FB T).mono (by decide),bB,FB.kp,mB⟩
  have A0:CF P w K mg base (CXx P w) 5 "read_factor" fA fdA ["signs", "depth"] (dI CS CN bO 0):=⟨md (by decide) h FA T B0 MS MR CN' CM',bA,FA.kp,mA⟩
  have F0:CF P w K mg base (CXx P w) 6 "read_factors" fF fdF ["signs", "depth"] (dI CS CN bR 0):=⟨kK (by decide) FF T A0 MS MT,bF,FF.kp,mF⟩
  exact⟨o4 (by decide) FT T F0 MS MT,bT,FT.kp,mT⟩
 |m+1,h=>by
  have T0:=sf T FT bT mT FF bF mF FA bA mA FB bB mB MS MT MR CN' CM' m (by omega)
  have B0:CF P w K mg base (CXx P w) (4 * m+8) "read_bracket" fB fdB ["signs", "depth"] (Of CS CN (m+1)):=⟨Dj (by omega) FB T T0 MS MT,bB,FB.kp,mB⟩
  have A0:CF P w K mg base (CXx P w) (4 * m+9) "read_factor" fA fdA ["signs", "depth"] (dI CS CN bO (m+1)):=⟨md (by omega) h FA T B0 MS MR CN' CM',bA,FA.kp,mA⟩
  have F0:CF P w K mg base (CXx P w) (4 * m+10) "read_factors" fF fdF ["signs", "depth"] (dI CS CN bR (m+1)):=⟨kK (by omega) FF T A0 MS MT,bF,FF.kp,mF⟩
  exact⟨o4 (by omega) FT T F0 MS MT,bT,FT.kp,mT⟩
end
end Q
namespace Wd
open PySem L2
section
def LI (c:Nat):Nat:=if Lf c=true then 2 else if Li c=true then 1 else 0
noncomputable abbrev Tk:=Nat×List Nat
def toks:List Nat->List Tk
 |[]=>[]
 |c::r=>match toks r with
  |[]=>[(LI c,[c])]
  |(k,t)::ts=>if LI c≠0/\k=LI c then (k,c::t)::ts else (LI c,[c])::(k,t)::ts
end
section
noncomputable def mid (l:List Nat):List Nat:=l.tail.dropLast
end
section
noncomputable def KJ:Exp->W
 |.num n=>.tup [.str "number",.int n]
 |.box x=>.tup [.str "box",.str x]
 |.bin s l r=>.tup [.str s,KJ l,KJ r]
def j2 (ws:List W):M W:=match ws with
 |[.str z]=>gd (z.length<=sizeLine) (pr (.bl (aK z)))
 |_=>no
def nQ (ws:List W):M W:=match ws with
 |[.str z]=>gd (z.length<=sizeLine) (pr (.bl (Mw z)))
 |_=>no
def Ej (ws:List W):M W:=match ws with
 |[.str z]=>gd (z.length<=sizeLine) (match KL z with
  |some e=>pr (KJ e)
  |none=>fun h=>.ex "NoRow" h)
 |_=>no
def gK (ws:List W):M W:=match ws with
 |[.str z]=>gd (z.length<=sizeLine) (match KL z with
  |some e=>pr (KJ e)
  |none=>no)
 |_=>no
end
end Wd
namespace Q
open PySem L2 Wd
theorem rA {K:PySem.W.Frag}{mu:Nat->Ig}{h:List Ob}{H:Hp}: ∀ {e:Exp}{v:V},IsE H e v->Rv K ⟨mu,h,H⟩ (KJ e) v
 |.num n,v,q=>by
  obtain⟨p,rfl,e⟩:=q
  unfold KJ Rv
  exact⟨p,_,rfl,.of e,Rvs.cons (Nz.mpr rfl) (Rvs.cons (Nx.mpr rfl) Rvs.nil)⟩
 |.box n,v,q=>by
  obtain⟨p,rfl,e⟩:=q
  unfold KJ Rv
  exact⟨p,_,rfl,.of e,Rvs.cons (Nz.mpr rfl) (Rvs.cons (Nz.mpr rfl) Rvs.nil)⟩
 |.bin s l r,v,q=>by
  obtain⟨p,a,b,rfl,e,h1,h2⟩:=q
  unfold KJ Rv
  exact⟨p,_,rfl,.of e,Rvs.cons (Nz.mpr rfl) (Rvs.cons (rA h1) (Rvs.cons (rA h2) Rvs.nil))⟩
section
variable {P:Ib}{w:Ic}{K:PySem.W.Frag}{mg:Str->Option H0}{base:Ie}{f CN:Ig}{fd:Je}{k:Nat}
theorem uU (C:CF P w K mg base CX0 1 "is_name" f fd ["word"] km):CG P w K mg base 1 "is_name" f fd ["word"] 1 j2:=
 ⟨C.ok.imp fun vs H Q E h=>by
  obtain⟨o,ws,rfl,hl,R,rv,h⟩:=h
  rcases ws with _|⟨x,_|⟨_,_⟩⟩
  ·exact h.elim
  ·obtain⟨v,rfl,r⟩:=rv.one
   cases x with
   |str z=>
    obtain⟨hz,h⟩:=h.gd
    exact⟨z,by rw[Nz.mp r],hz,fun H' g=>oH (ws:=[]) R g (Nv.mpr rfl) h⟩
   |_=>exact h.elim
  ·exact absurd hl (by simp),C.bi,C.kp,C.mg⟩
theorem xA (C:CF P w K mg base CX0 1 "is_number" f fd ["word"] Oi):CG P w K mg base 1 "is_number" f fd ["word"] 1 nQ:=
 ⟨C.ok.imp fun vs H Q E h=>by
  obtain⟨o,ws,rfl,hl,R,rv,h⟩:=h
  rcases ws with _|⟨x,_|⟨_,_⟩⟩
  ·exact h.elim
  ·obtain⟨v,rfl,r⟩:=rv.one
   cases x with
   |str z=>
    obtain⟨hz,h⟩:=h.gd
    exact⟨z,by rw[Nz.mp r],hz,fun H' g=>oH (ws:=[]) R g (Nv.mpr rfl) h⟩
   |_=>exact h.elim
  ·exact absurd hl (by simp),C.bi,C.kp,C.mg⟩
theorem zS (C:CF P w K mg base (CXx P w) k "expression" f fd ["word"] (qA CN)):CG P w K mg base k "expression" f fd ["word"] 1 gK:=
 ⟨xj C.ok fun vs H Q E h=>by
  obtain⟨o,ws,rfl,hl,R,rv,h⟩:=h
  rcases ws with _|⟨x,_|⟨_,_⟩⟩
  ·exact h.elim
  ·obtain⟨v,rfl,r⟩:=rv.one
   cases x with
   |str z=>
    obtain⟨hz,h⟩:=h.gd
    refine⟨z,by rw[Nz.mp r],hz,?_⟩
    cases e:KL z with
    |none=>rw[e] at h;exact h.elim
    |some x=>
     rw[e] at h
     exact fun v H' g i=>Ps.at (p:=⟨o.mu,o.h,H'⟩) h rfl (Ex.same g) (R.same g) (rA i)
   |_=>exact h.elim
  ·exact absurd hl (by simp),C.bi,C.kp,C.mg⟩
end
end Q
namespace Q
open PySem L2 Wd
noncomputable abbrev qD:IK:=top 27
noncomputable abbrev t4:IK:=top 52
noncomputable abbrev oK:IK:=top 53
noncomputable abbrev kr:IK:=top 51
noncomputable abbrev lX:IK:=top 50
noncomputable abbrev lH:IK:=top 55
noncomputable abbrev qC:IK:=top 57
noncomputable abbrev gf:IK:=top 56
noncomputable abbrev io:IK:=cc (top 54) 0
noncomputable abbrev im:IK:=cc (top 54) 1
noncomputable abbrev dM:IK:=cc (top 54) 8
noncomputable abbrev gj:IK:=cc (top 54) 3
noncomputable abbrev gh:IK:=cc (top 54) 4
noncomputable abbrev gv:IK:=cc (top 54) 5
noncomputable abbrev gm:IK:=cc (top 54) 6
noncomputable abbrev ij:IK:=cc (top 54) 7
noncomputable abbrev ku:IK:=cc (top 54) 2
noncomputable abbrev ft:IK:=cc (top 54) 9
noncomputable abbrev AH:IK:=top 49
noncomputable abbrev qB:IK:=top 29
noncomputable abbrev AG:IK:=top 30
noncomputable abbrev yp:IK:=top 32
noncomputable abbrev vJ:IK:=top 33
noncomputable abbrev iM:IK:=top 36
noncomputable abbrev lW:IK:=top 37
noncomputable abbrev oP:IK:=top 35
noncomputable abbrev AI:IK:=top 34
noncomputable abbrev hV:IK:=top 40
noncomputable abbrev iJ:IK:=top 41
noncomputable abbrev tZ:IK:=top 39
noncomputable abbrev lG:IK:=top 59
noncomputable abbrev lE:IK:=top 60
noncomputable abbrev oN:IK:=top 61
noncomputable abbrev qE:IK:=top 62
noncomputable abbrev jK:IK:=top 63
noncomputable abbrev t7:IK:=top 64
noncomputable abbrev qF:IK:=top 65
noncomputable abbrev iK:IK:=top 66
noncomputable abbrev oO:IK:=top 67
noncomputable abbrev qG:IK:=top 68
noncomputable abbrev lF:IK:=top 69
noncomputable abbrev iL:IK:=top 70
noncomputable abbrev oM:IK:=top 71
noncomputable abbrev CY:IK:=top 72
def cH (fr:List W->M W):JR->M Fl:=(NJ (sIf (mB (m2 eqW (m2 ixW (Me 0) (mC (.int 0))) (mC (.str "number")))) (NH (mTl (LO L7))) NG) (NJ (sIf (mB (m2 eqW (m2 ixW (Me 0) (mC (.int 0))) (mC (.str "box")))) (NH (mTl (LO (L0 (m2 ixW (Me 0) (mC (.int 1))) L7)))) NG) (NH (m2 Ka (LY (arW 1 fr) (L0 (m2 ixW (Me 0) (mC (.int 1))) L7)) (LY (arW 1 fr) (L0 (m2 ixW (Me 0) (mC (.int 2))) L7))))))
def aM:Nat->List W->M W
 |0=>fun _=>no
 |n+1=>Nt 1 (cH (aM n))
def gY:JR->M Fl:=(NJ (sIf (L8 (mB (LY (arW 1 j2) (L0 (Me 0) L7)))) NC NG) (NH (Me 0)))
def bM:List W->M W:=Nt 1 gY
def eD:JR->M Fl:=(NJ (sIf (L8 (mB (LY (arW 1 nQ) (L0 (Me 0) L7)))) NC NG) (NH (LY K9 (L0 (Me 0) L7))))
def eJ:List W->M W:=Nt 1 eD
def db:JR->M Fl:=(NJ (NK 1 (m2 ixW (Me 0) (mC (.int 2)))) (NJ (sIf (mOr (mB (m2 cx (Me 1) (mC (.tup ((["<", "="]:List Str).map W.str))))) (mB (m2 neW (m2 ixW (Me 0) (mC (.int 5))) (mC (.str "else"))))) NC NG) (NJ (NK 2 (LY (arW 1 gK) (L0 (m2 ixW (Me 0) (mC (.int 1))) L7))) (NJ (NK 3 (LY (arW 1 gK) (L0 (m2 ixW (Me 0) (mC (.int 3))) L7))) (NH (Md (L0 (mC (.str "if")) (L0 (Me 1) (L0 (Me 2) (L0 (Me 3) (L0 (LY (arW 1 bM) (L0 (m2 ixW (Me 0) (mC (.int 4))) L7)) (L0 (LY (arW 1 bM) (L0 (m2 ixW (Me 0) (mC (.int 6))) L7)) L7))))))))))))
def df:List W->M W:=Nt 4 db
def g0:JR->M Fl:=(NJ (NK 1 (L5 isS Ol (Me 0) (L0 (mC (.str " ")) L7))) (NJ (NK 2 (m2 ixW (Me 1) (mC (.int 0)))) (NJ (NK 3 (LY LP (L0 (Me 1) L7))) (NJ (sIf (LV (mB (m2 eqW (Me 2) (mC (.str "box")))) (mB (m2 eqW (Me 3) (mC (.int 3))))) (NH (Md (L0 (mC (.str "box")) (L0 (LY (arW 1 bM) (L0 (m2 ixW (Me 1) (mC (.int 1))) L7)) (L0 (LY (arW 1 eJ) (L0 (m2 ixW (Me 1) (mC (.int 2))) L7)) L7))))) NG) (NJ (sIf (LV (mB (m2 eqW (Me 2) (mC (.str "block")))) (mB (m2 eqW (Me 3) (mC (.int 2))))) (NH (Md (L0 (mC (.str "block")) (L0 (LY (arW 1 bM) (L0 (m2 ixW (Me 1) (mC (.int 1))) L7)) L7)))) NG) (NJ (sIf (LV (mB (m2 eqW (Me 2) (mC (.str "put")))) (mB (m2 eqW (Me 3) (mC (.int 3))))) (NH (Md (L0 (mC (.str "put")) (L0 (LY (arW 1 bM) (L0 (m2 ixW (Me 1) (mC (.int 1))) L7)) (L0 (LY (arW 1 gK) (L0 (m2 ixW (Me 1) (mC (.int 2))) L7)) L7))))) NG) (NJ (sIf (LV (mB (m2 eqW (Me 2) (mC (.str "say")))) (mB (m2 eqW (Me 3) (mC (.int 2))))) (NH (Md (L0 (mC (.str "say")) (L0 (LY (arW 1 gK) (L0 (m2 ixW (Me 1) (mC (.int 1))) L7)) L7)))) NG) (NJ (sIf (LV (mB (m2 eqW (Me 2) (mC (.str "ask")))) (mB (m2 eqW (Me 3) (mC (.int 2))))) (NH (Md (L0 (mC (.str "ask")) (L0 (LY (arW 1 bM) (L0 (m2 ixW (Me 1) (mC (.int 1))) L7)) L7)))) NG) (NJ (sIf (LV (mB (m2 eqW (Me 2) (mC (.str "go")))) (mB (m2 eqW (Me 3) (mC (.int 2))))) (NH (Md (L0 (mC (.str "go")) (L0 (LY (arW 1 bM) (L0 (m2 ixW (Me 1) (mC (.int 1))) L7)) L7)))) NG) (NJ (sIf (LV (mB (m2 eqW (Me 2) (mC (.str "if")))) (mB (m2 eqW (Me 3) (mC (.int 7))))) (NH (LY (arW 1 df) (L0 (Me 1) L7))) NG) (NJ (sIf (LV (mB (m2 eqW (Me 2) (mC (.str "table")))) (mB (aU leW leW (mC (.int 3)) (Me 3) (m2 Ka (mC (.int 2)) (mC (.int 6)))))) (NH (Md (L0 (mC (.str "table")) (L0 (LY (arW 1 gK) (L0 (m2 ixW (Me 1) (mC (.int 1))) L7)) (L0 (LY jk (L0 (mTl (LZ [] (Mb (m3 slW (Me 1) (L9 (mC (.int 2))) ao) On) (tgN 0) Mh (LY (arW 1 bM) (L0 (Me 0) L7)) 2)) L7)) L7))))) NG) (NJ (sIf (LV (mB (m2 eqW (Me 2) (mC (.str "stop")))) (mB (m2 eqW (Me 3) (mC (.int 1))))) (NH (Md (L0 (mC (.str "stop")) L7))) NG) NC))))))))))))
def g8:List W->M W:=Nt 4 g0
def aj:JR->M Fl:=(NJ (sIf (mB (m2 eqW (m2 ixW (Me 0) (mC (.int 0))) (mC (.str "put")))) (NH (mTl (Km (mTl (LO (L0 (m2 ixW (Me 0) (mC (.int 1))) L7))) (LY (arW 1 (aM 62)) (L0 (m2 ixW (Me 0) (mC (.int 2))) L7))))) NG) (NJ (sIf (mB (m2 eqW (m2 ixW (Me 0) (mC (.int 0))) (mC (.str "say")))) (NH (LY (arW 1 (aM 62)) (L0 (m2 ixW (Me 0) (mC (.int 1))) L7))) NG) (NJ (sIf (mB (m2 eqW (m2 ixW (Me 0) (mC (.int 0))) (mC (.str "ask")))) (NH (mTl (LO (L0 (m2 ixW (Me 0) (mC (.int 1))) L7)))) NG) (NJ (sIf (mB (m2 eqW (m2 ixW (Me 0) (mC (.int 0))) (mC (.str "if")))) (NH (m2 Ka (LY (arW 1 (aM 62)) (L0 (m2 ixW (Me 0) (mC (.int 2))) L7)) (LY (arW 1 (aM 62)) (L0 (m2 ixW (Me 0) (mC (.int 3))) L7)))) NG) (NJ (sIf (mB (m2 eqW (m2 ixW (Me 0) (mC (.int 0))) (mC (.str "table")))) (NH (LY (arW 1 (aM 62)) (L0 (m2 ixW (Me 0) (mC (.int 1))) L7))) NG) (NH (mTl (LO L7))))))))
def aI:List W->M W:=Nt 1 aj
def fQ:JR->M Fl:=(NJ (sIf (mB (m2 cx (Me 0) (Me 1))) NC NG) (NH (L5 Lh N9 (Me 1) (L0 (Me 0) L7))))
def cV:List W->M W:=Nt 2 fQ
def aH:JR->M Fl:=(NJ (sIf (mB (m2 eqW (m2 ixW (Me 0) (mC (.int 0))) (mC (.str "go")))) (NH (Md (L0 (mC (.str "go")) (L0 (LY (arW 2 cV) (L0 (m2 ixW (Me 0) (mC (.int 1))) (L0 (Me 1) L7))) L7)))) NG) (NJ (sIf (mB (m2 eqW (m2 ixW (Me 0) (mC (.int 0))) (mC (.str "if")))) (NH (m2 Ka (m3 slW (Me 0) ao (L9 (mC (.int 4)))) (Md (L0 (LY (arW 2 cV) (L0 (m2 ixW (Me 0) (mC (.int 4))) (L0 (Me 1) L7))) (L0 (LY (arW 2 cV) (L0 (m2 ixW (Me 0) (mC (.int 5))) (L0 (Me 1) L7))) L7))))) NG) (NJ (sIf (mB (m2 eqW (m2 ixW (Me 0) (mC (.int 0))) (mC (.str "table")))) (NH (Md (L0 (mC (.str "table")) (L0 (m2 ixW (Me 0) (mC (.int 1))) (L0 (LY jk (L0 (mTl (LZ [] (Mb (m2 ixW (Me 0) (mC (.int 2))) Oo) (tgN 0) Mh (LY (arW 2 cV) (L0 (Me 0) (L0 (Me 3) L7))) 2)) L7)) L7))))) NG) (NH (Me 0)))))
def bq:List W->M W:=Nt 2 aH
def cj:JR->M Fl:=(NJ (NE "Reading" "boxes" (Me 0) (L6 (LO L7))) (NJ (NE "Reading" "block_names" (Me 0) (L6 (LO L7))) (NJ (NE "Reading" "ended_blocks" (Me 0) (L6 (LO L7))) (NE "Reading" "statements" (Me 0) (L6 (LO L7))))))
def ck:List W->M W:=Nt 1 cj
def ci:JR->M Fl:=(NH (m2 gtW (LY LP (L0 (m1 (KU "Reading" "block_names") (Me 0)) L7)) (LY LP (L0 (m1 (KU "Reading" "ended_blocks") (Me 0)) L7))))
def bb:List W->M W:=Nt 1 ci
def bU:JR->M Fl:=(NH (mTl (LZ [] (Mb (m1 (KU "Reading" "boxes") (Me 0)) On) (tgT [0,1]) Mh (Me 0) 3)))
def br:List W->M W:=Nt 1 bU
def aB:JR->M Fl:=(sIf (mB (m2 eqW (Me 1) (mC (.str "box")))) (sIf (mB (m2 gtW (LY LP (L0 (m1 (KU "Reading" "block_names") (Me 0)) L7)) (mC (.int 0)))) NC NG) (sIf (mB (m2 eqW (Me 1) (mC (.str "block")))) (sIf (mB (L4 "Reading" "in_block" 1 bb (Me 0) L7)) NC NG) (sIf (L8 (mB (L4 "Reading" "in_block" 1 bb (Me 0) L7))) NC NG)))
def av:List W->M W:=Nt 2 aB
def aA:JR->M Fl:=(NJ (sIf (LV (mB (m2 eqW (m2 ixW (Me 1) (mC (.int 0))) (mC (.str "box")))) (mB (m2 inW (m2 ixW (Me 1) (mC (.int 1))) (L4 "Reading" "box_names" 1 br (Me 0) L7)))) NC NG) (sIf (LV (mB (m2 eqW (m2 ixW (Me 1) (mC (.int 0))) (mC (.str "block")))) (mB (m2 inW (m2 ixW (Me 1) (mC (.int 1))) (m1 (KU "Reading" "block_names") (Me 0))))) NC NG))
def au:List W->M W:=Nt 2 aA
def aC:JR->M Fl:=(NJ (sIf (LV (mB (m2 eqW (Me 1) (mC (.str "box")))) (mB (m2 eqW (LY LP (L0 (m1 (KU "Reading" "boxes") (Me 0)) L7)) (mC (.int 4))))) NC NG) (NJ (sIf (LV (mB (m2 eqW (Me 1) (mC (.str "block")))) (mB (m2 eqW (LY LP (L0 (m1 (KU "Reading" "block_names") (Me 0)) L7)) (mC (.int 10))))) NC NG) (sIf (LV (mB (m2 inW (Me 1) (mC (.tup ((["put", "say", "ask"]:List Str).map W.str))))) (mB (m2 eqW (LY LP (L0 (m1 (KU "Reading" "statements") (Me 0)) L7)) (mC (.int 8))))) NC NG)))
def ay:List W->M W:=Nt 2 aC
def bN:JR->M Fl:=(NJ (NK 2 (L4 "Reading" "box_names" 1 br (Me 0) L7)) (NF (Mb (LY (arW 1 aI) (L0 (Me 1) L7)) On) (tgN 3) (sIf (mB (m2 cx (Me 3) (Me 2))) NC NG)))
def aY:List W->M W:=Nt 4 bN
def az:JR->M Fl:=(sIf (mB (m2 eqW (m2 ixW (Me 1) (mC (.int 0))) (mC (.str "box")))) (sEx (L5 isL aX (m1 (KU "Reading" "boxes") (Me 0)) (L0 (Md (L0 (m2 ixW (Me 1) (mC (.int 1))) (L0 (m2 ixW (Me 1) (mC (.int 2))) L7))) L7))) (sIf (mB (m2 eqW (m2 ixW (Me 1) (mC (.int 0))) (mC (.str "block")))) (NJ (sEx (L5 isL aX (m1 (KU "Reading" "block_names") (Me 0)) (L0 (m2 ixW (Me 1) (mC (.int 1))) L7))) (NE "Reading" "statements" (Me 0) (L6 (LO L7)))) (sIf (mB (m2 inW (m2 ixW (Me 1) (mC (.int 0))) (mC (.tup ((["put", "say", "ask"]:List Str).map W.str))))) (sEx (L5 isL aX (m1 (KU "Reading" "statements") (Me 0)) (L0 (Me 1) L7))) (sEx (L5 isL aX (m1 (KU "Reading" "ended_blocks") (Me 0)) (L0 (Md (L0 (m2 ixW (m1 (KU "Reading" "block_names") (Me 0)) (m1 Ms (mC (.int 1)))) (L0 (m1 K7 (m1 (KU "Reading" "statements") (Me 0))) (L0 (Me 1) L7)))) L7))))))
def ar:List W->M W:=Nt 2 az
def dc:JR->M Fl:=(NJ (sEx (L4 "Reading" "check_place" 2 av (Me 0) (L0 (m2 ixW (Me 1) (mC (.int 0))) L7))) (NJ (sEx (L4 "Reading" "check_twice" 2 au (Me 0) (L0 (Me 1) L7))) (NJ (sEx (L4 "Reading" "check_room" 2 ay (Me 0) (L0 (m2 ixW (Me 1) (mC (.int 0))) L7))) (NJ (sEx (L4 "Reading" "check_boxes" 2 aY (Me 0) (L0 (Me 1) L7))) (sEx (L4 "Reading" "put_down" 2 ar (Me 0) (L0 (Me 1) L7)))))))
def dg:List W->M W:=Nt 2 dc
def bw:JR->M Fl:=(NJ (sIf (mOr (mB (L4 "Reading" "in_block" 1 bb (Me 0) L7)) (mB (m2 eqW (LY LP (L0 (m1 (KU "Reading" "block_names") (Me 0)) L7)) (mC (.int 0))))) NC NG) (NJ (NK 1 (L6 (LO L7))) (NJ (NF (Mb (m1 (KU "Reading" "ended_blocks") (Me 0)) On) (tgT [2,3,4]) (sEx (L5 isL aX (Me 1) (L0 (Md (L0 (Me 2) (L0 (Me 3) (L0 (LY (arW 2 bq) (L0 (Me 4) (L0 (m1 (KU "Reading" "block_names") (Me 0)) L7))) L7)))) L7)))) (NH (Md (L0 (m1 K7 (m1 (KU "Reading" "boxes") (Me 0))) (L0 (m1 K7 (Me 1)) L7)))))))
def bz:List W->M W:=Nt 5 bw
def nL:JR->M Fl:=(NJ (NK 1 (L5 isS Ol (Me 0) (L0 (mC (.str "\n")) L7))) (NJ (sIf (mB (m2 gtW (LY LP (L0 (Me 1) L7)) (mC (.int 120)))) NC NG) (NJ (NK 2 (L3 "Reading" 1 ck L7)) (NJ (NF (Mb (Me 1) On) (tgN 3) (sEx (L4 "Reading" "take" 2 dg (Me 2) (L0 (LY (arW 1 g8) (L0 (Me 3) L7)) L7)))) (NH (L4 "Reading" "told_program" 1 bz (Me 2) L7))))))
def lf:List W->M W:=Nt 4 nL
def fL:JR->M Fl:=(NJ (sIf (mB (m2 eqW (m2 ixW (Me 0) (mC (.int 0))) (mC (.str "go")))) (NH (Md (L0 (m2 ixW (Me 0) (mC (.int 1))) L7))) NG) (NJ (sIf (mB (m2 eqW (m2 ixW (Me 0) (mC (.int 0))) (mC (.str "if")))) (NH (Md (L0 (m2 ixW (Me 0) (mC (.int 4))) (L0 (m2 ixW (Me 0) (mC (.int 5))) L7)))) NG) (NJ (sIf (mB (m2 eqW (m2 ixW (Me 0) (mC (.int 0))) (mC (.str "table")))) (NH (m2 ixW (Me 0) (mC (.int 2)))) NG) (NH (Md L7)))))
def fY:List W->M W:=Nt 1 fL
def nK:JR->M Fl:=(NJ (NK 1 (L6 (LO L7))) (NJ (NF (Mc (L0 (m2 ixW (Me 0) (mC (.int 1))) L7) KD) (tgT [2,3]) (NF (Mc (L0 (LY (arW 1 fY) (L0 (m2 ixW (Me 3) (mC (.int 2))) L7)) L7) KE) (tgT [4,5]) (sEx (L5 isL aX (Me 1) (L0 (Md (L0 (Me 2) (L0 (Me 4) (L0 (Me 5) L7)))) L7))))) (NH (m1 K7 (Me 1)))))
def iz:List W->M W:=Nt 6 nK
def jZ:JR->M Fl:=(NJ (NK 2 nB) (NJ (NF (Mc (L0 (LY (arW 1 iz) (L0 (Me 0) L7)) (L0 (Me 1) L7)) (Op false false)) (tgT [3,4]) (NJ (NK 5 (m2 ixW (m2 ixW (m2 ixW (Me 0) (mC (.int 1))) (m2 ixW (Me 3) (mC (.int 0)))) (mC (.int 2)))) (sIf (mB (m2 neW (m2 ixW (Me 5) (mC (.int 0))) (mC (.str "table")))) (NJ (NK 6 (mKt (L0 (m2 ixW (Me 3) (mC (.int 0))) (L0 (m2 ixW (Me 3) (mC (.int 2))) L7)))) (aZ (Me 2) (Me 6) (m2 Ka (L1 (Me 2) (Me 6) (mC (.int 0))) (Me 4)))) NG))) (NH (Me 2))))
def i6:List W->M W:=Nt 7 jZ
def nM:JR->M Fl:=(NJ (NK 3 (LY (arW 2 i6) (L0 (Me 0) (L0 (Me 2) L7)))) (NH (m2 Ov (LY Ow (L0 (Me 2) L7)) (LY Ow (L0 (mTl (LZ [] (Mc (L0 (Me 1) (L0 (m3 slW (Me 1) (L9 (mC (.int 1))) ao) L7)) (Op true true)) (tgN 0) Mh (L1 (Me 5) (Me 0) (mC (.int 0))) 2)) L7)))))
def iA:List W->M W:=Nt 4 nM
def dU:JR->M Fl:=(NJ (NK 1 (mTl (LO (L0 (Md (L0 (mC (.int 0)) L7)) L7)))) (NJ (NF (Mc (L0 (mC (.int 1)) (L0 (Me 0) L7)) Nq) (tgN 2) (NK 1 (m2 Ka (Me 1) (mTl (LZ [] (Mb (Me 1) On) (tgN 0) Mh (m2 Ka (Me 0) (Md (L0 (Me 4) L7))) 2))))) (NH (Me 1))))
def dX:List W->M W:=Nt 3 dU
def gW:JR->M Fl:=(NH (LY jk (L0 (mTl (LZ [] (Mb (Me 0) Oo) (tgN 0) (mB (m2 neW (Me 0) (Me 3))) (Me 0) 2)) L7)))
def g7:List W->M W:=Nt 2 gW
def eI:JR->M Fl:=(NJ (NK 4 (mC .non)) (NJ (NF (Mb (Me 1) Oo) (tgN 5) (NJ (NK 6 (m2 Lr (Me 3) (Md (L0 (Me 5) (L0 (LY (arW 2 g7) (L0 (Me 1) (L0 (Me 5) L7))) L7))))) (NJ (NK 7 (m2 Ka (L1 (Me 2) (Md (L0 (Me 0) (L0 (Me 5) L7))) (mC (.int 0))) (m2 ixW (Me 6) (mC (.int 0))))) (sIf (mOr (mB (m2 Lk (Me 4) (mC .non))) (mB (m2 gtW (Me 7) (m2 ixW (Me 4) (mC (.int 0)))))) (NK 4 (Md (L0 (Me 7) (L0 (m2 Ka (Md (L0 (Me 5) L7)) (m2 ixW (Me 6) (mC (.int 1)))) L7)))) NG)))) (NH (mIf (mB (m2 Lk (Me 4) (mC .non))) (Md (L0 (mC (.int 0)) (L0 (Md L7) L7))) (Me 4)))))
def eM:List W->M W:=Nt 8 eI
def nN:JR->M Fl:=(NJ (NK 2 (LY LP (L0 (m2 ixW (Me 0) (mC (.int 1))) L7))) (NJ (NK 3 (LY (arW 2 i6) (L0 (Me 0) (L0 (Me 1) L7)))) (NJ (NK 4 (rk false)) (NJ (NF (Mb (LY (arW 1 dX) (L0 (Me 2) L7)) On) (tgN 5) (NJ (NK 6 (m3 slW (Me 5) (L9 (mC (.int 1))) ao)) (NF (Mc (L0 (Me 2) L7) Np) (tgN 7) (sIf (mB (m2 cx (Me 7) (Me 6))) (r9 (Me 4) (Md (L0 (Me 7) (L0 (Me 6) L7))) (LY (arW 4 eM) (L0 (Me 7) (L0 (Me 6) (L0 (Me 3) (L0 (Me 4) L7)))))) NG)))) (NH (m2 Ka (Md (L0 (mC (.int 0)) L7)) (m2 ixW (m2 Lr (Me 4) (Md (L0 (mC (.int 0)) (L0 (LY trW (L0 (mC (.int 1)) (L0 (Me 2) L7))) L7)))) (mC (.int 1)))))))))
def gJ:List W->M W:=Nt 8 nN
def bS:JR->M Fl:=(NJ (NK 2 (m2 ixW (m2 ixW (m2 ixW (Me 0) (mC (.int 1))) (m2 ixW (Me 1) (mC (.int 0)))) (mC (.int 2)))) (NH (LX (m2 neW (m2 ixW (Me 2) (mC (.int 0))) (mC (.str "table"))) (LX (m2 neW (m2 ixW (Me 1) (mC (.int 2))) (m2 ixW (Me 1) (mC (.int 0)))) (m2 neW (m2 ixW (Me 1) (mC (.int 2))) (mC (.int 0)))))))
def bV:List W->M W:=Nt 3 bS
def dQ:JR->M Fl:=(NH (mTl (LZ [] (Mc (L0 (LY (arW 1 iz) (L0 (Me 0) L7)) (L0 (Me 1) L7)) (Op false false)) (tgT [0,1]) Mh (mIf (mB (m2 eqW (Me 0) (Me 5))) (Me 6) (Me 1)) 3)))
def de:List W->M W:=Nt 4 dQ
def gX:JR->M Fl:=(NJ (sIf (L8 (mB (LY (arW 2 bV) (L0 (Me 0) (L0 (Me 2) L7))))) (NH (mC .non)) NG) (NJ (NK 3 (LY (arW 4 de) (L0 (Me 0) (L0 (Me 1) (L0 (Me 2) (L0 (mC (.int 0)) L7)))))) (NJ (NK 4 (LY (arW 4 de) (L0 (Me 0) (L0 (Me 1) (L0 (Me 2) (L0 (m2 Ka (LY Ow (L0 (Me 1) L7)) (mC (.int 1))) L7)))))) (NJ (NK 5 (LY (arW 2 gJ) (L0 (Me 0) (L0 (Me 4) L7)))) (NH (m2 Ov (LY (arW 3 iA) (L0 (Me 0) (L0 (Me 5) (L0 (Me 3) L7)))) (LY (arW 3 iA) (L0 (Me 0) (L0 (LY (arW 2 gJ) (L0 (Me 0) (L0 (Me 3) L7))) (L0 (Me 3) L7))))))))))
def fg:List W->M W:=Nt 6 gX
def dA:JR->M Fl:=(NJ (sIf (mB (m2 ltW (Me 1) (LY LP (L0 (Me 0) L7)))) (NH (m2 ixW (Me 0) (Me 1))) NG) (NH (mC (.int 0))))
def bL:List W->M W:=Nt 2 dA
def dy:JR->M Fl:=(NJ (NK 2 (L6 (LO L7))) (NJ (NK 3 (LY J9 (L0 (Me 0) L7))) (NJ (NF (Mc (L0 (Me 1) L7) Np) (tgN 4) (sIf (mB (m2 geW (LY J9 (L0 (Me 0) L7)) (m2 Nb (mC (.int 10)) (mC (.int 18))))) (NJ (sEx (L5 isL aX (Me 2) (L0 (m2 Mm (Me 3) (mC (.int 1009))) L7))) (NK 3 (m2 KP (Me 3) (mC (.int 1009))))) (NJ (NK 5 (m2 Mm (m2 Ka (m2 Mm (Me 3) (mC (.int 2147483629))) (m2 Mo (m2 Mo (mC (.int 7919)) (m2 Ka (Me 4) (mC (.int 1)))) (m2 Ka (Me 4) (mC (.int 3))))) (mC (.int 2147483629)))) (NJ (NK 5 (m2 Ka (m2 Mm (m2 Mo (Me 5) (Me 5)) (mC (.int 2147483587))) (m2 KP (Me 5) (mC (.int 7))))) (sEx (L5 isL aX (Me 2) (L0 (m2 KP (m2 Mm (m2 Mo (Me 5) (mC (.int 48271))) (mC (.int 2147483647))) (mC (.int 16))) L7))))))) (NH (m1 K7 (Me 2))))))
def bK:List W->M W:=Nt 6 dy
def eF:JR->M Fl:=(NJ (NK 1 (mTl (LO (L0 (mC (.str "a")) (L0 (mC (.str "b")) (L0 (mC (.str "c")) (L0 (mC (.str "d")) (L0 (mC (.str "e")) (L0 (mC (.str "f")) (L0 (mC (.str "g")) (L0 (mC (.str "h")) (L0 (mC (.str "i")) (L0 (mC (.str "j")) L7))))))))))))) (NJ (NK 2 (mTl (LO (L0 (mC (.str "top")) (L0 (mC (.str "t")) (L0 (mC (.str "ab")) (L0 (mC (.str "a")) (L0 (mC (.str "zed")) (L0 (mC (.str "n")) (L0 (mC (.str "nn")) (L0 (mC (.str "out")) (L0 (mC (.str "mid")) (L0 (mC (.str "x")) L7))))))))))))) (NH (m2 ixW (mTl (LO (L0 (Me 1) (L0 (Me 2) (L0 (Ma (Me 1) (L9 (m1 Ms (mC (.int 1))))) (L0 (Ma (Me 2) (L9 (m1 Ms (mC (.int 1))))) L7)))))) (m2 Mm (Me 0) (mC (.int 4)))))))
def dE:List W->M W:=Nt 3 eF
def fU:JR->M Fl:=(NJ (NK 1 (m2 ixW (mTl (LO (L0 (mC (.str "n")) (L0 (mC (.str "nn")) L7)))) (m2 Mm (m2 ixW (Me 0) (mC (.int 1))) (mC (.int 2))))) (NJ (NK 2 (LY Ou (L0 (m2 Mm (m2 ixW (Me 0) (mC (.int 2))) (mC (.int 4))) L7))) (NJ (NK 3 (mTl (LO (L0 (Me 2) (L0 (Me 1) (L0 (m2 Ka (m2 Ka (Me 1) (mC (.str "+"))) (Me 2)) (L0 (m2 Ka (Me 1) (mC (.str "-1"))) (L0 (mC (.str "nn-n")) (L0 (m2 Ka (mC (.str "n*")) (Me 2)) (L0 (m2 Ka (m2 Ka (mC (.str "2*(")) (Me 1)) (mC (.str "+1)"))) (L0 (m2 Ka (mC (.str "7-")) (Me 1)) L7))))))))))) (NH (m2 ixW (Me 3) (m2 Mm (m2 ixW (Me 0) (mC (.int 0))) (mC (.int 8))))))))
def cI:List W->M W:=Nt 4 fU
def cR:JR->M Fl:=(NJ (NK 1 (m2 Mm (m2 KP (m2 ixW (Me 0) (mC (.int 0))) (mC (.int 8))) (mC (.int 4)))) (NJ (sIf (mB (m2 eqW (Me 1) (mC (.int 0)))) (NH (m2 Ka (mC (.str "say ")) (LY (arW 1 cI) (L0 (Me 0) L7)))) NG) (NJ (sIf (mB (m2 eqW (Me 1) (mC (.int 1)))) (NH (m2 Ka (mC (.str "ask ")) (m2 ixW (mTl (LO (L0 (mC (.str "n")) (L0 (mC (.str "nn")) L7)))) (m2 Mm (m2 ixW (Me 0) (mC (.int 2))) (mC (.int 2)))))) NG) (NH (m2 Ka (m2 Ka (m2 Ka (mC (.str "put ")) (m2 ixW (mTl (LO (L0 (mC (.str "n")) (L0 (mC (.str "nn")) L7)))) (m2 Mm (m2 KP (m2 ixW (Me 0) (mC (.int 2))) (mC (.int 4))) (mC (.int 2))))) (mC (.str " "))) (LY (arW 1 cI) (L0 (Me 0) L7)))))))
def bj:List W->M W:=Nt 2 cR
def gZ:JR->M Fl:=(NJ (NK 2 (m2 ixW (Me 1) (m2 Mm (m2 ixW (Me 0) (mC (.int 8))) (LY LP (L0 (Me 1) L7))))) (NJ (NK 3 (m2 ixW (Me 1) (m2 Mm (m2 ixW (Me 0) (mC (.int 9))) (LY LP (L0 (Me 1) L7))))) (NJ (NK 4 (m2 Mm (m2 ixW (Me 0) (mC (.int 7))) (mC (.int 8)))) (NJ (sIf (mB (m2 ltW (Me 4) (mC (.int 2)))) (NH (m2 Ka (mC (.str "go ")) (Me 2))) NG) (NJ (sIf (mB (m2 eqW (Me 4) (mC (.int 5)))) (NJ (NK 5 (LY (arW 1 cI) (L0 (m3 slW (Me 0) (L9 (mC (.int 9))) (L9 (mC (.int 12)))) L7))) (NH (L5 isS Lz (mC (.str " ")) (L0 (mTl (Km (mTl (LO (L0 (mC (.str "table")) (L0 (Me 5) (L0 (Me 2) (L0 (Me 3) L7)))))) (m3 slW (Me 1) ao (L9 (m2 Mm (m2 ixW (Me 0) (mC (.int 10))) (mC (.int 3))))))) L7)))) NG) (NJ (sIf (mB (m2 eqW (Me 4) (mC (.int 6)))) (NH (mC (.str "stop"))) NG) (NJ (NK 6 (m2 ixW (mTl (LO (L0 (mC (.str " < ")) (L0 (mC (.str " = ")) L7)))) (m2 Mm (m2 KP (m2 ixW (Me 0) (mC (.int 10))) (mC (.int 8))) (mC (.int 2))))) (NJ (NK 7 (m2 Ka (LY (arW 1 cI) (L0 (m3 slW (Me 0) (L9 (mC (.int 9))) (L9 (mC (.int 12)))) L7)) (Me 6))) (NJ (NK 7 (m2 Ka (Me 7) (LY (arW 1 cI) (L0 (m2 Ka (m3 slW (Me 0) (L9 (mC (.int 10))) (L9 (mC (.int 12)))) (m3 slW (Me 0) ao (L9 (mC (.int 1))))) L7)))) (NJ (sIf (mB (m2 eqW (Me 4) (mC (.int 7)))) (NK 3 (Me 2)) NG) (NH (m2 Ka (m2 Ka (m2 Ka (m2 Ka (m2 Ka (mC (.str "if ")) (Me 7)) (mC (.str " "))) (Me 2)) (mC (.str " else "))) (Me 3)))))))))))))
def fj:List W->M W:=Nt 8 gZ
def fV:JR->M Fl:=(NJ (NK 2 (LY (arW 2 bK) (L0 (LY (arW 2 bL) (L0 (Me 0) (L0 (mC (.int 0)) L7))) (L0 (mC (.int 4)) L7)))) (NJ (NK 3 (m3 slW (LY (arW 1 dE) (L0 (m2 ixW (Me 2) (mC (.int 0))) L7)) ao (L9 (m2 Ka (mC (.int 1)) (m2 Mm (m2 ixW (Me 2) (mC (.int 1))) (Me 1)))))) (NJ (NK 4 (L6 (LO (L0 (m2 Ka (mC (.str "box n ")) (LY Ou (L0 (m2 Mm (m2 ixW (Me 2) (mC (.int 2))) (mC (.int 3))) L7))) (L0 (m2 Ka (mC (.str "box nn ")) (LY Ou (L0 (m2 Mm (m2 ixW (Me 2) (mC (.int 3))) (mC (.int 4))) L7))) L7))))) (NJ (NF (Mc (L0 (LY LP (L0 (Me 3) L7)) L7) Np) (tgN 5) (NJ (NK 6 (LY (arW 2 bK) (L0 (LY (arW 2 bL) (L0 (Me 0) (L0 (m2 Ka (mC (.int 1)) (Me 5)) L7))) (L0 (mC (.int 12)) L7)))) (NJ (sEx (L5 isL aX (Me 4) (L0 (m2 Ka (mC (.str "block ")) (m2 ixW (Me 3) (Me 5))) L7))) (NJ (sIf (mB (m2 gtW (m2 Mm (m2 ixW (Me 6) (mC (.int 0))) (mC (.int 3))) (mC (.int 0)))) (sEx (L5 isL aX (Me 4) (L0 (LY (arW 1 bj) (L0 (m3 slW (Me 6) (L9 (mC (.int 1))) (L9 (mC (.int 4)))) L7)) L7))) NG) (NJ (sIf (mB (m2 gtW (m2 Mm (m2 ixW (Me 6) (mC (.int 0))) (mC (.int 3))) (mC (.int 1)))) (sEx (L5 isL aX (Me 4) (L0 (LY (arW 1 bj) (L0 (m3 slW (Me 6) (L9 (mC (.int 4))) (L9 (mC (.int 7)))) L7)) L7))) NG) (sEx (L5 isL aX (Me 4) (L0 (LY (arW 2 fj) (L0 (Me 6) (L0 (Me 3) L7))) L7)))))))) (NH (L5 isS Lz (mC (.str "\n")) (L0 (Me 4) L7)))))))
def fZ:List W->M W:=Nt 7 fV
def dR:JR->M Fl:=(NJ (NK 1 (mTl (LO (L0 (Md (L0 (mC (.int 0)) L7)) L7)))) (NJ (NF (Mc (L0 (mC (.int 1)) (L0 (Me 0) L7)) Nq) (tgN 2) (NJ (NK 3 (mTl (LO L7))) (NJ (NF (Mb (Me 1) On) (tgN 4) (NK 3 (m2 Ka (Me 3) (mTl (LZ [] (Mc (L0 (mC (.int 1)) (L0 (Me 0) L7)) Nq) (tgN 0) (mB (m2 cx (Me 0) (Me 6))) (m2 Ka (Me 6) (Md (L0 (Me 0) L7))) 2))))) (NK 1 (Me 3))))) (NH (Me 1))))
def dW:List W->M W:=Nt 5 dR
def eG:JR->M Fl:=(NJ (NK 2 nB) (NJ (NF (Mc (L0 (LY (arW 1 iz) (L0 (Me 0) L7)) (L0 (Me 1) L7)) (Op false false)) (tgT [3,4]) (sIf (LV (mB (m2 inW (m2 ixW (m2 ixW (m2 ixW (m2 ixW (Me 0) (mC (.int 1))) (m2 ixW (Me 3) (mC (.int 0)))) (mC (.int 2))) (mC (.int 0))) (mTl (LO (L0 (mC (.str "go")) (L0 (mC (.str "if")) L7)))))) (mB (m2 neW (m2 ixW (Me 3) (mC (.int 0))) (m2 ixW (Me 3) (mC (.int 2)))))) (aZ (Me 2) (mKt (L0 (m2 ixW (Me 3) (mC (.int 0))) (L0 (m2 ixW (Me 3) (mC (.int 2))) L7))) (m2 Ka (L1 (Me 2) (mKt (L0 (m2 ixW (Me 3) (mC (.int 0))) (L0 (m2 ixW (Me 3) (mC (.int 2))) L7))) (mC (.int 0))) (Me 4))) NG)) (NH (Me 2))))
def cX:List W->M W:=Nt 5 eG
def fX:JR->M Fl:=(NJ (NK 3 (mC (.int 0))) (NJ (NF (Mc (L0 (mC (.int 1)) (L0 (LY LP (L0 (Me 2) L7)) L7)) Nq) (tgN 4) (NK 3 (m2 Ka (Me 3) (L1 (Me 1) (Md (L0 (m2 ixW (Me 2) (m2 Ov (Me 4) (mC (.int 1)))) (L0 (m2 ixW (Me 2) (Me 4)) L7))) (mC (.int 0)))))) (NH (m2 Ov (LY Ow (L0 (Me 0) L7)) (Me 3)))))
def cJ:List W->M W:=Nt 5 fX
def dz:JR->M Fl:=(NJ (NK 3 (LY (arW 2 bK) (L0 (LY (arW 2 bL) (L0 (Me 0) (L0 (Me 1) L7))) (L0 (mC (.int 12)) L7)))) (NJ (NK 4 (L6 (LO L7))) (NJ (NF (Mc (L0 (LY LP (L0 (Me 2) L7)) L7) Np) (tgN 5) (sEx (L5 isL aX (Me 4) (L0 (m2 Mm (m2 KP (m2 ixW (Me 3) (m2 Mm (Me 5) (mC (.int 12)))) (m2 Ka (mC (.int 1)) (m2 KP (Me 5) (mC (.int 12))))) (m2 ixW (mTl (LO (L0 (mC (.int 4)) (L0 (mC (.int 40)) (L0 (m2 Nb (mC (.int 10)) (mC (.int 6))) L7))))) (m2 Mm (m2 ixW (Me 3) (m2 Mm (m2 Ka (Me 5) (mC (.int 5))) (mC (.int 12)))) (mC (.int 3))))) L7)))) (NH (m1 K7 (Me 4))))))
def dB:List W->M W:=Nt 6 dz
def dS:JR->M Fl:=(NJ (NK 4 (LY (arW 2 cX) (L0 (Me 0) (L0 (Me 1) L7)))) (NJ (NK 5 (LY (KM Ml) (L0 (mTl (LZ [] (Mb (Me 2) On) (tgN 0) Mh (LY (arW 3 cJ) (L0 (Me 3) (L0 (Me 6) (L0 (Me 0) L7)))) 2)) L7))) (NJ (NK 6 (LY (arW 2 gJ) (L0 (Me 0) (L0 (Me 1) L7)))) (NJ (sIf (mB (m2 neW (LY (arW 3 iA) (L0 (Me 0) (L0 (Me 6) (L0 (Me 1) L7)))) (Me 5))) (NH (mC .non)) NG) (NJ (NF (Mb (Me 2) On) (tgN 7) (sIf (mB (m2 eqW (LY (arW 3 cJ) (L0 (Me 1) (L0 (Me 4) (L0 (Me 7) L7)))) (Me 5))) (NJ (NK 8 (L5 Lm OJ (Me 7) (L0 (m2 ixW (Me 3) (mC (.int 0))) L7))) (sIf (mB (m2 eqW (m3 slW (Me 7) (L9 (m2 Ka (Me 8) (mC (.int 1)))) (L9 (m2 Ka (Me 8) (mC (.int 2))))) (Md (L0 (m2 ixW (Me 3) (mC (.int 2))) L7)))) (NH (mC (.bl true))) NG)) NG)) (NH (mC (.bl false))))))))
def cL:List W->M W:=Nt 9 dS
def eE:JR->M Fl:=(NJ (NK 5 (LY (arW 3 fg) (L0 (Me 0) (L0 (mTl (LQ (L0 (Me 1) L7))) (L0 (m2 ixW (Me 3) (Me 4)) L7))))) (NJ (sIf (mOr (L8 (mB (LY Ln (L0 (Me 5) (L0 (mC (.ty "int")) L7))))) (mOr (mB (LY Ln (L0 (Me 5) (L0 (mC (.ty "bool")) L7)))) (mB (m2 ltW (Me 5) (mC (.int 0)))))) (NH (mC (.bl false))) NG) (NJ (sIf (mB (m2 Mu (LY (arW 4 cL) (L0 (Me 0) (L0 (m2 Ka (m2 Ka (m3 slW (Me 1) ao (L9 (Me 4))) (mTl (LO (L0 (Me 5) L7)))) (m3 slW (Me 1) (L9 (m2 Ka (Me 4) (mC (.int 1)))) ao)) (L0 (Me 2) (L0 (m2 ixW (Me 3) (Me 4)) L7))))) (mC (.bl true)))) (NH (mC (.bl false))) NG) (NJ (sIf (mB (m2 Mu (LY (arW 4 cL) (L0 (Me 0) (L0 (m2 Ka (m2 Ka (m3 slW (Me 1) ao (L9 (Me 4))) (mTl (LO (L0 (m2 Ka (Me 5) (mC (.int 1))) L7)))) (m3 slW (Me 1) (L9 (m2 Ka (Me 4) (mC (.int 1)))) ao)) (L0 (Me 2) (L0 (m2 ixW (Me 3) (Me 4)) L7))))) (mC (.bl true)))) (NH (mC (.bl false))) NG) (NJ (sIf (mB (m2 eqW (Me 5) (mC (.int 0)))) (NH (mC (.bl true))) NG) (NH (m2 Ld (LY (arW 4 cL) (L0 (Me 0) (L0 (m2 Ka (m2 Ka (m3 slW (Me 1) ao (L9 (Me 4))) (mTl (LO (L0 (m2 Ov (Me 5) (mC (.int 1))) L7)))) (m3 slW (Me 1) (L9 (m2 Ka (Me 4) (mC (.int 1)))) ao)) (L0 (Me 2) (L0 (m2 ixW (Me 3) (Me 4)) L7))))) (mC (.bl false)))))))))
def eK:List W->M W:=Nt 6 eE
def sP:JR->M Fl:=(NJ (NK 1 (LY (arW 1 lf) (L0 (LY (arW 2 fZ) (L0 (Me 0) (L0 (mC (.int 5)) L7))) L7))) (NJ (NK 2 (LY (arW 1 iz) (L0 (Me 1) L7))) (NJ (NK 3 (LY (arW 3 dB) (L0 (Me 0) (L0 (mC (.int 8)) (L0 (Me 2) L7))))) (NJ (NK 4 (LY (arW 1 dW) (L0 (LY LP (L0 (m2 ixW (Me 1) (mC (.int 1))) L7)) L7))) (NJ (NF (Mc (L0 (LY LP (L0 (Me 2) L7)) L7) Np) (tgN 5) (NJ (NK 6 (m2 ixW (m2 ixW (m2 ixW (m2 ixW (Me 1) (mC (.int 1))) (m2 ixW (m2 ixW (Me 2) (Me 5)) (mC (.int 0)))) (mC (.int 2))) (mC (.int 0)))) (sIf (mOr (mB (m2 eqW (Me 6) (mC (.str "table")))) (mB (m2 inW (m2 ixW (m2 ixW (Me 2) (Me 5)) (mC (.int 2))) (mTl (LO (L0 (mC (.int 0)) (L0 (m2 ixW (m2 ixW (Me 2) (Me 5)) (mC (.int 0))) L7))))))) (sIf (mB (m2 Mv (LY (arW 3 fg) (L0 (Me 1) (L0 (mTl (LQ (L0 (Me 3) L7))) (L0 (m2 ixW (Me 2) (Me 5)) L7)))) (mC .non))) (NH (mC (.bl false))) NG) (sIf (L8 (mB (LY (arW 5 eK) (L0 (Me 1) (L0 (Me 3) (L0 (Me 4) (L0 (Me 2) (L0 (Me 5) L7)))))))) (NH (mC (.bl false))) NG)))) (NH (mC (.bl true))))))))
def pP:List W->M W:=Nt 7 sP
section
variable {P:Ib}{w:Ic}{K:PySem.W.Frag}{mg:Str->Option H0}{base:Ie}{f:Ig}{fd:Je}
end
end Q
namespace Q
open PySem L2
local macro_rules | `(tactic| simp! only [$xs,*]) => `(tactic| try simp only [KR,aQ,bG,bE,bJ,bH,bu,cz,cA,NF,L4,aw,sAug,sAugW,NE,OL,NH,NK,NG,sEx,sPass,bv,sCont,sUnp,aZ,mB,L2.m2,L2.m1,L2.m3,Me,mC,LY,L0,L7,Md,mTl,L6,LO,LQ,L9,ao,LV,mOr,L8,LX,mOrV,mNotV,mIf,aU,L5,isS,Mb,Mc,On,Oo,srcS,tgN,tgT,NX,Mh,aV,bd_no,asB_bl,addW_int,subW_int,ltW_int,leW_int,gtW_int,geW_int,eqW_int,eqW_str,neW_int,neW_str,neW_bl,slW_tl,slW_cl,lenW_tl,lenW_tup,Ms,List.set_cons_zero,List.set_cons_succ,List.getElem?_cons_zero,FG,Es,List.length_nil,arW,if_true,if_false,Ff,ite_true,ite_false,reduceIte,decide_true,decide_false,Fj,Bool.not_false,cy,gdn0,gdn1,gdn2,gdn3,gdn4,gdn5,gdn6,gdn7,gdn8,gdn9,gdn10,gdn11,gdn12,gdn13,gdn14,gdn15,gdn16,gdn17,gdn18,gdn19,gdn20,gdn21,gdn22,gdn23,gdn24,$xs,*])
local macro_rules | `(tactic| simp!) => `(tactic| simp! only [aa])
section
theorem sz {n:Nat}(h:n<=100000):n<=sizeLine:=EG h (by decide)
theorem sB (l:List W):LS (.tl l)=pr l:=rfl
theorem gP (l:List W):On (.tl l)=pr ⟨l,fun _=>True⟩:=rfl
theorem jj (l:List W):jk [.tl l]=pr (.tup l):=rfl
theorem f9 (a b:List W)(h:a.length+b.length<=sizeLine):Ka (.tl a) (.tl b)=pr (.tl (a++b)):=by
 show gd (a.length+b.length<=sizeLine) (pr (W.tl (a++b)))=_
 exact ag h
theorem cp18:JH 10 18:=⟨by decide,by decide,by decide⟩
theorem sC (l:List W):LP [.cl l]=pr (.int l.length):=rfl
noncomputable def Pd:Nat->W->Prop
 |0,_=>False
 |n+1,w=>(∃i,w=.int i)\/(∃z,w=.str z/\Jt.strOk z=true)\/ ∃l,(w=.tup l\/w=.tl l)/\l.length<=1000/\ ∀x∈l,Pd n x
theorem Pd.mono: ∀ {n:Nat}{w:W},Pd n w->Pd (n+1) w
 |n+1,w,p=>by
  rcases p with p|p|⟨l,e,z,p⟩
  ·exact .inl p
  ·exact .inr (.inl p)
  ·exact .inr (.inr ⟨l,e,z,fun x hx=>(p x hx).mono⟩)
theorem Pd.up {n m:Nat}{w:W}(p:Pd n w)(h:n<=m):Pd m w:=by
 induction m with
 |zero=>
  have:n=0:=by omega
  subst this;exact p
 |succ m ih=>
  by_cases e:n=m+1
  ·subst e;exact p
  ·exact (ih (by omega)).mono
theorem Pd.int {n:Nat}{i:Int}:Pd (n+1) (.int i):=.inl ⟨i,rfl⟩
theorem Pd.str {n:Nat}{i:Str}(h:Jt.strOk i=true):Pd (n+1) (.str i):=.inr (.inl ⟨i,rfl,h⟩)
theorem Pd.tup {n:Nat}{l:List W}(z:l.length<=1000)(p:∀x∈l,Pd n x):Pd (n+1) (.tup l):=.inr (.inr ⟨l,.inl rfl,z,p⟩)
theorem Pd.lst {n:Nat}{l:List W}(z:l.length<=1000)(p:∀x∈l,Pd n x):Pd (n+1) (.tl l):=.inr (.inr ⟨l,.inr rfl,z,p⟩)
theorem pd2i {a:Str}{i:Int}{n:Nat}(h:Jt.strOk a=true):Pd (n+2) (.tup [.str a,.int i]):=.tup (by simp) fun x hx=>by
 rcases En.mp hx with rfl|hx
 ·exact .str h
 ·rw[EC.mp hx];exact .int
theorem pd2s {a b:Str}{n:Nat}(h:Jt.strOk a=true)(h2:Jt.strOk b=true):Pd (n+2) (.tup [.str a,.str b]):=.tup (by simp) fun x hx=>by
 rcases En.mp hx with rfl|hx
 ·exact .str h
 ·rw[EC.mp hx];exact .str h2
theorem pdT {l:List W}{n:Nat}(z:l.length<=1000)(h:∀x∈l,Pd n x):Pd (n+1) (.tup l):=.tup z h
theorem aR {n:Nat}{w:W}{l:List W}(h:Pd n w)(r:∀x∈l,Pd n x): ∀x∈w::l,Pd n x:=fun x hx=>by
 rcases En.mp hx with rfl|hx
 ·exact h
 ·exact r x hx
theorem gB {n:Nat}: ∀x∈([]:List W),Pd n x:=fun x hx=>absurd hx EF
inductive E17
 |go (t:Int)
 |iff (s:Str)(a b:W)(x y:Int)
 |table (e:W)(ts:List Int)
 |stop
noncomputable def E17.w:E17->W
 |.go t=>.tup [.str "go",.int t]
 |.iff s a b x y=>.tup [.str "if",.str s,a,b,.int x,.int y]
 |.table e ts=>.tup [.str "table",e,.tup (ts.map W.int)]
 |.stop=>.tup [.str "stop"]
def E17.Good (m:Int):E17->Prop
 |.go t=>0<=t/\t<m
 |.iff s a b x y=>(0<=x/\x<m)/\(0<=y/\y<m)/\Pd 8 a/\Pd 8 b/\Jt.strOk s=true
 |.table e ts=>ts.length<=6/\(∀t∈ts,0<=t/\t<m)/\Pd 8 e
 |.stop=>True
theorem Bo:Jt.strOk "box"=true:=by decide+kernel
theorem uk:Jt.strOk "number"=true:=by decide+kernel
end
section
open Wd
theorem rZ:(" ":Str)=⟨#[32]⟩:=by decide+kernel
theorem wr:("\n":Str)=⟨#[10]⟩:=by decide+kernel
structure Cln (z:Str):Prop where
 sp:32 ∉ z.cps.toList
 nl:10 ∉ z.cps.toList
 len:z.length<=60
noncomputable def Ko (z:Str):Bool:=decide (32 ∉ z.cps.toList) && (decide (10 ∉ z.cps.toList) && decide (z.length<=60))
theorem Cln.of {z:Str}(h:Ko z=true):Cln z:=by
 unfold Ko at h
 simp only[ES,decide_eq_true_eq] at h
 exact⟨h.1,h.2.1,h.2.2⟩
theorem bW {z:Str}(h:aK z=true):Cln z:=by
 unfold aK at h
 simp only[ES,decide_eq_true_eq,Fk] at h
 have q: ∀c∈z.cps.toList,97<=c:=fun c hc=>(Lj.mp (h.2.1 c hc)).1
 exact⟨fun z=>absurd (q _ z) (by decide),fun z=>absurd (q _ z) (by decide),by omega⟩
theorem sy {z:Str}(h:Mw z=true):Cln z:=by
 unfold Mw at h
 simp only[ES,decide_eq_true_eq,Fk] at h
 have q: ∀c∈z.cps.toList,48<=c:=fun c hc=>(Lg.mp (h.2.2 c hc)).1
 exact⟨fun z=>absurd (q _ z) (by decide),fun z=>absurd (q _ z) (by decide),by omega⟩
noncomputable def KH:Exp->List Str
 |.num _=>[]
 |.box x=>[x]
 |.bin _ l r=>KH l++KH r
noncomputable def KI:Exp->Bool
 |.num _=>true
 |.box _=>true
 |.bin s l r=>decide (s∈(["+", "-", "*"]:List Str)) && (KI l && KI r)
noncomputable def KG:Exp->Nat
 |.num _=>0
 |.box _=>0
 |.bin _ l r=>1+max (KG l) (KG r)
structure Wrd (z:Str)(e:Exp):Prop where
 ex:KL z=some e
 c:Cln z
 ok:KI e=true
 dp:KG e<=60
 nm:(KH e).length<=60
theorem N8:(decide (("+":Str)= "number")=false/\decide (("+":Str)= "box")=false)/\(decide (("-":Str)= "number")=false/\decide (("-":Str)= "box")=false)/\decide (("*":Str)= "number")=false/\decide (("*":Str)= "box")=false:=by decide+kernel
theorem Bp:decide (("box":Str)= "number")=false:=by decide+kernel
theorem AC {s:Str}(h:s∈(["+", "-", "*"]:List Str)):decide (s= "number")=false/\decide (s= "box")=false:=by
 simp only[En,EF,or_false] at h
 rcases h with rfl|rfl|rfl
 ·exact N8.1
 ·exact N8.2.1
 ·exact N8.2.2
theorem kM: ∀ (n:Nat) (e:Exp),KG e<n->(KH e).length<=1000->KI e=true->aM n [KJ e]=pr (.tl ((KH e).map W.str))
 |0,e,h,_,_=>absurd h (Nat.not_lt_zero _)
 |n+1,.num i,_,_,_=>by
  have e0:aM (n+1) [KJ (.num i)]=bd (cH (aM n) [some (.tup [.str "number",.int i])]) KR:=rfl
  rw[e0]
  unfold cH
  simp! only[aa,ix0]
  rfl
 |n+1,.box x,_,_,_=>by
  have e0:aM (n+1) [KJ (.box x)]=bd (cH (aM n) [some (.tup [.str "box",.str x])]) KR:=rfl
  rw[e0]
  unfold cH
  simp! only[aa,ix0,ix1,Bp]
  rfl
 |n+1,.bin s l r,h,z,k=>by
  have h:1+max (KG l) (KG r)<n+1:=h
  have z:(KH l++KH r).length<=1000:=z
  have k:(decide (s∈(["+", "-", "*"]:List Str)) && (KI l && KI r))=true:=k
  rw[Ep] at z
  rw[ES,ES,decide_eq_true_eq] at k
  have e0:aM (n+1) [KJ (.bin s l r)]=bd (cH (aM n) [some (.tup [.str s,KJ l,KJ r])]) KR:=rfl
  rw[e0]
  unfold cH
  have h1:=kM n l (by omega) (by omega) k.2.1
  have h2:=kM n r (by omega) (by omega) k.2.2
  have sn:=AC k.1
  have ad:=f9 ((KH l).map W.str) ((KH r).map W.str) (by rw[El,El];exact sz (by omega))
  simp! only[aa,ix0,ix1,ix2,sn.1,sn.2,h1,h2,ad]
  show pr _=pr (W.tl ((KH l++KH r).map W.str))
  rw[Et]
inductive Rr
 |box (nm v:Str)
 |block (nm:Str)
 |put (nm z:Str)(e:Exp)
 |say (z:Str)(e:Exp)
 |ask (nm:Str)
 |go (nm:Str)
 |iff (s z1:Str)(e1:Exp)(z2:Str)(e2:Exp)(x y:Str)
 |table (z:Str)(e:Exp)(xs:List Str)
 |stop
def Rr.ws:Rr->List Str
 |.box nm v=>["box",nm,v]
 |.block nm=>["block",nm]
 |.put nm z _=>["put",nm,z]
 |.say z _=>["say",z]
 |.ask nm=>["ask",nm]
 |.go nm=>["go",nm]
 |.iff s z1 _ z2 _ x y=>["if",z1,s,z2,x, "else",y]
 |.table z _ xs=> "table"::z::xs
 |.stop=>["stop"]
def Rr.tx (r:Rr):Str:=Str.join ⟨#[32]⟩ r.ws
def Rr.form:Rr->W
 |.box nm v=>.tup [.str "box",.str nm,.int (dk v)]
 |.block nm=>.tup [.str "block",.str nm]
 |.put nm _ e=>.tup [.str "put",.str nm,KJ e]
 |.say _ e=>.tup [.str "say",KJ e]
 |.ask nm=>.tup [.str "ask",.str nm]
 |.go nm=>.tup [.str "go",.str nm]
 |.iff s _ e1 _ e2 x y=>.tup [.str "if",.str s,KJ e1,KJ e2,.str x,.str y]
 |.table _ e xs=>.tup [.str "table",KJ e,.tup (xs.map W.str)]
 |.stop=>.tup [.str "stop"]
def Rr.Ok:Rr->Prop
 |.box nm v=>aK nm=true/\Mw v=true
 |.block nm=>aK nm=true
 |.put nm z e=>aK nm=true/\Wrd z e
 |.say z e=>Wrd z e
 |.ask nm=>aK nm=true
 |.go nm=>aK nm=true
 |.iff s z1 e1 z2 e2 x y=>(s= "<"\/s= "=")/\Wrd z1 e1/\Wrd z2 e2/\aK x=true/\aK y=true
 |.table z e xs=>Wrd z e/\xs≠ []/\xs.length<=6/\ ∀x∈xs,aK x=true
 |.stop=>True
theorem DX:Cln "box"/\Cln "block"/\Cln "put"/\Cln "say"/\Cln "ask"/\Cln "go"/\Cln "if"/\Cln "else"/\Cln "table"/\Cln "stop"/\Cln "<"/\Cln "=":=⟨.of (by decide+kernel),.of (by decide+kernel),.of (by decide+kernel),.of (by decide+kernel),.of (by decide+kernel),.of (by decide+kernel),.of (by decide+kernel),.of (by decide+kernel),.of (by decide+kernel),.of (by decide+kernel),.of (by decide+kernel),.of (by decide+kernel)⟩
theorem eO: ∀z∈([]:List Str),Cln z:=fun z h=>absurd h EF
theorem aE {z:Str}{l:List Str}(h:Cln z)(t:∀z∈l,Cln z): ∀y∈z::l,Cln y:=fun y hy=>by
 rcases En.mp hy with rfl|hy
 ·exact h
 ·exact t y hy
theorem Rr.Ok.cln {r:Rr}(g:r.Ok):(∀z∈r.ws,Cln z)/\r.ws≠ []/\r.ws.length<=8:=by
 obtain⟨k1,k2,k3,k4,k5,k6,k7,k8,k9,k10,k11,k12⟩:=DX
 cases r with
 |box nm v=>exact⟨aE k1 (aE (bW g.1) (aE (sy g.2) eO)),by simp [ws],by simp [ws]⟩
 |block nm=>exact⟨aE k2 (aE (bW g) eO),by simp [ws],by simp [ws]⟩
 |put nm z e=>exact⟨aE k3 (aE (bW g.1) (aE g.2.c eO)),by simp [ws],by simp [ws]⟩
 |say z e=>exact⟨aE k4 (aE g.c eO),by simp [ws],by simp [ws]⟩
 |ask nm=>exact⟨aE k5 (aE (bW g) eO),by simp [ws],by simp [ws]⟩
 |go nm=>exact⟨aE k6 (aE (bW g) eO),by simp [ws],by simp [ws]⟩
 |iff s z1 e1 z2 e2 x y=>
  have hs:Cln s:=by rcases g.1 with rfl|rfl;exact k11;exact k12
  exact⟨aE k7 (aE g.2.1.c (aE hs (aE g.2.2.1.c (aE (bW g.2.2.2.1) (aE k8 (aE (bW g.2.2.2.2) eO)))))),by simp [ws],by simp [ws]⟩
 |table z e xs=>exact⟨aE k9 (aE g.1.c fun x hx=>bW (g.2.2.2 x hx)),by simp [ws],by have:=g.2.2.1;simp [ws];omega⟩
 |stop=>exact⟨aE k10 eO,by simp [ws],by simp [ws]⟩
theorem sG {c:Nat}{n:Nat}: ∀ {l:List Str},(∀z∈l,z.length<=n)->(Str.join ⟨#[c]⟩ l).length<=(n+1) * l.length:=fun{l} h=>by
 refine EG (StrLaws.join_length_le _ l) ?_
 have:(l.map (·.length)).sum<=n * l.length:=by
  induction l with
  |nil=>simp
  |cons z l ih=>
   have a:=h z Eo
   have b:=ih fun z hz=>h z (EA _ hz)
   rw[Er,Fe,Es,Hj]
   omega
 rw[Nat.add_mul,show (⟨#[c]⟩:Str).length=1 from rfl,Nat.mul_one,Nat.one_mul]
 omega
theorem Rr.Ok.len {r:Rr}(g:r.Ok):r.tx.length<=600:=by
 have a:=sG (c:=32) (n:=60) fun z hz=>(g.cln.1 z hz).len
 have b:=g.cln.2.2
 unfold Rr.tx
 omega
theorem yf {r:Rr}(g:r.Ok):Ol (.str r.tx) [.str " "]=pr (.tl (r.ws.map W.str)):=by
 rw[rZ]
 exact oG g.cln.2.1 (fun z hz=>(g.cln.1 z hz).sp) (sz (by have:=g.len;unfold Rr.tx at this;omega)) (sz (by have:=g.cln.2.2;omega))
theorem zy {l:List Str}(h:∀z∈l,10 ∉ z.cps.toList):10 ∉ (Str.join ⟨#[32]⟩ l).cps.toList:=by
 induction l with
 |nil=>exact fun z=>by cases z
 |cons x l ih=>
  cases l with
  |nil=>exact h x Eo
  |cons y l=>
   rw[eY,E6,En,not_or,not_or]
   exact⟨h x Eo,by decide,ih fun z hz=>h z (EA _ hz)⟩
theorem Rr.Ok.nl {r:Rr}(g:r.Ok):10 ∉ r.tx.cps.toList:=zy fun z hz=>(g.cln.1 z hz).nl
theorem uJ {z:Str}(h:aK z=true):j2 [.str z]=pr (.bl true):=by
 show gd (z.length<=sizeLine) (pr (W.bl (aK z)))=_
 rw[ag (sz (by have:=(bW h).len;omega)),h]
theorem wY {z:Str}(h:Mw z=true):nQ [.str z]=pr (.bl true):=by
 show gd (z.length<=sizeLine) (pr (W.bl (Mw z)))=_
 rw[ag (sz (by have:=(sy h).len;omega)),h]
theorem i7 {z:Str}{e:Exp}(h:Wrd z e):gK [.str z]=pr (KJ e):=by
 show gd (z.length<=sizeLine) (match KL z with
  |some e=>pr (KJ e)
  |none=>no)=_
 rw[ag (sz (by have:=h.c.len;omega)),h.ex]
theorem cD {z:Str}(h:aK z=true):bM [.str z]=pr (.str z):=by
 have e0:bM [.str z]=bd (gY [some (.str z)]) KR:=rfl
 rw[e0]
 unfold gY
 simp! only[aa,uJ h]
theorem zB {z:Str}(h:Mw z=true):K9 [.str z]=pr (.int (dk z)):=by
 have a:=o7 h
 show (match PySem.intText? z with
  |some n=>gd (z.length<=640) (pr (W.int n))
  |none=>no)=_
 rw[a.1]
 exact ag a.2
theorem nv {z:Str}(h:Mw z=true):eJ [.str z]=pr (.int (dk z)):=by
 have e0:eJ [.str z]=bd (eD [some (.str z)]) KR:=rfl
 rw[e0]
 unfold eD
 simp! only[aa,wY h,zB h]
theorem tx0 (a:W)(l:List W):ixW (.tl (a::l)) (.int 0)=pr a:=bP (aO (by decide) rfl)
theorem tx1 (a b:W)(l:List W):ixW (.tl (a::b::l)) (.int 1)=pr b:=bP (aO (by decide) rfl)
theorem tx2 (a b c:W)(l:List W):ixW (.tl (a::b::c::l)) (.int 2)=pr c:=bP (aO (by decide) rfl)
theorem tx3 (a b c d:W)(l:List W):ixW (.tl (a::b::c::d::l)) (.int 3)=pr d:=bP (aO (by decide) rfl)
theorem tx4 (a b c d e:W)(l:List W):ixW (.tl (a::b::c::d::e::l)) (.int 4)=pr e:=bP (aO (by decide) rfl)
theorem tx5 (a b c d e f:W)(l:List W):ixW (.tl (a::b::c::d::e::f::l)) (.int 5)=pr f:=bP (aO (by decide) rfl)
theorem tx6 (a b c d e f g:W)(l:List W):ixW (.tl (a::b::c::d::e::f::g::l)) (.int 6)=pr g:=bP (aO (by decide) rfl)
theorem sN {x:Str}{ss:List Str}{h:List Ob}:inB (.str x) (.tup (ss.map W.str)) h=some (decide (x∈ss)):=by
 show (match vOf (.str x),OU (ss.map W.str) with
  |some v,some vs=>some (inV v vs)
  |_,_=>none)=_
 rw[dY (k:=V.str) (fun a=>rfl)]
 show some (inV (.str x) (ss.map V.str))=_
 rw[i4]
theorem jB {x:Str}{ss:List Str}:inW (.str x) (.tup (ss.map W.str))=pr (.bl (decide (x∈ss))):=by
 funext h
 unfold inW
 rw[sN];rfl
theorem um {x:Str}{ss:List Str}:cx (.str x) (.tup (ss.map W.str))=pr (.bl (!decide (x∈ss))):=by
 funext h
 unfold cx
 rw[sN];rfl
theorem wq {s:Str}(h:s= "<"\/s= "="):cx (.str s) (.tup ((["<", "="]:List Str).map W.str))=pr (.bl false):=by
 rw[um,decide_eq_true (by simpa using h)];rfl
theorem hds:(decide (("box":Str)= "block")=false/\decide (("box":Str)= "put")=false/\decide (("box":Str)= "say")=false/\decide (("box":Str)= "ask")=false/\decide (("box":Str)= "go")=false/\decide (("box":Str)= "if")=false/\decide (("box":Str)= "table")=false/\decide (("box":Str)= "stop")=false)/\(decide (("block":Str)= "box")=false/\decide (("block":Str)= "put")=false/\decide (("block":Str)= "say")=false/\decide (("block":Str)= "ask")=false/\decide (("block":Str)= "go")=false/\decide (("block":Str)= "if")=false/\decide (("block":Str)= "table")=false/\decide (("block":Str)= "stop")=false)/\(decide (("put":Str)= "box")=false/\decide (("put":Str)= "block")=false/\decide (("put":Str)= "say")=false/\decide (("put":Str)= "ask")=false/\decide (("put":Str)= "go")=false/\decide (("put":Str)= "if")=false/\decide (("put":Str)= "table")=false/\decide (("put":Str)= "stop")=false)/\(decide (("say":Str)= "box")=false/\decide (("say":Str)= "block")=false/\decide (("say":Str)= "put")=false/\decide (("say":Str)= "ask")=false/\decide (("say":Str)= "go")=false/\decide (("say":Str)= "if")=false/\decide (("say":Str)= "table")=false/\decide (("say":Str)= "stop")=false)/\(decide (("ask":Str)= "box")=false/\decide (("ask":Str)= "block")=false/\decide (("ask":Str)= "put")=false/\decide (("ask":Str)= "say")=false/\decide (("ask":Str)= "go")=false/\decide (("ask":Str)= "if")=false/\decide (("ask":Str)= "table")=false/\decide (("ask":Str)= "stop")=false)/\(decide (("go":Str)= "box")=false/\decide (("go":Str)= "block")=false/\decide (("go":Str)= "put")=false/\decide (("go":Str)= "say")=false/\decide (("go":Str)= "ask")=false/\decide (("go":Str)= "if")=false/\decide (("go":Str)= "table")=false/\decide (("go":Str)= "stop")=false)/\(decide (("if":Str)= "box")=false/\decide (("if":Str)= "block")=false/\decide (("if":Str)= "put")=false/\decide (("if":Str)= "say")=false/\decide (("if":Str)= "ask")=false/\decide (("if":Str)= "go")=false/\decide (("if":Str)= "table")=false/\decide (("if":Str)= "stop")=false)/\(decide (("table":Str)= "box")=false/\decide (("table":Str)= "block")=false/\decide (("table":Str)= "put")=false/\decide (("table":Str)= "say")=false/\decide (("table":Str)= "ask")=false/\decide (("table":Str)= "go")=false/\decide (("table":Str)= "if")=false/\decide (("table":Str)= "stop")=false)/\(decide (("stop":Str)= "box")=false/\decide (("stop":Str)= "block")=false/\decide (("stop":Str)= "put")=false/\decide (("stop":Str)= "say")=false/\decide (("stop":Str)= "ask")=false/\decide (("stop":Str)= "go")=false/\decide (("stop":Str)= "if")=false/\decide (("stop":Str)= "table")=false):=⟨by decide+kernel,by decide+kernel,by decide+kernel,by decide+kernel,by decide+kernel,by decide+kernel,by decide+kernel,by decide+kernel,by decide+kernel⟩
theorem jG:(decide (((0+1:Nat):Int)=1)=true/\decide (((0+1:Nat):Int)=2)=false/\decide (((0+1:Nat):Int)=3)=false)/\(decide (((0+1+1:Nat):Int)=2)=true/\decide (((0+1+1:Nat):Int)=3)=false)/\decide (((0+1+1+1:Nat):Int)=3)=true/\decide (((0+1+1+1+1+1+1+1:Nat):Int)=7)=true:=by decide
theorem zP {s z1 z2 x y:Str}{e1 e2:Exp}(g:(Rr.iff s z1 e1 z2 e2 x y).Ok):df [.tl ((Rr.iff s z1 e1 z2 e2 x y).ws.map W.str)]=pr (Rr.iff s z1 e1 z2 e2 x y).form:=by
 obtain⟨g1,g2,g3,g4,g5⟩:=g
 have e0:df [.tl ((Rr.iff s z1 e1 z2 e2 x y).ws.map W.str)]=bd (db [some (.tl [.str "if",.str z1,.str s,.str z2,.str x,.str "else",.str y]),none,none,none]) KR:=rfl
 rw[e0]
 unfold db
 simp! only[aa,tx1,tx2,tx3,tx4,tx5,tx6,wq g1,i7 g2,i7 g3,cD g4,cD g5]
 rfl
theorem qY {xs:List Str}{ρ:JR}(h:∀x∈xs,aK x=true):Ks (fun _=>True) (tgN 0) Mh (LY (arW 1 bM) (L0 (Me 0) L7)) 2 (xs.map W.str) ρ=pr (xs.map W.str):=by
 have:=pW (t:=tgN 0) (f:=Mh) (e:=LY (arW 1 bM) (L0 (Me 0) L7)) (n:=2) (ρ:=ρ) (b:=fun _=>true) (v:=id) (l:=xs.map W.str) fun w hw=>by
  obtain⟨x,hx,rfl⟩:=EB.mp hw
  refine⟨_,rfl,rfl,fun _=>?_⟩
  simp! only[List.replicate,E9,Fd,aa,cD (h x hx),id]
 rw[this,List.map_id,Hk.mpr fun _ _=>rfl]
theorem zG {r:Rr}(g:r.Ok):g8 [.str r.tx]=pr r.form:=by
 have e0:g8 [.str r.tx]=bd (g0 [some (.str r.tx),none,none,none]) KR:=rfl
 rw[e0]
 unfold g0
 have sp:=yf g
 cases r with
 |box nm v=>
  generalize (Rr.box nm v).tx=T at *
  simp! only[aa,sp,Rr.ws,Er,EV,tx0,tx1,tx2,cD g.1,nv g.2,eq_self,decide_true,jG]
  rfl
 |block nm=>
  generalize (Rr.block nm).tx=T at *
  simp! only[aa,sp,Rr.ws,Er,EV,tx0,tx1,tx2,hds,cD g,eq_self,decide_true,jG]
  rfl
 |put nm z e=>
  generalize (Rr.put nm z e).tx=T at *
  simp! only[aa,sp,Rr.ws,Er,EV,tx0,tx1,tx2,hds,cD g.1,i7 g.2,eq_self,decide_true,jG]
  rfl
 |say z e=>
  generalize (Rr.say z e).tx=T at *
  simp! only[aa,sp,Rr.ws,Er,EV,tx0,tx1,tx2,hds,i7 g,eq_self,decide_true,jG]
  rfl
 |ask nm=>
  generalize (Rr.ask nm).tx=T at *
  simp! only[aa,sp,Rr.ws,Er,EV,tx0,tx1,tx2,hds,cD g,eq_self,decide_true,jG]
  rfl
 |go nm=>
  generalize (Rr.go nm).tx=T at *
  simp! only[aa,sp,Rr.ws,Er,EV,tx0,tx1,tx2,hds,cD g,eq_self,decide_true,jG]
  rfl
 |iff s z1 e1 z2 e2 x y=>
  have ce:=zP g
  generalize (Rr.iff s z1 e1 z2 e2 x y).tx=T at *
  generalize (Rr.iff s z1 e1 z2 e2 x y).form=F at *
  simp only[Rr.ws,Er,EV] at sp ce
  simp! only[aa,sp,tx0,tx1,tx2,hds,eq_self,decide_true,jG,ce]
 |table z e xs=>
  obtain⟨g1,g2,g3,g4⟩:=g
  generalize (Rr.table z e xs).tx=T at *
  simp only[Rr.ws,Er] at sp
  have cu:Kv (W.str "table"::W.str z::xs.map W.str) (some 2) none=xs.map W.str:=by
   unfold Kv
   show List.take _ (xs.map W.str)=_
   rw[Go]
   show _<=(xs.map W.str).length+1+1 - 2
   omega
  have l0:0<xs.length:=He.mpr g2
  have gl: ∀ {α:Type} (q:M α),gd ((xs.map W.str).length<=sizeLine) q=q:=fun q=>ag (by rw[El];exact sz (by omega))
  have c1:decide ((3:Int)<=(((xs.map W.str).length+1+1:Nat):Int))=true:=decide_eq_true (by rw[El];omega)
  have c2:decide ((((xs.map W.str).length+1+1:Nat):Int)<=2+6)=true:=decide_eq_true (by rw[El];omega)
  have nc: ∀ρ,_:=fun ρ=>qY (ρ:=ρ) g4
  simp! only[aa,sp,tx0,tx1,hds,eq_self,decide_true,c1,c2,i7 g1,cu,aw,gP,gl,nc,jj]
  rfl
 |stop=>
  generalize Rr.stop.tx=T at *
  simp! only[aa,sp,Rr.ws,Er,EV,tx0,hds,eq_self,decide_true,jG]
  rfl
end
section
open Wd
noncomputable def KW:List Str:=["boxes", "block_names", "ended_blocks", "statements"]
theorem fne:(((("block_names":Str)= "boxes")=False)/\((("ended_blocks":Str)= "boxes")=False)/\((("statements":Str)= "boxes")=False)/\((("ended_blocks":Str)= "block_names")=False)/\((("statements":Str)= "block_names")=False)/\((("statements":Str)= "ended_blocks")=False))/\(((("boxes":Str)= "statements")=False)/\((("block_names":Str)= "statements")=False)/\((("ended_blocks":Str)= "statements")=False))/\((("boxes":Str)= "block_names")=False)/\((("boxes":Str)= "ended_blocks")=False)/\((("block_names":Str)= "ended_blocks")=False):=
 ⟨⟨eq_false (by decide+kernel),eq_false (by decide+kernel),eq_false (by decide+kernel),eq_false (by decide+kernel),eq_false (by decide+kernel),eq_false (by decide+kernel)⟩,⟨eq_false (by decide+kernel),eq_false (by decide+kernel),eq_false (by decide+kernel)⟩,eq_false (by decide+kernel),eq_false (by decide+kernel),eq_false (by decide+kernel)⟩
theorem zq (a b c d:W):LR KW [a,b,c,d] "boxes"=some a:=by simp only[KW,LR,if_true]
theorem pz (a b c d:W):LR KW [a,b,c,d] "block_names"=some b:=by simp only[KW,LR,fne,if_true,if_false]
theorem B8 (a b c d:W):LR KW [a,b,c,d] "ended_blocks"=some c:=by simp only[KW,LR,fne,if_true,if_false]
theorem B7 (a b c d:W):LR KW [a,b,c,d] "statements"=some d:=by simp only[KW,LR,fne,if_true,if_false]
theorem D8 (a b c d y:W):putN KW [a,b,c,d] "statements" y=(KW,[a,b,c,y]):=by simp only[KW,putN,fne,if_true,if_false]
theorem Mn:("in_block":Str) ∉ KW/\("box_names":Str) ∉ KW/\("check_place":Str) ∉ KW/\("check_twice":Str) ∉ KW/\("check_room":Str) ∉ KW/\("check_boxes":Str) ∉ KW/\("put_down":Str) ∉ KW/\("take":Str) ∉ KW/\("told_program":Str) ∉ KW:=by decide+kernel
structure RS where
 bx:List (Str×Int)
 nm:List Str
 dn:List (Str×List W×Rr)
 st:List W
noncomputable def bqW (b:Str×Int):W:=.tup [.str b.1,.int b.2]
def dnW (b:Str×List W×Rr):W:=.tup [.str b.1,.tl b.2.1,b.2.2.form]
structure J3 (h:List Ob)(o jb jn je js:Nat)(s:RS):Prop where
 ob:h[o]?=some (.ins "Reading" KW [.loc jb,.loc jn,.loc je,.loc js])
 b:h[jb]?=some (.lst (s.bx.map bqW))
 n:h[jn]?=some (.lst (s.nm.map W.str))
 e:h[je]?=some (.lst (s.dn.map dnW))
 st:s.dn.length<s.nm.length->h[js]?=some (.lst s.st)
 ne:o<jb/\jb<jn/\jn<je/\je<js
 z:s.bx.length<=4/\s.nm.length<=10/\s.dn.length<=s.nm.length/\s.st.length<=8/\s.nm.length<=s.dn.length+1
section
variable {h:List Ob}{o jb jn je js:Nat}{s:RS}
theorem kX (A:J3 h o jb jn je js s):Ok (bb [.loc o]) h fun w h'=>w=.bl (decide (s.dn.length<s.nm.length))/\h'=h:=by
 have e0:bb [.loc o]=bd (ci [some (.loc o)]) KR:=rfl
 rw[e0]
 unfold ci
 simp!
 refine cq A.ob (pz ..) ?_
 simp!
 refine (Lw.len (.inr ⟨jn,rfl,A.n⟩)) ?_
 simp!
 refine cq A.ob (B8 ..) ?_
 simp!
 refine (Lw.len (.inr ⟨je,rfl,A.e⟩)) ?_
 simp!
 refine ah ⟨?_,rfl⟩
 rw[El,El]
 congr 1
 rw[decide_eq_decide]
 omega
theorem mz (A:J3 h o jb jn je js s):Ok (br [.loc o]) h fun w h'=>w=.tl ((s.bx.map (·.1)).map W.str)/\h'=h:=by
 have e0:br [.loc o]=bd (bU [some (.loc o)]) KR:=rfl
 rw[e0]
 unfold bU
 simp!
 refine cq A.ob (zq ..) ?_
 refine qW A.b ?_
 have gl: ∀ {α:Type} (q:M α),gd ((s.bx.map bqW).length<=sizeLine) q=q:=fun q=>ag (by rw[El];exact sz (by have:=A.z.1;omega))
 simp! only[aa,gl]
 refine gS (I:=fun i a h'=>h'=h/\a=((s.bx.take i).map (·.1)).map W.str) ⟨rfl,rfl⟩ jf (fun _ _ _ I=>by rw[I.1];exact A.b) (fun i w a h' hw I=>?_) fun a h' I=>?_
 ·obtain⟨rfl,rfl⟩:=I
  rw[ED] at hw
  obtain⟨b,hb,rfl⟩:=EH.mp hw
  refine⟨_,rfl,?_⟩
  simp! only[List.replicate,E9,Fd,aa]
  refine ah ⟨rfl,?_⟩
  rw[Ft,hb,Et,Et];rfl
 ·obtain⟨rfl,rfl⟩:=I
  rw[El,EN]
  simp!
  exact ah ⟨rfl,rfl⟩
theorem AR (A:J3 h o jb jn je js s)(p:s.nm=[]):Ok (av [.loc o,.str "box"]) h fun _ h'=>h'=h:=by
 have e0:av [.loc o,.str "box"]=bd (aB [some (.loc o),some (.str "box")]) KR:=rfl
 rw[e0]
 unfold aB
 simp!
 refine cq A.ob (pz ..) ?_
 simp!
 refine (Lw.len (.inr ⟨jn,rfl,A.n⟩)) ?_
 have:decide ((0:Int)<(((s.nm.map W.str).length:Nat):Int))=false:=by rw[p];rfl
 simp! only[aa,this]
 exact ah rfl
theorem vR (A:J3 h o jb jn je js s)(p:s.dn.length=s.nm.length):Ok (av [.loc o,.str "block"]) h fun _ h'=>h'=h:=by
 have e0:av [.loc o,.str "block"]=bd (aB [some (.loc o),some (.str "block")]) KR:=rfl
 rw[e0]
 unfold aB
 simp! only[aa,hds]
 refine dL A.ob Mn.1 ?_
 simp!
 refine aD (kX A) fun w h' qq_=>?_
 obtain⟨ew,eh⟩:=qq_
 subst ew eh
 simp! only[aa,decide_eq_false (show¬s.dn.length<s.nm.length by omega)]
 exact ah rfl
theorem C1 {z:Str}(A:J3 h o jb jn je js s)(n1:decide (z= "box")=false)(n2:decide (z= "block")=false)(p:s.dn.length<s.nm.length):Ok (av [.loc o,.str z]) h fun _ h'=>h'=h:=by
 have e0:av [.loc o,.str z]=bd (aB [some (.loc o),some (.str z)]) KR:=rfl
 rw[e0]
 unfold aB
 simp! only[aa,n1,n2]
 refine dL A.ob Mn.1 ?_
 simp!
 refine aD (kX A) fun w h' qq_=>?_
 obtain⟨ew,eh⟩:=qq_
 subst ew eh
 simp! only[aa,decide_eq_true p]
 exact ah rfl
theorem Ap {nm:Str}{w:W}(A:J3 h o jb jn je js s)(p:nm ∉ s.bx.map (·.1)):Ok (au [.loc o,.tup [.str "box",.str nm,w]]) h fun _ h'=>h'=h:=by
 have e0:au [.loc o,.tup [.str "box",.str nm,w]]=bd (aA [some (.loc o),some (.tup [.str "box",.str nm,w])]) KR:=rfl
 rw[e0]
 unfold aA
 simp! only[aa,ix0,ix1]
 refine dL A.ob Mn.2.1 ?_
 simp!
 refine aD (mz A) fun w h' qq_=>?_
 obtain⟨ew,eh⟩:=qq_
 subst ew eh
 simp! only[aa,sM,decide_eq_false p,hds]
 exact ah rfl
theorem vd {nm:Str}(A:J3 h o jb jn je js s)(p:nm ∉ s.nm):Ok (au [.loc o,.tup [.str "block",.str nm]]) h fun _ h'=>h'=h:=by
 have e0:au [.loc o,.tup [.str "block",.str nm]]=bd (aA [some (.loc o),some (.tup [.str "block",.str nm])]) KR:=rfl
 rw[e0]
 unfold aA
 simp! only[aa,ix0,ix1,hds]
 refine cq A.ob (pz ..) ?_
 simp!
 refine Dg A.n ?_
 simp! only[aa,decide_eq_false p]
 exact ah rfl
theorem CP {z:Str}{l:List W}(n1:decide (z= "box")=false)(n2:decide (z= "block")=false):Ok (au [.loc o,.tup (.str z::l)]) h fun _ h'=>h'=h:=by
 have e0:au [.loc o,.tup (.str z::l)]=bd (aA [some (.loc o),some (.tup (.str z::l))]) KR:=rfl
 rw[e0]
 unfold aA
 simp! only[aa,ix0,n1,n2]
 exact ah rfl
theorem Os:decide (("box":Str)∈(["put", "say", "ask"]:List Str))=false/\decide (("block":Str)∈(["put", "say", "ask"]:List Str))=false:=by decide+kernel
theorem AK (A:J3 h o jb jn je js s)(p:s.bx.length<4):Ok (ay [.loc o,.str "box"]) h fun _ h'=>h'=h:=by
 have e0:ay [.loc o,.str "box"]=bd (aC [some (.loc o),some (.str "box")]) KR:=rfl
 rw[e0]
 unfold aC
 simp!
 refine cq A.ob (zq ..) ?_
 simp!
 refine (Lw.len (.inr ⟨jb,rfl,A.b⟩)) ?_
 have:decide ((((s.bx.map bqW).length:Nat):Int)=4)=false:=decide_eq_false (by rw[El];omega)
 simp! only[aa,this,hds,jB,Os.1]
 exact ah rfl
theorem vL (A:J3 h o jb jn je js s)(p:s.nm.length<10):Ok (ay [.loc o,.str "block"]) h fun _ h'=>h'=h:=by
 have e0:ay [.loc o,.str "block"]=bd (aC [some (.loc o),some (.str "block")]) KR:=rfl
 rw[e0]
 unfold aC
 simp! only[aa,hds]
 refine cq A.ob (pz ..) ?_
 simp!
 refine (Lw.len (.inr ⟨jn,rfl,A.n⟩)) ?_
 have:decide ((((s.nm.map W.str).length:Nat):Int)=10)=false:=decide_eq_false (by rw[El];omega)
 simp! only[aa,this,hds,jB,Os.2]
 exact ah rfl
theorem CZ {z:Str}(A:J3 h o jb jn je js s)(n1:decide (z= "box")=false)(n2:decide (z= "block")=false)(p:s.dn.length<s.nm.length)(q:z∈(["put", "say", "ask"]:List Str)->s.st.length<8):Ok (ay [.loc o,.str z]) h fun _ h'=>h'=h:=by
 have e0:ay [.loc o,.str z]=bd (aC [some (.loc o),some (.str z)]) KR:=rfl
 rw[e0]
 unfold aC
 by_cases c:z∈(["put", "say", "ask"]:List Str)
 ·simp! only[aa,n1,n2,jB,decide_eq_true c]
  refine cq A.ob (B7 ..) ?_
  simp!
  refine (Lw.len (.inr ⟨js,rfl,A.st p⟩)) ?_
  have q:=q c
  have:decide (((s.st.length:Nat):Int)=8)=false:=decide_eq_false (by omega)
  simp! only[aa,this]
  exact ah rfl
 ·simp! only[aa,n1,n2,jB,decide_eq_false c]
  exact ah rfl
def Rr.bxs:Rr->List Str
 |.put nm _ e=>nm::KH e
 |.say _ e=>KH e
 |.ask nm=>[nm]
 |.iff _ _ e1 _ e2 _ _=>KH e1++KH e2
 |.table _ e _=>KH e
 |_=>[]
theorem iT {z:Str}{e:Exp}(h:Wrd z e):aM 62 [KJ e]=pr (.tl ((KH e).map W.str)):=kM 62 e (by have:=h.dp;omega) (by have:=h.nm;omega) h.ok
theorem wy {r:Rr}(g:r.Ok):aI [r.form]=pr (.tl (r.bxs.map W.str)):=by
 cases r with
 |box nm v=>
  have e0:aI [(Rr.box nm v).form]=bd (aj [some (.tup [.str "box",.str nm,.int (dk v)])]) KR:=rfl
  rw[e0];unfold aj
  simp! only[aa,ix0,hds]
  rfl
 |block nm=>
  have e0:aI [(Rr.block nm).form]=bd (aj [some (.tup [.str "block",.str nm])]) KR:=rfl
  rw[e0];unfold aj
  simp! only[aa,ix0,hds]
  rfl
 |put nm z e=>
  have e0:aI [(Rr.put nm z e).form]=bd (aj [some (.tup [.str "put",.str nm,KJ e])]) KR:=rfl
  rw[e0];unfold aj
  have gl: ∀ {α:Type} (q:M α),gd (0+1+((KH e).map W.str).length<=sizeLine) q=q:=fun q=>ag (by rw[El];exact sz (by have:=g.2.nm;omega))
  simp! only[aa,ix0,ix1,ix2,hds,iT g.2,Km,sB,gl]
  rfl
 |say z e=>
  have e0:aI [(Rr.say z e).form]=bd (aj [some (.tup [.str "say",KJ e])]) KR:=rfl
  rw[e0];unfold aj
  simp! only[aa,ix0,ix1,hds,iT g]
  rfl
 |ask nm=>
  have e0:aI [(Rr.ask nm).form]=bd (aj [some (.tup [.str "ask",.str nm])]) KR:=rfl
  rw[e0];unfold aj
  simp! only[aa,ix0,ix1,hds]
  rfl
 |go nm=>
  have e0:aI [(Rr.go nm).form]=bd (aj [some (.tup [.str "go",.str nm])]) KR:=rfl
  rw[e0];unfold aj
  simp! only[aa,ix0,ix1,hds]
  rfl
 |iff s z1 e1 z2 e2 x y=>
  have e0:aI [(Rr.iff s z1 e1 z2 e2 x y).form]=bd (aj [some (.tup [.str "if",.str s,KJ e1,KJ e2,.str x,.str y])]) KR:=rfl
  rw[e0];unfold aj
  have ad:=f9 ((KH e1).map W.str) ((KH e2).map W.str) (by rw[El,El];exact sz (by have:=g.2.1.nm;have:=g.2.2.1.nm;omega))
  simp! only[aa,ix0,ix2,ix3,hds,iT g.2.1,iT g.2.2.1,ad]
  show pr _=pr (W.tl ((KH e1++KH e2).map W.str))
  rw[Et]
 |table z e xs=>
  have e0:aI [(Rr.table z e xs).form]=bd (aj [some (.tup [.str "table",KJ e,.tup (xs.map W.str)])]) KR:=rfl
  rw[e0];unfold aj
  simp! only[aa,ix0,ix1,hds,iT g.1]
  rfl
 |stop=>
  have e0:aI [(Rr.stop).form]=bd (aj [some (.tup [.str "stop"])]) KR:=rfl
  rw[e0];unfold aj
  simp! only[aa,ix0,hds]
  rfl
theorem xB {r:Rr}(g:r.Ok)(A:J3 h o jb jn je js s)(p:∀x∈r.bxs,x∈s.bx.map (·.1)):Ok (aY [.loc o,r.form]) h fun _ h'=>h'=h:=by
 have e0:aY [.loc o,r.form]=bd (bN [some (.loc o),some r.form,none,none]) KR:=rfl
 rw[e0]
 unfold bN
 have ne:=wy g
 generalize r.form=F at *
 simp!
 refine dL A.ob Mn.2.1 ?_
 simp!
 refine aD (mz A) fun w h' qq_=>?_
 obtain⟨ew,eh⟩:=qq_
 subst ew eh
 simp! only[aa,ne,gP]
 refine cP (I:=fun i ρ h1=>h1=h'/\ ∃a,ρ=[some (.loc o),some F,some (.tl ((s.bx.map (·.1)).map W.str)),a]) ⟨rfl,_,rfl⟩ (fun _ _ _ _=>trivial) (fun i w ρ h1 hw I=>?_) fun ρ h1 I=>?_
 ·obtain⟨rfl,a,rfl⟩:=I
  rw[ED] at hw
  obtain⟨x,hx,rfl⟩:=EH.mp hw
  refine⟨_,rfl,?_⟩
  simp! only[aa,qX,decide_eq_true (p x (EO hx))]
  exact ah ⟨_,rfl,rfl,_,rfl⟩
 ·obtain⟨rfl,a,rfl⟩:=I
  simp!
  exact ah rfl
end
end
section
open Wd
def Rr.stm:Rr->Bool
 |.put _ _ _=>true
 |.say _ _=>true
 |.ask _=>true
 |_=>false
noncomputable def Rr.end':Rr->Bool
 |.go _=>true
 |.iff _ _ _ _ _ _ _=>true
 |.table _ _ _=>true
 |.stop=>true
 |_=>false
def RS.step (s:RS)(r:Rr):RS:=match r with
 |.box nm v=>{s with bx:=s.bx++[(nm,dk v)]}
 |.block nm=>{s with nm:=s.nm++[nm],st:=[]}
 |.put nm z e=>{s with st:=s.st++[(Rr.put nm z e).form]}
 |.say z e=>{s with st:=s.st++[(Rr.say z e).form]}
 |.ask nm=>{s with st:=s.st++[(Rr.ask nm).form]}
 |r=>{s with dn:=s.dn++[(s.nm.getLastD "",s.st,r)]}
theorem oE {s:RS}{r:Rr}(h:r.stm=true):s.step r={s with st:=s.st++[r.form]}:=by
 cases r<;>first|rfl|cases h
theorem oF {s:RS}{r:Rr}(h:r.end'=true):s.step r={s with dn:=s.dn++[(s.nm.getLastD "",s.st,r)]}:=by
 cases r<;>first|rfl|cases h
structure J2 (s:RS)(r:Rr):Prop where
 i:s.dn.length<s.nm.length
 c:r.stm=true->s.st.length<8
 b: ∀x∈r.bxs,x∈s.bx.map (·.1)
noncomputable def Pre (s:RS)(r:Rr):Prop:=match r with
 |.box nm _=>s.nm=[]/\nm ∉ s.bx.map (·.1)/\s.bx.length<4
 |.block nm=>s.dn.length=s.nm.length/\nm ∉ s.nm/\s.nm.length<10
 |r=>J2 s r
theorem AQ {s:RS}{r:Rr}(p:Pre s r)(h:r.stm=true\/r.end'=true):J2 s r:=by
 cases r<;>first|exact p|(rcases h with h|h<;>cases h)
structure Fo (o:Nat)(h h':List Ob):Prop where
 eq: ∀i,i<o->h'[i]?=h[i]?
 le:h.length<=h'.length
theorem Fo.trans {o:Nat}{a b c:List Ob}(x:Fo o a b)(y:Fo o b c):Fo o a c:=⟨fun i hi=>(y.eq i hi).trans (x.eq i hi),EG x.le y.le⟩
theorem Fo.set {o j:Nat}{h:List Ob}{b:Ob}(hj:o<=j):Fo o h (h.set j b):=⟨fun i hi=>by rw[Ew (by omega)],by rw[EU];exact Em _⟩
def Rr.hd:Rr->Str
 |.box _ _=> "box"
 |.block _=> "block"
 |.put _ _ _=> "put"
 |.say _ _=> "say"
 |.ask _=> "ask"
 |.go _=> "go"
 |.iff _ _ _ _ _ _ _=> "if"
 |.table _ _ _=> "table"
 |.stop=> "stop"
theorem j0 (r:Rr): ∃l,r.form=.tup (.str r.hd::l):=by cases r<;>exact⟨_,rfl⟩
theorem xf {r:Rr}(h:r.stm=true\/r.end'=true):decide (r.hd= "box")=false/\decide (r.hd= "block")=false:=by
 cases r<;>first|(rcases h with h|h<;>cases h;done)|(unfold Rr.hd;simp only[hds];exact⟨trivial,trivial⟩)|(unfold Rr.hd;simp only[hds,and_self])
theorem Ot:("put":Str)∈(["put", "say", "ask"]:List Str)/\("say":Str)∈(["put", "say", "ask"]:List Str)/\("ask":Str)∈(["put", "say", "ask"]:List Str):=by decide+kernel
theorem KC:("go":Str) ∉ (["put", "say", "ask"]:List Str)/\("if":Str) ∉ (["put", "say", "ask"]:List Str)/\("table":Str) ∉ (["put", "say", "ask"]:List Str)/\("stop":Str) ∉ (["put", "say", "ask"]:List Str):=by decide+kernel
theorem Ci {r:Rr}(h:r.stm=true):r.hd∈(["put", "say", "ask"]:List Str):=by
 cases r<;>first|exact absurd h EE|exact Ot.1|exact Ot.2.1|exact Ot.2.2
theorem xg {r:Rr}(h:r.end'=true):r.hd ∉ (["put", "say", "ask"]:List Str):=by
 cases r<;>first|exact absurd h EE|exact KC.1|exact KC.2.1|exact KC.2.2.1|exact KC.2.2.2
section
variable {h:List Ob}{o jb jn je js:Nat}{s:RS}
theorem A1 {nm v:Str}(A:J3 h o jb jn je js s)(p:Pre s (.box nm v)):Ok (ar [.loc o,(Rr.box nm v).form]) h fun _ h'=>J3 h' o jb jn je js (s.step (.box nm v))/\Fo o h h':=by
 have e0:ar [.loc o,(Rr.box nm v).form]=bd (az [some (.loc o),some (.tup [.str "box",.str nm,.int (dk v)])]) KR:=rfl
 rw[e0]
 unfold az
 obtain⟨n1,n2,n3,n4⟩:=A.ne
 have p:s.nm=[]/\nm ∉ s.bx.map (·.1)/\s.bx.length<4:=p
 simp! only[aa,ix0]
 refine cq A.ob (zq ..) ?_
 refine cO A.b ?_
 simp! only[aa,ix1,ix2]
 refine eS A.b (by rw[El];exact E1 (show _<=10 by omega) (by decide)) ?_
 simp!
 refine ah ⟨⟨?_,?_,?_,?_,?_,A.ne,?_⟩,Fo.set (by omega)⟩
 ·rw[Ew (by omega)];exact A.ob
 ·rw[cY A.b];show _=some (Ob.lst ((s.bx++[(nm,dk v)]).map bqW));rw[Et];rfl
 ·rw[Ew (by omega)];exact A.n
 ·rw[Ew (by omega)];exact A.e
 ·intro q;rw[Ew (by omega)];exact A.st q
 ·obtain⟨z1,z2,z3,z4,z5⟩:=A.z
  refine⟨?_,z2,z3,z4,z5⟩
  show (s.bx++[_]).length<=4
  rw[Ep,ER];omega
theorem v4 {nm:Str}(A:J3 h o jb jn je js s)(p:Pre s (.block nm)):Ok (ar [.loc o,(Rr.block nm).form]) h fun _ h'=>(∃js',J3 h' o jb jn je js' (s.step (.block nm)))/\Fo o h h':=by
 have e0:ar [.loc o,(Rr.block nm).form]=bd (az [some (.loc o),some (.tup [.str "block",.str nm])]) KR:=rfl
 rw[e0]
 unfold az
 obtain⟨n1,n2,n3,n4⟩:=A.ne
 have p:s.dn.length=s.nm.length/\nm ∉ s.nm/\s.nm.length<10:=p
 simp! only[aa,ix0,hds]
 refine cq A.ob (pz ..) ?_
 refine cO A.n ?_
 simp! only[aa,ix1]
 refine eS A.n (by rw[El];exact E1 (show _<=10 by omega) (by decide)) ?_
 simp!
 refine iq ?_
 simp!
 have le:=da A.e
 have lo:=da A.ob
 have ln:=da A.n
 have eo:(h.set jn (.lst (s.nm.map W.str++[.str nm]))++[.lst []])[o]?=some (.ins "Reading" KW [.loc jb,.loc jn,.loc je,.loc js]):=by
  rw[ET (by rw[EU];exact lo),Ew (by omega)];exact A.ob
 refine wg eo (by show 4<1000;decide) (D8 ..) ?_
 simp!
 have hl:(h.set jn (.lst (s.nm.map W.str++[.str nm]))).length=h.length:=EU ..
 refine ah ⟨⟨h.length,⟨?_,?_,?_,?_,?_,?_,?_⟩⟩,⟨fun i hi=>?_,?_⟩⟩
 ·rw[cY eo,hl]
 ·rw[Ew (by omega),ET (by rw[hl];exact da A.b),Ew (by omega)];exact A.b
 ·rw[Ew (by omega),ET (by rw[hl];exact ln),cY A.n];show _=some (Ob.lst ((s.nm++[nm]).map W.str));rw[Et];rfl
 ·rw[Ew (by omega),ET (by rw[hl];exact le),Ew (by omega)];exact A.e
 ·intro _
  rw[Ew (by omega)]
  have:=fJ (h:=h.set jn (.lst (s.nm.map W.str++[.str nm]))) (a:=.lst [])
  rw[hl] at this
  exact this
 ·exact⟨n1,n2,n3,le⟩
 ·obtain⟨z1,z2,z3,z4,z5⟩:=A.z
  refine⟨z1,?_,?_,EI _,?_⟩
  ·show (s.nm++[nm]).length<=10
   rw[Ep,ER];omega
  ·show s.dn.length<=(s.nm++[nm]).length
   rw[Ep,ER];omega
  ·show (s.nm++[nm]).length<=s.dn.length+1
   rw[Ep,ER];omega
 ·rw[Ew (by omega),ET (by rw[hl];omega),Ew (by omega)]
 ·rw[EU,Ep,hl];omega
theorem AY {r:Rr}(q:r.stm=true)(A:J3 h o jb jn je js s)(p:J2 s r):Ok (ar [.loc o,r.form]) h fun _ h'=>J3 h' o jb jn je js (s.step r)/\Fo o h h':=by
 rw[oE q]
 have nh:=xf (r:=r) (.inl q)
 have st:=Ci q
 obtain⟨l,e⟩:=j0 r
 rw[e]
 have e0:ar [.loc o,.tup (.str r.hd::l)]=bd (az [some (.loc o),some (.tup (.str r.hd::l))]) KR:=rfl
 rw[e0]
 unfold az
 obtain⟨n1,n2,n3,n4⟩:=A.ne
 have pr':=p.c q
 simp! only[aa,ix0,nh.1,nh.2,jB,decide_eq_true st]
 refine cq A.ob (B7 ..) ?_
 refine cO (A.st p.i) ?_
 simp!
 refine eS (A.st p.i) (E1 (show _<=10 by omega) (by decide)) ?_
 simp!
 refine ah ⟨⟨?_,?_,?_,?_,?_,A.ne,?_⟩,Fo.set (by omega)⟩
 ·rw[Ew (by omega)];exact A.ob
 ·rw[Ew (by omega)];exact A.b
 ·rw[Ew (by omega)];exact A.n
 ·rw[Ew (by omega)];exact A.e
 ·intro _;rw[cY (A.st p.i)]
 ·obtain⟨z1,z2,z3,z4,z5⟩:=A.z
  refine⟨z1,z2,z3,?_,z5⟩
  show (s.st++[_]).length<=8
  rw[Ep,ER];omega
theorem rC {l:List Str}(h:l≠ []):atI (l.map W.str) (-1)=some (.str (l.getLastD "")):=by
 have e:l=l.dropLast++[l.getLast h]:=(List.dropLast_concat_getLast h).symm
 have g:l.getLastD ""=l.getLast h:=by
  cases l with
  |nil=>exact absurd rfl h
  |cons a l=>rw[List.getLastD_cons,List.getLast_eq_getLastD]
 rw[g]
 conv=>lhs;rw[e,Et]
 exact xM _ _
theorem AZ {r:Rr}(q:r.end'=true)(A:J3 h o jb jn je js s)(p:J2 s r):Ok (ar [.loc o,r.form]) h fun _ h'=>J3 h' o jb jn je js (s.step r)/\Fo o h h':=by
 rw[oF q]
 have nh:=xf (r:=r) (.inr q)
 have st:=xg q
 obtain⟨l,e⟩:=j0 r
 have ie: ∀x,W.tup [.str x,.tl s.st,.tup (.str r.hd::l)]=dnW (x,s.st,r):=fun x=>by unfold dnW;rw[<-e]
 rw[e]
 have e0:ar [.loc o,.tup (.str r.hd::l)]=bd (az [some (.loc o),some (.tup (.str r.hd::l))]) KR:=rfl
 rw[e0]
 unfold az
 obtain⟨n1,n2,n3,n4⟩:=A.ne
 obtain⟨z1,z2,z3,z4,z5⟩:=A.z
 have pi:=p.i
 have nn:s.nm≠ []:=fun z=>by rw[z] at pi;simp at pi
 simp! only[aa,ix0,nh.1,nh.2,jB,decide_eq_false st]
 refine cq A.ob (B8 ..) ?_
 refine cO A.e ?_
 simp!
 refine cq A.ob (pz ..) ?_
 simp!
 refine Ad A.n (rC nn) ?_
 simp!
 refine cq A.ob (B7 ..) ?_
 refine jv (A.st pi) ?_
 have e2:(h.set js .gone)[je]?=some (.lst (s.dn.map dnW)):=by rw[Ew (by omega)];exact A.e
 simp!
 refine eS e2 (by rw[El];exact E1 (show _<=10 by omega) (by decide)) ?_
 simp!
 refine ah ⟨⟨?_,?_,?_,?_,?_,A.ne,?_⟩,(Fo.set (by omega)).trans (Fo.set (by omega))⟩
 ·rw[Ew (by omega),Ew (by omega)];exact A.ob
 ·rw[Ew (by omega),Ew (by omega)];exact A.b
 ·rw[Ew (by omega),Ew (by omega)];exact A.n
 ·rw[cY e2,ie];show _=some (Ob.lst ((s.dn++[_]).map dnW));rw[Et];rfl
 ·intro q
  have q:(s.dn++[_]).length<s.nm.length:=q
  rw[Ep,ER] at q
  omega
 ·refine⟨z1,z2,?_,z4,?_⟩
  ·show (s.dn++[_]).length<=s.nm.length
   rw[Ep,ER];omega
  ·show s.nm.length<=(s.dn++[_]).length+1
   rw[Ep,ER];omega
theorem DG (r:Rr):(∃nm v,r=.box nm v)\/(∃nm,r=.block nm)\/r.stm=true\/r.end'=true:=by
 cases r<;>first|exact .inl ⟨_,_,rfl⟩|exact .inr (.inl ⟨_,rfl⟩)|exact .inr (.inr (.inl rfl))|exact .inr (.inr (.inr rfl))
theorem yb {r:Rr}(g:r.Ok)(A:J3 h o jb jn je js s)(p:Pre s r):Ok (dg [.loc o,r.form]) h fun w h'=>w=.non/\(∃js',J3 h' o jb jn je js' (s.step r))/\Fo o h h':=by
 have e0:dg [.loc o,r.form]=bd (dc [some (.loc o),some r.form]) KR:=rfl
 rw[e0]
 unfold dc
 obtain⟨m1,m2,m3,m4,m5,m6,m7,m8,m9⟩:=Mn
 have st:Ok (av [.loc o,.str r.hd]) h (fun _ h'=>h'=h)/\Ok (au [.loc o,r.form]) h (fun _ h'=>h'=h)/\Ok (ay [.loc o,.str r.hd]) h (fun _ h'=>h'=h)/\Ok (aY [.loc o,r.form]) h (fun _ h'=>h'=h)/\Ok (ar [.loc o,r.form]) h fun _ h'=>(∃js',J3 h' o jb jn je js' (s.step r))/\Fo o h h':=by
  rcases DG r with⟨nm,v,rfl⟩|⟨nm,rfl⟩|q
  ·have p':s.nm=[]/\nm ∉ s.bx.map (·.1)/\s.bx.length<4:=p
   exact⟨AR A p'.1,Ap A p'.2.1,AK A p'.2.2,xB g A (fun x hx=>absurd hx EF),(A1 A p).imp fun _ _ ⟨a,b⟩=>⟨⟨_,a⟩,b⟩⟩
  ·have p':s.dn.length=s.nm.length/\nm ∉ s.nm/\s.nm.length<10:=p
   exact⟨vR A p'.1,vd A p'.2.1,vL A p'.2.2,xB g A (fun x hx=>absurd hx EF),v4 A p⟩
  ·have pi:=AQ p q
   have nh:=xf q
   obtain⟨l,e⟩:=j0 r
   refine⟨C1 A nh.1 nh.2 pi.i,by rw[e];exact CP nh.1 nh.2,CZ A nh.1 nh.2 pi.i fun hm=>?_,xB g A pi.b,?_⟩
   ·rcases q with q|q
    ·exact pi.c q
    ·exact absurd hm (xg q)
   ·rcases q with q|q
    ·exact (AY q A pi).imp fun _ _ ⟨a,b⟩=>⟨⟨_,a⟩,b⟩
    ·exact (AZ q A pi).imp fun _ _ ⟨a,b⟩=>⟨⟨_,a⟩,b⟩
 obtain⟨s1,s2,s3,s4,s5⟩:=st
 have ih:ixW r.form (.int 0)=pr (.str r.hd):=by obtain⟨l,e⟩:=j0 r;rw[e];exact ix0 ..
 generalize r.form=F at *
 simp!
 refine dL A.ob m3 ?_
 simp! only[aa,ih]
 refine aD s1 fun _ h1 eh=>?_
 subst eh
 simp!
 refine dL A.ob m4 ?_
 simp!
 refine aD s2 fun _ h1 eh=>?_
 subst eh
 simp!
 refine dL A.ob m5 ?_
 simp! only[aa,ih]
 refine aD s3 fun _ h1 eh=>?_
 subst eh
 simp!
 refine dL A.ob m6 ?_
 simp!
 refine aD s4 fun _ h1 eh=>?_
 subst eh
 simp!
 refine dL A.ob m7 ?_
 simp!
 refine aD s5 fun _ h1 q=>?_
 simp!
 exact ah ⟨rfl,q⟩
end
end
section
open Wd
noncomputable def Ls (l:List Str)(x:Str):Nat:=(l.findIdx? (fun m=>decide (m=x))).getD 0
theorem mi {l:List Str}{x:Str}(h:x∈l):l.findIdx? (fun m=>decide (m=x))=some (Ls l x)/\Ls l x<l.length:=by
 unfold Ls
 cases e:l.findIdx? (fun m=>decide (m=x)) with
 |none=>
  rw[HJ] at e
  have:=e x h
  simp at this
 |some i=>
  refine⟨rfl,?_⟩
  rw[GD] at e
  exact e.1
def Rr.en (l:List Str):Rr->E17
 |.go nm=>.go (Ls l nm:Nat)
 |.iff s _ e1 _ e2 x y=>.iff s (KJ e1) (KJ e2) (Ls l x:Nat) (Ls l y:Nat)
 |.table _ e xs=>.table (KJ e) (xs.map fun x=>((Ls l x:Nat):Int))
 |_=>.stop
noncomputable def Rr.tos:Rr->List Str
 |.go nm=>[nm]
 |.iff _ _ _ _ _ x y=>[x,y]
 |.table _ _ xs=>xs
 |_=>[]
section
variable {h:List Ob}{jn:Nat}{ss:List Str}
theorem wj {β:Type}{Q:β->List Ob->Prop}{j:Nat}{x:Str}{ss:List Str}{k:W->M β}(e:h[j]?=some (.lst (ss.map W.str)))(q:Ok (k (.bl (!decide (x∈ss)))) h Q):Ok (bd (cx (.str x) (.loc j)) k) h Q:=by
 refine bg (a:=.bl (!decide (x∈ss))) (h':=h) ?_ q
 unfold cx
 have d:Ky (.loc j) h=none:=by unfold Ky;simp only[e]
 have lo:LU (.loc j) h=.ok (ss.map W.str) h:=by unfold LU;simp only[e]
 have e:inB (.str x) (.loc j) h=some (decide (x∈ss)):=by
  unfold inB
  simp only[d,lo,dY (g:=W.str) (k:=V.str) (fun a=>rfl) ss]
  show some (inV (.str x) (ss.map V.str))=_
  rw[i4]
 rw[e]
theorem kQ {j:Nat}{l:List W}(e:h[j]?=some (.lst l)):LS (.loc j) h=.ok l h:=by
 unfold LS
 simp only[e]
theorem iP {x:Str}(e:h[jn]?=some (.lst (ss.map W.str)))(m:x∈ss):Ok (cV [.str x,.loc jn]) h fun w h'=>w=.int (Ls ss x:Nat)/\h'=h:=by
 have e0:cV [.str x,.loc jn]=bd (fQ [some (.str x),some (.loc jn)]) KR:=rfl
 rw[e0]
 unfold fQ
 simp!
 refine wj e ?_
 simp! only[aa,decide_eq_true m,Lh]
 refine bg (kQ e) ?_
 simp! only[aa,N9]
 refine bg (kQ e) ?_
 have o:MV sOf (ss.map W.str)=some ss:=iQ (f:=sOf) (g:=W.str) (fun a=>rfl) ss
 rw[o]
 dsimp only
 rw[(mi m).1]
 simp!
 exact ah ⟨rfl,rfl⟩
theorem sl64 (a b c d e f:W):slW (.tup [a,b,c,d,e,f]) none (some 4)=pr (.tup [a,b,c,d]):=by
 show gd (¬(HT.sIx 6 0 none=0/\HT.sIx 6 6 (some 4)=6)) (pr (W.tup (Kv [a,b,c,d,e,f] none (some 4))))=_
 rw[ag (by decide)];rfl
theorem CC (a b c d e f:W):Ka (.tup [a,b,c,d]) (.tup [e,f])=pr (.tup [a,b,c,d,e,f]):=by
 show gd _ (pr (W.tup ([a,b,c,d]++[e,f])))=_
 rw[ag ⟨rfl,sz (by show 4+2<=_;omega)⟩];rfl
theorem zH {r:Rr}(q:r.end'=true)(e:h[jn]?=some (.lst (ss.map W.str)))(g:r.Ok)(m:∀x∈r.tos,x∈ss):Ok (bq [r.form,.loc jn]) h fun w h'=>w=(r.en ss).w/\h'=h:=by
 cases r with
 |go nm=>
  have e0:bq [(Rr.go nm).form,.loc jn]=bd (aH [some (.tup [.str "go",.str nm]),some (.loc jn)]) KR:=rfl
  rw[e0];unfold aH
  simp! only[aa,ix0,ix1,hds]
  refine aD (iP e (m nm Eo)) fun w h' qq_=>?_
  obtain⟨ew,eh⟩:=qq_
  subst ew eh
  simp!
  exact ah ⟨rfl,rfl⟩
 |iff s z1 e1 z2 e2 x y=>
  have e0:bq [(Rr.iff s z1 e1 z2 e2 x y).form,.loc jn]=bd (aH [some (.tup [.str "if",.str s,KJ e1,KJ e2,.str x,.str y]),some (.loc jn)]) KR:=rfl
  rw[e0];unfold aH
  simp! only[aa,ix0,ix4,ix5,hds,sl64]
  refine aD (iP e (m x Eo)) fun w h' qq_=>?_
  obtain⟨ew,eh⟩:=qq_
  subst ew eh
  simp! only[aa,ix5]
  refine aD (iP e (m y (EA _ Eo))) fun w h' qq_=>?_
  obtain⟨ew,eh⟩:=qq_
  subst ew eh
  simp! only[aa,CC]
  exact ah ⟨rfl,rfl⟩
 |table z e1 xs=>
  have e0:bq [(Rr.table z e1 xs).form,.loc jn]=bd (aH [some (.tup [.str "table",KJ e1,.tup (xs.map W.str)]),some (.loc jn)]) KR:=rfl
  rw[e0];unfold aH
  have gl: ∀ {α:Type} (q:M α),gd ((xs.map W.str).length<=sizeLine) q=q:=fun q=>ag (by rw[El];exact sz (by have:=g.2.2.1;omega))
  simp! only[aa,ix0,ix1,ix2,hds,gl]
  refine gS (I:=fun i a h'=>h'=h/\a=((xs.take i).map fun x=>((Ls ss x:Nat):Int)).map W.int) ⟨rfl,rfl⟩ jf (fun _ _ _ _=>trivial) (fun i w a h' hw I=>?_) fun a h' I=>?_
  ·obtain⟨rfl,rfl⟩:=I
   rw[ED] at hw
   obtain⟨x,hx,rfl⟩:=EH.mp hw
   refine⟨_,rfl,?_⟩
   simp! only[List.replicate,E9,Fd,aa]
   refine (iP e (m x (EO hx))).imp fun w h2 qz=>?_
   obtain⟨ew,eh⟩:=qz
   subst ew eh
   refine⟨rfl,?_⟩
   rw[Ft,hx,Et,Et];rfl
  ·obtain⟨rfl,rfl⟩:=I
   rw[El,EN]
   simp! only[aa,jj]
   exact ah ⟨rfl,rfl⟩
 |stop=>
  have e0:bq [Rr.stop.form,.loc jn]=bd (aH [some (.tup [.str "stop"]),some (.loc jn)]) KR:=rfl
  rw[e0];unfold aH
  simp! only[aa,ix0,hds]
  exact ah ⟨rfl,rfl⟩
 |_=>cases q
end
def bkW (l:List Str)(b:Str×List W×Rr):W:=.tup [.str b.1,.tl b.2.1,(b.2.2.en l).w]
structure JP (s:RS):Prop where
 l:s.dn.length=s.nm.length
 l1:1<=s.nm.length
 e: ∀b∈s.dn,b.2.2.end'=true/\b.2.2.Ok/\ ∀x∈b.2.2.tos,x∈s.nm
theorem xY {h:List Ob}{o jb jn je js:Nat}{s:RS}(A:J3 h o jb jn je js s)(E:JP s):Ok (bz [.loc o]) h fun w h'=>w=.tup [.tl (s.bx.map bqW),.tl (s.dn.map (bkW s.nm))]/\Fo o h h':=by
 have e0:bz [.loc o]=bd (bw [some (.loc o),none,none,none,none]) KR:=rfl
 rw[e0]
 unfold bw
 obtain⟨n1,n2,n3,n4⟩:=A.ne
 obtain⟨z1,z2,z3,z4,z5⟩:=A.z
 have el:=E.l
 have el1:=E.l1
 have lo:=da A.ob
 have lb:=da A.b
 have ln:=da A.n
 have le:=da A.e
 simp!
 refine dL A.ob Mn.1 ?_
 simp!
 refine aD (kX A) fun w h' qq_=>?_
 obtain⟨ew,eh⟩:=qq_
 subst ew eh
 simp! only[aa,decide_eq_false (show¬s.dn.length<s.nm.length by omega)]
 refine cq A.ob (pz ..) ?_
 simp!
 refine (Lw.len (.inr ⟨jn,rfl,A.n⟩)) ?_
 have d0:decide ((((s.nm.map W.str).length:Nat):Int)=0)=false:=decide_eq_false (by rw[El];omega)
 simp! only[aa,d0]
 refine iq ?_
 have ap: ∀ {j:Nat}{b:Ob},h'[j]?=some b->(h'++[.lst []])[j]?=some b:=fun e=>zF e
 simp!
 refine cq (ap A.ob) (B8 ..) ?_
 refine qW (ap A.e) ?_
 simp!
 refine cP (I:=fun i ρ h1=> ∃a b c,ρ=[some (.loc o),some (.loc h'.length),a,b,c]/\h1.length=h'.length+1/\(∀j,j<h'.length->h1[j]?=h'[j]?)/\h1[h'.length]?=some (.lst ((s.dn.take i).map (bkW s.nm)))) ⟨_,_,_,rfl,by simp,fun j hj=>by rw[ET hj],fJ⟩ (fun _ _ _ I=>by obtain⟨a,b,c,_,_,q,_⟩:=I;rw[q _ le];exact A.e) (fun i w ρ h1 hw I=>?_) fun ρ h1 I=>?_
 ·obtain⟨a,b,c,rfl,l1,q1,q2⟩:=I
  rw[ED] at hw
  obtain⟨⟨nm,sts,r⟩,hb,rfl⟩:=EH.mp hw
  obtain⟨r1,r2,r3⟩:=E.e _ (EO hb)
  have hi:=(Ev.mp hb).1
  refine⟨[some (.loc o),some (.loc h'.length),some (.str nm),some (.tl sts),some r.form],rfl,?_⟩
  have en:h1[jn]?=some (.lst (s.nm.map W.str)):=by rw[q1 _ ln];exact A.n
  have eo:h1[o]?=some (.ins "Reading" KW [.loc jb,.loc jn,.loc je,.loc js]):=by rw[q1 _ lo];exact A.ob
  have eb:=zH r1 en r2 r3
  generalize r.form=F at *
  simp!
  refine cO q2 ?_
  simp!
  refine cq eo (pz ..) ?_
  simp!
  refine aD eb fun w h2 qq_=>?_
  obtain⟨ew,eh⟩:=qq_
  subst ew eh
  simp!
  refine eS q2 (by rw[El,E5];exact E1 (show _<=10 by omega) (by decide)) ?_
  simp!
  refine ah ⟨_,rfl,_,_,_,rfl,by rw[EU];exact l1,fun j hj=>by rw[Ew (by omega)];exact q1 j hj,?_⟩
  rw[cY q2,Ft,hb,Et];rfl
 ·obtain⟨a,b,c,rfl,l1,q1,q2⟩:=I
  rw[El,EN] at q2
  have eo:h1[o]?=some (.ins "Reading" KW [.loc jb,.loc jn,.loc je,.loc js]):=by rw[q1 _ lo];exact A.ob
  have eb:h1[jb]?=some (.lst (s.bx.map bqW)):=by rw[q1 _ lb];exact A.b
  simp!
  refine cq eo (zq ..) ?_
  refine jv eb ?_
  have q3:(h1.set jb .gone)[h'.length]?=some (.lst (s.dn.map (bkW s.nm))):=by rw[Ew (by omega)];exact q2
  simp!
  refine jv q3 ?_
  simp!
  refine ah ⟨rfl,fun i hi=>?_,?_⟩
  ·rw[Ew (by omega),Ew (by omega)];exact q1 i (by omega)
  ·rw[EU,EU,l1];omega
def OkR:List Rr->RS->Prop
 |[],_=>True
 |r::rs,s=>(r.Ok/\Pre s r)/\OkR rs (s.step r)
def Nu (rs:List Rr)(s:RS):RS:=rs.foldl RS.step s
theorem jV: ∀ {a b:List Rr}{s:RS},OkR a s->OkR b (Nu a s)->OkR (a++b) s
 |[],_,_,_,h=>h
 |r::a,b,s,g,h=>⟨g.1,jV (a:=a) g.2 h⟩
theorem kA (a b:List Rr)(s:RS):Nu (a++b) s=Nu b (Nu a s):=Hl ..
theorem sx: ∀ {a:List Rr}{s:RS},OkR a s-> ∀r∈a,r.Ok
 |[],_,_,r,h=>absurd h EF
 |x::a,s,g,r,h=>by
  rcases En.mp h with rfl|h
  ·exact g.1.1
  ·exact sx g.2 r h
noncomputable def RS.nil:RS:=⟨[],[],[],[]⟩
section
variable {β:Type}{h:List Ob}{Q:β->List Ob->Prop}
theorem nz {L:List Ob}{k:W->M β}{l:List W}{n:Nat}(hn:L.length=n)(q:Ok (k (.loc (h.length+n))) (h++(L++[.lst l])) Q):Ok (bd (Mt l) k) (h++L) Q:=by
 refine iq ?_
 rw[Ep,EQ,hn]
 exact q
theorem mX {L:List Ob}{c f:Str}{ns ns':List Str}{ws ws':List W}{y:W}{k:Unit->M β}(z:ns.length<1000)(e2:putN ns ws f y=(ns',ws'))(q:Ok (k ()) (h++.ins c ns' ws'::L) Q):Ok (bd (Ni c f (.loc h.length) y) k) (h++.ins c ns ws::L) Q:=by
 refine wg (by rw[Fp (Em _),Ha];rfl) z e2 ?_
 rw[List.set_append_right _ _ (Em _),Ha]
 exact q
end
theorem zC (h:List Ob):Ok (ck [.loc h.length]) (h++[.ins "Reading" [] []]) fun w h'=>w=.non/\J3 h' h.length (h.length+1) (h.length+2) (h.length+3) (h.length+4) RS.nil/\Fo h.length h h':=by
 have e0:ck [.loc h.length]=bd (cj [some (.loc h.length)]) KR:=rfl
 rw[e0]
 unfold cj
 simp!
 refine nz (n:=1) rfl ?_
 simp! only[E9,Fd,aa]
 refine mX (by show 0<1000;decide) (ns':=["boxes"]) (ws':=[.loc (h.length+1)]) rfl ?_
 simp!
 refine nz (n:=2) rfl ?_
 simp! only[E9,Fd,aa]
 refine mX (by show 1<1000;decide) (ns':=["boxes", "block_names"]) (ws':=[.loc (h.length+1),.loc (h.length+2)]) (by simp only[putN,fne,if_false]) ?_
 simp!
 refine nz (n:=3) rfl ?_
 simp! only[E9,Fd,aa]
 refine mX (by show 2<1000;decide) (ns':=["boxes", "block_names", "ended_blocks"]) (ws':=[.loc (h.length+1),.loc (h.length+2),.loc (h.length+3)]) (by simp only[putN,fne,if_false]) ?_
 simp!
 refine nz (n:=4) rfl ?_
 simp! only[E9,Fd,aa]
 refine mX (by show 3<1000;decide) (ns':=KW) (ws':=[.loc (h.length+1),.loc (h.length+2),.loc (h.length+3),.loc (h.length+4)]) (by simp only[KW,putN,fne,if_false]) ?_
 simp!
 have at': ∀ (L:List Ob) (k:Nat),(h++L)[h.length+k]?=L[k]?:=fun L k=>by rw[Fp (by omega)];congr 1;omega
 refine ah ⟨rfl,⟨at' _ 0,at' _ 1,at' _ 2,at' _ 3,fun _=>at' _ 4,⟨by omega,by omega,by omega,by omega⟩,⟨EI _,EI _,Em _,EI _,EI _⟩⟩,⟨fun i hi=>ET hi,by rw[Ep];omega⟩⟩
def OI (rs:List Rr):Str:=Str.join ⟨#[10]⟩ (rs.map Rr.tx)
theorem yt {h:List Ob}{rs:List Rr}(K:OkR rs RS.nil)(E:JP (Nu rs RS.nil))(l1:rs≠ [])(l2:rs.length<=120):Ok (lf [.str (OI rs)]) h fun w h'=>w=.tup [.tl ((Nu rs RS.nil).bx.map bqW),.tl ((Nu rs RS.nil).dn.map (bkW (Nu rs RS.nil).nm))]/\Fo h.length h h':=by
 have e0:lf [.str (OI rs)]=bd (nL [some (.str (OI rs)),none,none,none]) KR:=rfl
 rw[e0]
 unfold nL
 have all:=sx K
 have hz: ∀z∈rs.map Rr.tx,z.length<=600:=fun z hz=>by
  obtain⟨r,hr,rfl⟩:=EB.mp hz
  exact (all r hr).len
 have sp:Ol (.str (OI rs)) [.str "\n"]=pr (.tl ((rs.map Rr.tx).map W.str)):=by
  rw[wr]
  refine oG (fun z=>l1 (HK.mp z)) (fun z hz=>?_) (EG (sG hz) ?_) (sz (by rw[El];omega))
  ·obtain⟨r,hr,rfl⟩:=EB.mp hz
   exact (all r hr).nl
  ·rw[El];exact sz (by omega)
 generalize OI rs=T at *
 have d0:decide ((120:Int)<((((rs.map Rr.tx).map W.str).length:Nat):Int))=false:=decide_eq_false (by rw[El,El];omega)
 simp! only[aa,sp,d0,L3]
 refine yO (by rfl) (zC h) fun h1 qz=>?_
 obtain⟨A,F1⟩:=qz
 simp! only[aa,gP]
 generalize h.length+1=jb at *
 generalize h.length+2=jn at *
 generalize h.length+3=je at *
 generalize h.length+4=js at *
 generalize ho:h.length=o at *
 have m8:=Mn.2.2.2.2.2.2.2.1
 have m9:=Mn.2.2.2.2.2.2.2.2
 refine cP (I:=fun i ρ h2=> ∃a js s,ρ=[some (.str T),some (.tl ((rs.map Rr.tx).map W.str)),some (.loc o),a]/\J3 h2 o jb jn je js s/\OkR (rs.drop i) s/\Nu (rs.drop i) s=Nu rs RS.nil/\Fo o h h2) ⟨_,js,RS.nil,rfl,A,K,rfl,F1⟩ (fun _ _ _ _=>trivial) (fun i w ρ h2 hw I=>?_) fun ρ h2 I=>?_
 ·obtain⟨a,js,s,rfl,A,K,er,F2⟩:=I
  rw[ED,ED] at hw
  obtain⟨x,hx,rfl⟩:=EH.mp hw
  obtain⟨r,hr,rfl⟩:=EH.mp hx
  have hi:=(Ev.mp hr).1
  have ed:rs.drop i=r::rs.drop (i+1):=by
   rw[F8 hi]
   congr 1
   exact Option.some.inj ((EL hi).symm.trans hr)
  rw[ed] at K er
  obtain⟨⟨g,p⟩,K⟩:=K
  have fe:=zG g
  have tk:=yb g A p
  refine⟨_,rfl,?_⟩
  generalize r.form=F at *
  generalize r.tx=X at *
  simp!
  refine dL A.ob m8 ?_
  simp! only[aa,fe]
  refine aD tk fun w h3 qq_=>?_
  obtain⟨ew,⟨js',A'⟩,F3⟩:=qq_
  subst ew
  simp!
  exact ah ⟨_,rfl,_,js',_,rfl,A',K,er,F2.trans F3⟩
 ·obtain⟨a,js,s,rfl,A,K,er,F2⟩:=I
  rw[El,El,Hb] at er
  have er:s=Nu rs RS.nil:=er
  subst er
  simp!
  refine dL A.ob m9 ?_
  simp!
  refine aD (xY A E) fun w h3 qq_=>?_
  obtain⟨ew,F3⟩:=qq_
  subst ew
  simp!
  exact ah ⟨rfl,F2.trans F3⟩
end
section
open Wd
structure Bt where
 nm:Str
 ss:List Rr
 e:Rr
noncomputable def Bt.rows (b:Bt):List Rr:=.block b.nm::(b.ss++[b.e])
def pgR (bx:List (Str×Str))(bl:List Bt):List Rr:=(bx.map fun b=>Rr.box b.1 b.2)++bl.flatMap Bt.rows
structure BtG (bn ns:List Str)(b:Bt):Prop where
 nm:aK b.nm=true
 l:b.ss.length<=8
 s: ∀r∈b.ss,r.stm=true/\r.Ok/\ ∀x∈r.bxs,x∈bn
 e:b.e.end'=true/\b.e.Ok/\(∀x∈b.e.bxs,x∈bn)/\ ∀x∈b.e.tos,x∈ns
structure PtxG (bx:List (Str×Str))(bl:List Bt):Prop where
 b: ∀x∈bx,aK x.1=true/\Mw x.2=true
 bn:(bx.map (·.1)).Nodup
 b4:bx.length<=4
 n:(bl.map Bt.nm).Nodup
 l:bl.length<=10
 l1:1<=bl.length
 g: ∀b∈bl,BtG (bx.map (·.1)) (bl.map Bt.nm) b
def bxV (bx:List (Str×Str)):List (Str×Int):=bx.map fun b=>(b.1,dk b.2)
theorem se: ∀ (bx:List (Str×Str)) (d:List (Str×Int)),(∀x∈bx,aK x.1=true/\Mw x.2=true)->(d.map (·.1)++bx.map (·.1)).Nodup->d.length+bx.length<=4->OkR (bx.map fun b=>Rr.box b.1 b.2) ⟨d,[],[],[]⟩/\Nu (bx.map fun b=>Rr.box b.1 b.2) ⟨d,[],[],[]⟩=⟨d++bxV bx,[],[],[]⟩
 |[],d,_,_,_=>⟨trivial,by show _=RS.mk (d++[]) _ _ _;rw[EX];rfl⟩
 |b::bx,d,g,nd,l=>by
  have ih:=se bx (d++[(b.1,dk b.2)]) (fun x hx=>g x (EA _ hx)) (by rw[Et,EQ];exact nd) (by rw[Ep,ER];rw[Es] at l;omega)
  rw[Es] at l
  refine⟨⟨⟨g b Eo,rfl,fun hm=>?_,by show d.length<4;omega⟩,ih.1⟩,?_⟩
  ·rw[Er,Gc] at nd
   exact nd.2.2 _ hm _ Eo rfl
  ·show Nu (bx.map fun b=>Rr.box b.1 b.2) ⟨d++[(b.1,dk b.2)],[],[],[]⟩=_
   rw[ih.2,EQ];rfl
theorem sd: ∀ (ss:List Rr) (s:RS),s.dn.length<s.nm.length->s.st.length+ss.length<=8->(∀r∈ss,r.stm=true/\r.Ok/\ ∀x∈r.bxs,x∈s.bx.map (·.1))->OkR ss s/\Nu ss s={s with st:=s.st++ss.map Rr.form}
 |[],s,_,_,_=>⟨trivial,by rw[EV,EX];rfl⟩
 |r::ss,s,i,l,g=>by
  rw[Es] at l
  obtain⟨g1,g2,g3⟩:=g r Eo
  have es:=oE (s:=s) g1
  have ih:=sd ss {s with st:=s.st++[r.form]} i (by show (s.st++[_]).length+_<=8;rw[Ep,ER];omega) fun r hr=>g r (EA _ hr)
  have p:J2 s r:=⟨i,fun _=>by omega,g3⟩
  have p:Pre s r:=by cases r<;>first|exact p|cases g1
  refine⟨⟨⟨g2,p⟩,by rw[es];exact ih.1⟩,?_⟩
  show Nu ss (s.step r)=_
  rw[es,ih.2]
  show RS.mk s.bx s.nm s.dn ((s.st++[r.form])++ss.map Rr.form)=RS.mk s.bx s.nm s.dn (s.st++(r::ss).map Rr.form)
  rw[EQ];rfl
theorem uD (l:List Str)(x:Str):(l++[x]).getLastD ""=x:=by simp
theorem zJ {r:Rr}(a:r.end'=true)(b:r.stm=true):False:=by
 cases r<;>first|exact absurd a EE|exact absurd b EE
theorem yr {bn ns:List Str}{b:Bt}{s:RS}(g:BtG bn ns b)(hb:s.bx.map (·.1)=bn)(i:s.dn.length=s.nm.length)(l:s.nm.length<10)(n:b.nm ∉ s.nm):OkR b.rows s/\Nu b.rows s=⟨s.bx,s.nm++[b.nm],s.dn++[(b.nm,b.ss.map Rr.form,b.e)],b.ss.map Rr.form⟩:=by
 subst hb
 have h1:=sd b.ss ⟨s.bx,s.nm++[b.nm],s.dn,[]⟩ (by show s.dn.length<(s.nm++[_]).length;rw[Ep,ER];omega) (by show 0+_<=8;have:=g.l;omega) g.s
 have e2:Nu b.ss ⟨s.bx,s.nm++[b.nm],s.dn,[]⟩=⟨s.bx,s.nm++[b.nm],s.dn,b.ss.map Rr.form⟩:=by rw[h1.2];rfl
 have p:J2 ⟨s.bx,s.nm++[b.nm],s.dn,b.ss.map Rr.form⟩ b.e:=⟨by show s.dn.length<(s.nm++[_]).length;rw[Ep,ER];omega,fun q=>(zJ g.e.1 q).elim,g.e.2.2.1⟩
 have p:Pre ⟨s.bx,s.nm++[b.nm],s.dn,b.ss.map Rr.form⟩ b.e:=by
  have ge:=g.e.1
  cases h:b.e<;>rw[h] at p ge<;>first|exact p|cases ge
 refine⟨⟨⟨g.nm,i,n,l⟩,jV h1.1 ?_⟩,?_⟩
 ·show OkR [b.e] (Nu b.ss ⟨s.bx,s.nm++[b.nm],s.dn,[]⟩)
  rw[e2]
  exact⟨⟨g.e.2.1,p⟩,trivial⟩
 ·show Nu (b.ss++[b.e]) ⟨s.bx,s.nm++[b.nm],s.dn,[]⟩=_
  rw[kA,e2]
  show RS.step _ b.e=_
  rw[oF g.e.1]
  show RS.mk s.bx (s.nm++[b.nm]) (s.dn++[((s.nm++[b.nm]).getLastD "",b.ss.map Rr.form,b.e)]) _=_
  rw[uD]
theorem oS {bn ns:List Str}: ∀ (bl:List Bt) (s:RS),(∀b∈bl,BtG bn ns b)->s.bx.map (·.1)=bn->s.dn.length=s.nm.length->(s.nm++bl.map Bt.nm).Nodup->s.nm.length+bl.length<=10->OkR (bl.flatMap Bt.rows) s/\ ∃st,Nu (bl.flatMap Bt.rows) s=⟨s.bx,s.nm++bl.map Bt.nm,s.dn++bl.map (fun b=>(b.nm,b.ss.map Rr.form,b.e)),st⟩
 |[],s,_,_,_,_,_=>⟨trivial,s.st,by rw[EV,EV,EX,EX];rfl⟩
 |b::bl,s,g,hb,i,nd,l=>by
  rw[Es] at l
  rw[Er] at nd
  have nn:b.nm ∉ s.nm:=fun hm=>by
   rw[Gc] at nd
   exact nd.2.2 _ hm _ Eo rfl
  have h1:=yr (g b Eo) hb i (by omega) nn
  obtain⟨h2,st,h3⟩:=oS bl ⟨s.bx,s.nm++[b.nm],s.dn++[(b.nm,b.ss.map Rr.form,b.e)],b.ss.map Rr.form⟩ (fun b hb=>g b (EA _ hb)) hb (by show (s.dn++[_]).length=(s.nm++[_]).length;rw[Ep,Ep,i];rfl) (by show ((s.nm++[b.nm])++_).Nodup;rw[EQ];exact nd) (by show (s.nm++[_]).length+_<=10;rw[Ep,ER];omega)
  rw[Fy]
  refine⟨jV h1.1 (by rw[h1.2];exact h2),st,?_⟩
  rw[kA,h1.2,h3]
  show RS.mk _ ((s.nm++[b.nm])++bl.map Bt.nm) ((s.dn++[_])++_) _=_
  rw[EQ,EQ];rfl
def Bt.w (ns:List Str)(b:Bt):W:=.tup [.str b.nm,.tl (b.ss.map Rr.form),(b.e.en ns).w]
theorem Nr {bl:List Bt}(h:∀b∈bl,b.ss.length<=8):(bl.flatMap Bt.rows).length<=10 * bl.length:=by
 induction bl with
 |nil=>simp
 |cons b bl ih=>
  have a:=h b Eo
  have c:=ih fun b hb=>h b (EA _ hb)
  rw[Fy,Ep,Es]
  have:b.rows.length=b.ss.length+2:=by unfold Bt.rows;rw[Es,Ep];rfl
  omega
theorem vM {h:List Ob}{bx:List (Str×Str)}{bl:List Bt}(G:PtxG bx bl):Ok (lf [.str (OI (pgR bx bl))]) h fun w h'=>w=.tup [.tl ((bxV bx).map bqW),.tl (bl.map (Bt.w (bl.map Bt.nm)))]/\Fo h.length h h':=by
 have h1:=se bx [] G.b G.bn (by have:=G.b4;show 0+_<=4;omega)
 have ebx:(bxV bx).map (·.1)=bx.map (·.1):=by unfold bxV;rw[E2];rfl
 obtain⟨h2,st,h3⟩:=oS bl ⟨bxV bx,[],[],[]⟩ (fun b hb=>G.g b hb) ebx rfl G.n (by have:=G.l;show 0+_<=10;omega)
 have e1:Nu (bx.map fun b=>Rr.box b.1 b.2) RS.nil=⟨bxV bx,[],[],[]⟩:=h1.2
 have er:Nu (pgR bx bl) RS.nil=⟨bxV bx,bl.map Bt.nm,bl.map (fun b=>(b.nm,b.ss.map Rr.form,b.e)),st⟩:=by
  unfold pgR
  rw[kA,e1,h3];rfl
 have K:OkR (pgR bx bl) RS.nil:=jV h1.1 (by rw[e1];exact h2)
 have ll:=Nr fun b hb=>(G.g b hb).l
 have g1:=G.l
 have g2:=G.l1
 have g3:=G.b4
 have lp:(pgR bx bl).length=bx.length+(bl.flatMap Bt.rows).length:=by unfold pgR;rw[Ep,El]
 have ne:pgR bx bl≠ []:=by
  cases bl with
  |nil=>exact absurd g2 (by simp)
  |cons b bl=>unfold pgR;rw[Fy];unfold Bt.rows;simp
 have E:JP (Nu (pgR bx bl) RS.nil):=by
  rw[er]
  refine⟨by show (bl.map _).length=(bl.map _).length;rw[El,El],by show 1<=(bl.map _).length;rw[El];exact g2,fun b hb=>?_⟩
  have hb:b∈bl.map (fun b=>(b.nm,b.ss.map Rr.form,b.e)):=hb
  obtain⟨c,hc,rfl⟩:=EB.mp hb
  have g:=(G.g c hc).e
  exact⟨g.1,g.2.1,g.2.2.2⟩
 refine (yt K E ne (by omega)).imp fun w h' ⟨ew,F⟩=>⟨?_,F⟩
 rw[ew,er]
 show W.tup [.tl _,.tl ((bl.map fun b=>(b.nm,b.ss.map Rr.form,b.e)).map (bkW (bl.map Bt.nm)))]=_
 rw[E2];rfl
end
section
open Wd
theorem Cd {l:List W}{i:Int}{w:W}(h:atI l i=some w):ixW (.cl l) (.int i)=pr w:=by
 funext hh
 unfold ixW
 have:ixO (.cl l) (.int i) hh=some w:=h
 rw[this];rfl
theorem nU (ns:List Int)(i:Int)(h0:0<=i): ∃c:Int,bL [.cl (ns.map W.int),.int i]=pr (.int c):=by
 have e0:bL [.cl (ns.map W.int),.int i]=bd (dA [some (.cl (ns.map W.int)),some (.int i)]) KR:=rfl
 rw[e0]
 unfold dA
 by_cases hc:i<((ns.map W.int).length:Int)
 ·have q:=gG W.int ns 0 h0 (by rw[El] at hc;exact hc)
  refine⟨ns.getD i.toNat 0,?_⟩
  simp! only[aa,sC,decide_eq_true hc,Cd q]
 ·refine⟨0,?_⟩
  simp! only[aa,sC,decide_eq_false hc]
theorem oq (i:Int):J9 [.int i]=pr (.int (if i<0 then -i else i)):=rfl
noncomputable def Mr (a:Int):Nat->Int
 |0=>a
 |k+1=>if 10 ^ (18:Int).toNat<=a then Mr a k / 1009 else Mr a k
noncomputable def Mp (r:Int)(k:Int):Int:=(r % 2147483629+7919 * (k+1) * (k+3)) % 2147483629
def Mq (a:Int)(k:Nat):Int:=if 10 ^ (18:Int).toNat<=a then Mr a k % 1009 else (Mp (Mr a k) (0+(k:Int)) * Mp (Mr a k) (0+(k:Int)) % 2147483587+Mp (Mr a k) (0+(k:Int)) / 7) * 48271 % 2147483647 / 16
def My (c:Int)(n:Nat):List Int:=(List.range n).map (Mq (if c<0 then -c else c))
theorem iS (c:Int)(n:Nat):(My c n).length=n:=by unfold My;simp
theorem nu {h:List Ob}{c N:Int}{n:Nat}(hN:N=(n:Int))(hn:n<=60):Ok (bK [.int c,.int N]) h fun w h'=>w=.tl ((My c n).map W.int)/\Fo h.length h h':=by
 have e0:bK [.int c,.int N]=bd (dy [some (.int c),some (.int N),none,none,none,none]) KR:=rfl
 rw[e0]
 unfold dy
 have eN:N.toNat=n:=by omega
 simp!
 refine iq ?_
 simp! only[aa,oq,gz (show (-(2 ^ 62):Int)<=N by omega) (show N<2 ^ 62 by omega)]
 unfold My
 generalize hA:(if c<0 then -c else c)=A
 refine cP (I:=fun i ρ h'=> ∃a b,ρ=[some (.int c),some (.int N),some (.loc h.length),some (.int (Mr A i)),a,b]/\h'.length=h.length+1/\(∀j,j<h.length->h'[j]?=h[j]?)/\h'[h.length]?=some (.lst (((List.range i).map (Mq A)).map W.int))) ⟨_,_,rfl,by simp,fun j hj=>by rw[ET hj],fJ⟩ (fun _ _ _ _=>trivial) (fun i w ρ h1 hw I=>?_) fun ρ h1 I=>?_
 ·obtain⟨a,b,rfl,l1,q1,q2⟩:=I
  obtain⟨rfl,hi⟩:=cG _ _ _ _ hw
  rw[eN] at hi
  refine⟨_,rfl,?_⟩
  have er:(List.range (i+1)).map (Mq A)=(List.range i).map (Mq A)++[Mq A i]:=by rw[FQ,Et];rfl
  have z:(((List.range i).map (Mq A)).map W.int).length<sizeLine:=by rw[El,El,GH];exact E1 (show _<=60 by omega) (by decide)
  have fin: ∀x:Int,x=Mq A i->(h1.set h.length (.lst (((List.range i).map (Mq A)).map W.int++[.int x])))[h.length]?=some (.lst (((List.range (i+1)).map (Mq A)).map W.int)):=fun x e=>by rw[cY q2,er,e,Et];rfl
  have fr: ∀b:Ob,(h1.set h.length b).length=h.length+1/\ ∀j,j<h.length->(h1.set h.length b)[j]?=h[j]?:=fun b=>⟨by rw[EU];exact l1,fun j hj=>by rw[Ew (by omega)];exact q1 j hj⟩
  by_cases c18:10 ^ (18:Int).toNat<=A
  ·have n1:Mq A i=Mr A i % 1009:=by unfold Mq;rw[if_pos c18]
   have n2:Mr A (i+1)=Mr A i / 1009:=by show (if 10 ^ (18:Int).toNat<=A then _ else _)=_;rw[if_pos c18]
   simp! only[aa,oq,kE cp18,hA,decide_eq_true c18]
   refine cO q2 ?_
   simp! only[aa,ak (show (0:Int)<1009 by decide)]
   refine eS q2 z ?_
   simp! only[aa,bX (show (0:Int)<1009 by decide) (by decide)]
   rw[<-n2]
   exact ah ⟨_,rfl,_,_,rfl,(fr _).1,(fr _).2,fin _ n1.symm⟩
  ·have n1:Mq A i=(Mp (Mr A i) (0+(i:Int)) * Mp (Mr A i) (0+(i:Int)) % 2147483587+Mp (Mr A i) (0+(i:Int)) / 7) * 48271 % 2147483647 / 16:=by unfold Mq;rw[if_neg c18]
   have n2:Mr A (i+1)=Mr A i:=by show (if 10 ^ (18:Int).toNat<=A then _ else _)=_;rw[if_neg c18]
   simp! only[aa,oq,kE cp18,hA,decide_eq_false c18,ak (show (0:Int)<2147483629 by decide),iU (wB (i:=7919) (j:=0+(i:Int)+1) (by decide) (by decide)),iU (wA (i:=7919 * (0+(i:Int)+1)) (j:=0+(i:Int)+3) (by omega) (by omega))]
   have em:(Mr A i % 2147483629+7919 * (0+(i:Int)+1) * (0+(i:Int)+3)) % 2147483629=Mp (Mr A i) (0+(i:Int)):=rfl
   have m0:0<=Mp (Mr A i) (0+(i:Int)):=EY _ (by decide)
   have m1:Mp (Mr A i) (0+(i:Int))<2147483629:=EZ _ (by decide)
   rw[em]
   generalize Mp (Mr A i) (0+(i:Int))=x at *
   simp! only[aa,iU (wB (i:=x) (j:=x) (by omega) (by omega)),ak (show (0:Int)<2147483587 by decide),bX (show (0:Int)<7 by decide) (by decide)]
   refine cO q2 ?_
   simp! only[aa,iU (wA (i:=x * x % 2147483587+x / 7) (j:=48271) (by decide) (by decide)),ak (show (0:Int)<2147483647 by decide),bX (show (0:Int)<16 by decide) (by decide)]
   refine eS q2 z ?_
   simp!
   rw[<-n2]
   exact ah ⟨_,rfl,_,_,rfl,(fr _).1,(fr _).2,fin _ n1.symm⟩
 ·obtain⟨a,b,rfl,l1,q1,q2⟩:=I
  rw[cF,eN] at q2
  simp!
  refine jv q2 ?_
  simp!
  exact ah ⟨rfl,fun i hi=>by rw[Ew (by omega)];exact q1 i hi,by rw[EU,l1];omega⟩
theorem NM (a b c:Str):(a++b)++c=a++(b++c):=mL (by rw[hU,hU,hU,hU,EQ])
theorem Oe (a b:Str):(a++b).length=a.length+b.length:=Hv
theorem adS {a b:Str}(h:a.length+b.length<=100000):Ka (.str a) (.str b)=pr (.str (a++b)):=xU (sz h)
noncomputable def bn2:List Str:=["n", "nn"]
structure WG (z:Str)(e:Exp):Prop where
 w:Wrd z e
 b: ∀x∈KH e,x∈bn2
 d:KG e<=5
def wOk (z:Str):Bool:=match KL z with
 |none=>false
 |some e=>Ko z && (KI e && (decide (KG e<=5) && (decide ((KH e).length<=60) && (KH e).all fun x=>decide (x∈bn2))))
theorem Al {z:Str}(h:wOk z=true): ∃e,WG z e:=by
 unfold wOk at h
 cases e:KL z with
 |none=>rw[e] at h;cases h
 |some x=>
  rw[e] at h
  simp only[ES,decide_eq_true_eq,Fk] at h
  obtain⟨h1,h2,h3,h4,h5⟩:=h
  exact⟨x,⟨e,.of h1,h2,by omega,h4⟩,h5,h3⟩
noncomputable def wS (one more:Str):List Str:=[more,one,one++ "+"++more,one++ "-1", "nn-n", "n*"++more, "2*("++one++ "+1)", "7-"++one]
noncomputable def KQ:List Str:=["0", "1", "2", "3"]
theorem CO: ∀o,o<2-> ∀m,m<4-> ∀i,i<8->wOk ((wS (bn2.getD o "") (KQ.getD m "")).getD i "")=true:=by decide+kernel
theorem nr: ∀o,o<2->(bn2.getD o "").length<=2:=by decide+kernel
theorem kN: ∀m,m<4->(KQ.getD m "").length<=1:=by decide+kernel
theorem st4 {v:Int}(h0:0<=v)(h1:v<4):Ou [.int v]=pr (.str (KQ.getD v.toNat "")):=by
 have:v=0\/v=1\/v=2\/v=3:=by omega
 rcases this with rfl|rfl|rfl|rfl<;>exact vA (by decide)
theorem M9 {v:Int}(h0:0<=v)(h1:v<2):ixW (.tl [.str "n",.str "nn"]) (.int v)=pr (.str (bn2.getD v.toNat "")):=bP (gG W.str bn2 "" h0 h1)
theorem l8 {v:Int}(h0:0<=v)(h1:v<2):bn2.getD v.toNat ""∈bn2/\aK (bn2.getD v.toNat "")=true:=by
 have:v=0\/v=1:=by omega
 rcases this with rfl|rfl<;>decide+kernel
theorem LJ:(("+":Str).length=1/\("-1":Str).length=2/\("n*":Str).length=2/\("2*(":Str).length=3/\("+1)":Str).length=3/\("7-":Str).length=2)/\("say ":Str).length=4/\("ask ":Str).length=4/\("put ":Str).length=4/\(" ":Str).length=1/\("go ":Str).length=3/\("if ":Str).length=3/\(" else ":Str).length=6/\("block ":Str).length=6:=by decide+kernel
theorem mI (a b c:Int)(l:List W): ∃z e,cI [.tl (.int a::.int b::.int c::l)]=pr (.str z)/\WG z e:=by
 have a0:=EY a (show (8:Int)≠0 by decide)
 have a1:=EZ a (show (0:Int)<8 by decide)
 have b0:=EY b (show (2:Int)≠0 by decide)
 have b1:=EZ b (show (0:Int)<2 by decide)
 have c0:=EY c (show (4:Int)≠0 by decide)
 have c1:=EZ c (show (0:Int)<4 by decide)
 obtain⟨e,w⟩:=Al (CO (b % 2).toNat (by omega) (c % 4).toNat (by omega) (a % 8).toNat (by omega))
 refine⟨_,e,?_,w⟩
 have e0:cI [.tl (.int a::.int b::.int c::l)]=bd (fU [some (.tl (.int a::.int b::.int c::l)),none,none,none]) KR:=rfl
 rw[e0]
 unfold fU
 have l1:=nr (b % 2).toNat (by omega)
 have l2:=kN (c % 4).toNat (by omega)
 have p2:=M9 b0 b1
 have s4:=st4 c0 c1
 obtain⟨⟨k1,k2,k3,k4,k5,k6⟩,_⟩:=LJ
 generalize bn2.getD (b % 2).toNat ""=one at *
 generalize KQ.getD (c % 4).toNat ""=more at *
 have ix:ixW (.tl [.str more,.str one,.str (one++ "+"++more),.str (one++ "-1"),.str "nn-n",.str ("n*"++more),.str ("2*("++one++ "+1)"),.str ("7-"++one)]) (.int (a % 8))=pr (.str ((wS one more).getD (a % 8).toNat "")):=bP (gG W.str (wS one more) "" a0 a1)
 simp! only[aa,tx0,tx1,tx2,ak (show (0:Int)<2 by decide),ak (show (0:Int)<4 by decide),ak (show (0:Int)<8 by decide),p2,s4,adS (a:=one) (b:= "+") (by omega),adS (a:=one++ "+") (b:=more) (by rw[Oe];omega),adS (a:=one) (b:= "-1") (by omega),adS (a:= "n*") (b:=more) (by omega),adS (a:= "2*(") (b:=one) (by omega),adS (a:= "2*("++one) (b:= "+1)") (by rw[Oe];omega),adS (a:= "7-") (b:=one) (by omega),ix]
theorem WG.len {z:Str}{e:Exp}(g:WG z e):z.length<=60:=g.w.c.len
theorem LK:(("say ":Str)= "say"++⟨#[32]⟩/\("ask ":Str)= "ask"++⟨#[32]⟩/\("put ":Str)= "put"++⟨#[32]⟩/\("go ":Str)= "go"++⟨#[32]⟩)/\("if ":Str)= "if"++⟨#[32]⟩/\(" else ":Str)=⟨#[32]⟩++("else"++⟨#[32]⟩)/\("block ":Str)= "block"++⟨#[32]⟩/\(" < ":Str)=⟨#[32]⟩++("<"++⟨#[32]⟩)/\(" = ":Str)=⟨#[32]⟩++("="++⟨#[32]⟩):=by decide+kernel
def Rr.dep:Rr->Nat
 |.put _ _ e=>KG e
 |.say _ e=>KG e
 |.iff _ _ e1 _ e2 _ _=>max (KG e1) (KG e2)
 |.table _ e _=>KG e
 |_=>0
structure RG (r:Rr):Prop where
 ok:r.Ok
 b: ∀x∈r.bxs,x∈bn2
 d:r.dep<=5
theorem AF (z:Str)(e:Exp):(Rr.say z e).tx= "say "++z:=by rw[LK.1.1];rfl
theorem CA (z:Str):(Rr.ask z).tx= "ask "++z:=by rw[LK.1.2.1];rfl
theorem AM (x z:Str)(e:Exp):(Rr.put x z e).tx= "put "++x++ " "++z:=by
 rw[LK.1.2.2.1,rZ]
 show "put"++⟨#[32]⟩++(x++⟨#[32]⟩++z)=_
 simp only[NM]
theorem DK (z:Str):(Rr.go z).tx= "go "++z:=by rw[LK.1.2.2.2];rfl
theorem xL (z:Str):(Rr.block z).tx= "block "++z:=by rw[LK.2.2.2.1];rfl
theorem vB (p q r:Int): ∃R:Rr,bj [.tl [.int p,.int q,.int r]]=pr (.str R.tx)/\R.stm=true/\RG R:=by
 have e0:bj [.tl [.int p,.int q,.int r]]=bd (cR [some (.tl [.int p,.int q,.int r]),none]) KR:=rfl
 rw[e0]
 unfold cR
 obtain⟨z,e,ew,g⟩:=mI p q r []
 have zl:=g.len
 have k0:=EY (p / 8) (show (4:Int)≠0 by decide)
 have k1:=EZ (p / 8) (show (0:Int)<4 by decide)
 obtain⟨_,l1,l2,l3,l4,_⟩:=LJ
 by_cases c0:p / 8 % 4=0
 ·refine⟨.say z e,?_,rfl,g.w,g.b,g.d⟩
  rw[AF]
  simp! only[aa,tx0,bX (show (0:Int)<8 by decide) (by decide),ak (show (0:Int)<4 by decide),decide_eq_true c0,ew,adS (a:= "say ") (b:=z) (by omega)]
 by_cases c1:p / 8 % 4=1
 ·have r0:=EY r (show (2:Int)≠0 by decide)
  have r1:=EZ r (show (0:Int)<2 by decide)
  have m:=l8 r0 r1
  have l:=nr (r % 2).toNat (by omega)
  have p2:=M9 r0 r1
  generalize bn2.getD (r % 2).toNat ""=one at *
  refine⟨.ask one,?_,rfl,m.2,fun x hx=>by rw[EC.mp hx];exact m.1,EI _⟩
  rw[CA]
  simp! only[aa,tx0,tx2,bX (show (0:Int)<8 by decide) (by decide),ak (show (0:Int)<4 by decide),ak (show (0:Int)<2 by decide),decide_eq_false c0,decide_eq_true c1,p2,adS (a:= "ask ") (b:=one) (by omega)]
 ·have r0:=EY (r / 4) (show (2:Int)≠0 by decide)
  have r1:=EZ (r / 4) (show (0:Int)<2 by decide)
  have m:=l8 r0 r1
  have l:=nr (r / 4 % 2).toNat (by omega)
  have p2:=M9 r0 r1
  generalize bn2.getD (r / 4 % 2).toNat ""=one at *
  refine⟨.put one z e,?_,rfl,⟨m.2,g.w⟩,fun x hx=>?_,g.d⟩
  ·rw[AM]
   simp! only[aa,tx0,tx2,bX (show (0:Int)<8 by decide) (by decide),bX (show (0:Int)<4 by decide) (by decide),ak (show (0:Int)<4 by decide),ak (show (0:Int)<2 by decide),decide_eq_false c0,decide_eq_false c1,p2,ew,adS (a:= "put ") (b:=one) (by omega),adS (a:= "put "++one) (b:= " ") (by rw[Oe];omega),adS (a:= "put "++one++ " ") (b:=z) (by rw[Oe,Oe];omega)]
  ·rcases En.mp hx with rfl|hx
   ·exact m.1
   ·exact g.b x hx
end
section
open Wd
theorem DI (s z1 z2 x y:Str)(e1 e2:Exp):(Rr.iff s z1 e1 z2 e2 x y).tx= "if "++(z1++(⟨#[32]⟩++(s++⟨#[32]⟩))++z2)++ " "++x++ " else "++y:=by
 rw[LK.2.1,LK.2.2.1,rZ]
 show "if"++⟨#[32]⟩++(z1++⟨#[32]⟩++(s++⟨#[32]⟩++(z2++⟨#[32]⟩++(x++⟨#[32]⟩++("else"++⟨#[32]⟩++y)))))=_
 simp only[NM]
theorem zO {α:Type}(l:List α){v:Int}(h0:0<=v):(Kv l none (some v)).length<=v.toNat/\ ∀x∈Kv l none (some v),x∈l:=by
 unfold Kv
 refine⟨?_,fun x hx=>List.mem_of_mem_drop (HL hx)⟩
 rw[E5]
 have:HT.sIx l.length l.length (some v)<=v.toNat:=by
  show (if v<0 then (v+(l.length:Int)).toNat else min v.toNat l.length)<=_
  rw[if_neg (by omega)]
  omega
 show min (HT.sIx l.length l.length (some v) - HT.sIx l.length 0 none) _<=_
 omega
theorem sgn2 {v:Int}(h0:0<=v)(h1:v<2): ∃s:Str,ixW (.tl [.str " < ",.str " = "]) (.int v)=pr (.str (⟨#[32]⟩++(s++⟨#[32]⟩)))/\(s= "<"\/s= "=")/\s.length=1:=by
 have:v=0\/v=1:=by omega
 rcases this with rfl|rfl
 ·exact⟨"<",by rw[tx0,LK.2.2.2.2.1],.inl rfl,by decide+kernel⟩
 ·exact⟨"=",by rw[tx1,LK.2.2.2.2.2],.inr rfl,by decide+kernel⟩
theorem sA {ns:List Str}{x N:Int}(hN:N=(ns.length:Int))(l1:1<=ns.length): ∃s∈ns,ixW (.tl (ns.map W.str)) (.int (x % N))=pr (.str s):=by
 have a0:=EY x (show N≠0 by omega)
 have a1:=EZ x (show 0<N by omega)
 have hi:(x % N).toNat<ns.length:=by omega
 exact⟨ns[(x % N).toNat],List.getElem_mem _,bP (aO a0 (by rw[ED,EL hi];rfl))⟩
theorem tx7 (a b c d e f g h:W)(l:List W):ixW (.tl (a::b::c::d::e::f::g::h::l)) (.int 7)=pr h:=bP (aO (by decide) rfl)
theorem tx8 (a b c d e f g h i:W)(l:List W):ixW (.tl (a::b::c::d::e::f::g::h::i::l)) (.int 8)=pr i:=bP (aO (by decide) rfl)
theorem tx9 (a b c d e f g h i j:W)(l:List W):ixW (.tl (a::b::c::d::e::f::g::h::i::j::l)) (.int 9)=pr j:=bP (aO (by decide) rfl)
theorem ON (a b c d e f g h i j k:W)(l:List W):ixW (.tl (a::b::c::d::e::f::g::h::i::j::k::l)) (.int 10)=pr k:=bP (aO (by decide) rfl)
section
variable (x0 x1 x2 x3 x4 x5 x6 x7 x8 x9 x10 x11:W)
theorem Kt:Kv [x0,x1,x2,x3,x4,x5,x6,x7,x8,x9,x10,x11] (some 9) (some 12)=[x9,x10,x11]:=rfl
theorem xy:Kv [x0,x1,x2,x3,x4,x5,x6,x7,x8,x9,x10,x11] (some 10) (some 12)=[x10,x11]:=rfl
theorem ct01:Kv [x0,x1,x2,x3,x4,x5,x6,x7,x8,x9,x10,x11] none (some 1)=[x0]:=rfl
theorem ct14:Kv [x0,x1,x2,x3,x4,x5,x6,x7,x8,x9,x10,x11] (some 1) (some 4)=[x1,x2,x3]:=rfl
theorem ct47:Kv [x0,x1,x2,x3,x4,x5,x6,x7,x8,x9,x10,x11] (some 4) (some 7)=[x4,x5,x6]:=rfl
end
theorem ad21 (a b c:W):Ka (.tl [a,b]) (.tl [c])=pr (.tl [a,b,c]):=f9 [a,b] [c] (sz (by show 2+1<=_;omega))
theorem xH {a b:List Str}(h:∀x∈a,x∈bn2)(g:∀x∈b,x∈bn2): ∀x∈a++b,x∈bn2:=fun x hx=>by
 rcases E6.mp hx with hx|hx
 ·exact h x hx
 ·exact g x hx
theorem oz: ∀ {l:List Str},(∀z∈l,z.length<=60)->(l.map (·.length)).sum<=60 * l.length
 |[],_=>by simp
 |z::l,h=>by
  have a:=h z Eo
  have b:=oz (l:=l) fun z hz=>h z (EA _ hz)
  rw[Er,Fe,Es,Hj]
  omega
theorem zr {ns:List Str}(x0 x1 x2 x3 x4 x5 x6 x7 x8 x9 x10 x11:Int)(l1:1<=ns.length)(l2:ns.length<=10)(nm: ∀x∈ns,aK x=true): ∃R:Rr,fj [.tl [.int x0,.int x1,.int x2,.int x3,.int x4,.int x5,.int x6,.int x7,.int x8,.int x9,.int x10,.int x11],.tl (ns.map W.str)]=pr (.str R.tx)/\R.end'=true/\RG R/\ ∀x∈R.tos,x∈ns:=by
 have e0:fj [.tl [.int x0,.int x1,.int x2,.int x3,.int x4,.int x5,.int x6,.int x7,.int x8,.int x9,.int x10,.int x11],.tl (ns.map W.str)]=bd (gZ [some (.tl [.int x0,.int x1,.int x2,.int x3,.int x4,.int x5,.int x6,.int x7,.int x8,.int x9,.int x10,.int x11]),some (.tl (ns.map W.str)),none,none,none,none,none,none]) KR:=rfl
 rw[e0]
 unfold gZ
 obtain⟨N,hN⟩: ∃N:Int,N=(ns.length:Int):=⟨_,rfl⟩
 have N0:0<N:=by omega
 have eL:LP [.tl (ns.map W.str)]=pr (.int N):=by rw[lenW_tl,El,hN]
 obtain⟨one,m1,i1⟩:=sA (x:=x8) hN l1
 obtain⟨other,m2,i2⟩:=sA (x:=x9) hN l1
 have o1:=(bW (nm one m1)).len
 have o2:=(bW (nm other m2)).len
 have v0:=EY x10 (show (3:Int)≠0 by decide)
 have v1:=EZ x10 (show (0:Int)<3 by decide)
 obtain⟨f1,f2⟩:=zO ns v0
 have cm:=zN W.str ns none (some (x10 % 3))
 have sl:slW (.tl (ns.map W.str)) none (some (x10 % 3))=pr (.tl ((Kv ns none (some (x10 % 3))).map W.str)):=by rw[slW_tl,cm]
 generalize Kv ns none (some (x10 % 3))=few at *
 generalize W.tl (ns.map W.str)=NW at *
 obtain⟨w1,e1,ew1,g1⟩:=mI x9 x10 x11 []
 obtain⟨w2,e2,ew2,g2⟩:=mI x10 x11 x0 []
 have z1:=g1.len
 have z2:=g2.len
 obtain⟨_,_,_,_,k4,k5,k6,k7,_⟩:=LJ
 have k8:=EZ x7 (show (0:Int)<8 by decide)
 by_cases c2:x7 % 8<2
 ·refine⟨.go one,?_,rfl,⟨nm one m1,fun x hx=>absurd hx EF,EI _⟩,fun x hx=>by rw[EC.mp hx];exact m1⟩
  rw[DK]
  simp! only[aa,tx7,tx8,tx9,ON,eL,ak N0,ak (show (0:Int)<8 by decide),i1,i2,decide_eq_true c2,adS (a:= "go ") (b:=one) (by omega)]
 by_cases c5:x7 % 8=5
 ·refine⟨.table w1 e1 (one::other::few),?_,rfl,⟨⟨g1.w,by simp,by rw[Es,Es];omega,fun x hx=>?_⟩,g1.b,g1.d⟩,fun x hx=>?_⟩
  ·have gl: ∀ {α:Type} (q:M α),gd (0+1+1+1+1+(few.map W.str).length<=sizeLine) q=q:=fun q=>ag (by rw[El];exact sz (by omega))
   have jw:Lz (.str " ") [.tl ([W.str "table",W.str w1,W.str one,W.str other]++few.map W.str)]=pr (.str (Str.join " " ("table"::w1::one::other::few))):=by
    refine wX (ts:= "table"::w1::one::other::few) (sz ?_)
    have fl: ∀z∈few,z.length<=60:=fun z hz=>(bW (nm z (f2 z hz))).len
    have fs:=oz fl
    have t5:("table":Str).length=5:=by decide+kernel
    simp only[Er,Fe,Es]
    rw[k4]
    omega
   simp! only[aa,tx7,tx8,tx9,ON,eL,ak N0,ak (show (0:Int)<8 by decide),ak (show (0:Int)<3 by decide),i1,i2,decide_eq_false c2,decide_eq_true c5,Kt,ew1,sl,Km,sB,gl,jw]
   rw[rZ]
   rfl
  ·rcases En.mp hx with rfl|hx
   ·exact nm _ m1
   ·rcases En.mp hx with rfl|hx
    ·exact nm _ m2
    ·exact nm _ (f2 x hx)
  ·rcases En.mp hx with rfl|hx
   ·exact m1
   ·rcases En.mp hx with rfl|hx
    ·exact m2
    ·exact f2 x hx
 by_cases c6:x7 % 8=6
 ·refine⟨.stop,?_,rfl,⟨trivial,fun x hx=>absurd hx EF,EI _⟩,fun x hx=>absurd hx EF⟩
  simp! only[aa,tx7,tx8,tx9,ON,eL,ak N0,ak (show (0:Int)<8 by decide),i1,i2,decide_eq_false c2,decide_eq_false c5,decide_eq_true c6]
  rfl
 ·have s0:=EY (x10 / 8) (show (2:Int)≠0 by decide)
  have s1:=EZ (x10 / 8) (show (0:Int)<2 by decide)
  obtain⟨s,es,hs,ls⟩:=sgn2 s0 s1
  have sgl:((⟨#[32]⟩:Str)++(s++⟨#[32]⟩)).length=3:=by rw[Oe,Oe,ls];rfl
  have tx:=fun y=>DI s w1 w2 one y e1 e2
  generalize ((⟨#[32]⟩:Str)++(s++⟨#[32]⟩))=sg at *
  by_cases c7:x7 % 8=7
  ·refine⟨.iff s w1 e1 w2 e2 one one,?_,rfl,⟨⟨hs,g1.w,g2.w,nm one m1,nm one m1⟩,xH g1.b g2.b,Nat.max_le.mpr ⟨g1.d,g2.d⟩⟩,fun x hx=>by rcases En.mp hx with rfl|hx;exact m1;rw[EC.mp hx];exact m1⟩
   rw[tx]
   simp! only[aa,tx7,tx8,tx9,ON,eL,ak N0,ak (show (0:Int)<8 by decide),ak (show (0:Int)<2 by decide),bX (show (0:Int)<8 by decide) (by decide),i1,i2,decide_eq_false c2,decide_eq_false c5,decide_eq_false c6,decide_eq_true c7,es,Kt,xy,ct01,ad21,ew1,ew2,adS (a:=w1) (b:=sg) (by omega),adS (a:=w1++sg) (b:=w2) (by rw[Oe];omega),adS (a:= "if ") (b:=w1++sg++w2) (by rw[Oe,Oe];omega),adS (a:= "if "++(w1++sg++w2)) (b:= " ") (by rw[Oe,Oe,Oe];omega),adS (a:= "if "++(w1++sg++w2)++ " ") (b:=one) (by rw[Oe,Oe,Oe,Oe];omega),adS (a:= "if "++(w1++sg++w2)++ " "++one) (b:= " else ") (by rw[Oe,Oe,Oe,Oe,Oe];omega),adS (a:= "if "++(w1++sg++w2)++ " "++one++ " else ") (b:=one) (by rw[Oe,Oe,Oe,Oe,Oe,Oe];omega)]
  ·refine⟨.iff s w1 e1 w2 e2 one other,?_,rfl,⟨⟨hs,g1.w,g2.w,nm one m1,nm other m2⟩,xH g1.b g2.b,Nat.max_le.mpr ⟨g1.d,g2.d⟩⟩,fun x hx=>by rcases En.mp hx with rfl|hx;exact m1;rw[EC.mp hx];exact m2⟩
   rw[tx]
   simp! only[aa,tx7,tx8,tx9,ON,eL,ak N0,ak (show (0:Int)<8 by decide),ak (show (0:Int)<2 by decide),bX (show (0:Int)<8 by decide) (by decide),i1,i2,decide_eq_false c2,decide_eq_false c5,decide_eq_false c6,decide_eq_false c7,es,Kt,xy,ct01,ad21,ew1,ew2,adS (a:=w1) (b:=sg) (by omega),adS (a:=w1++sg) (b:=w2) (by rw[Oe];omega),adS (a:= "if ") (b:=w1++sg++w2) (by rw[Oe,Oe];omega),adS (a:= "if "++(w1++sg++w2)) (b:= " ") (by rw[Oe,Oe,Oe];omega),adS (a:= "if "++(w1++sg++w2)++ " ") (b:=one) (by rw[Oe,Oe,Oe,Oe];omega),adS (a:= "if "++(w1++sg++w2)++ " "++one) (b:= " else ") (by rw[Oe,Oe,Oe,Oe,Oe];omega),adS (a:= "if "++(w1++sg++w2)++ " "++one++ " else ") (b:=other) (by rw[Oe,Oe,Oe,Oe,Oe,Oe];omega)]
noncomputable def nmA:List Str:=["a", "b", "c", "d", "e", "f", "g", "h", "i", "j"]
def nmB:List Str:=["top", "t", "ab", "a", "zed", "n", "nn", "out", "mid", "x"]
def nmL (i:Nat):List Str:=[nmA,nmB,nmA.reverse,nmB.reverse].getD i []
theorem Br: ∀i,i<4->(nmL i).length=10/\(nmL i).all aK=true/\(nmL i).Nodup:=by decide+kernel
theorem wx (x:Int):dE [.int x]=pr (.tl ((nmL (x % 4).toNat).map W.str)):=by
 have e0:dE [.int x]=bd (eF [some (.int x),none,none]) KR:=rfl
 rw[e0]
 unfold eF
 have a0:=EY x (show (4:Int)≠0 by decide)
 have a1:=EZ x (show (0:Int)<4 by decide)
 have rv: ∀l:List W,No (.tl l) (some (-1))=pr (.tl l.reverse):=fun l=>rfl
 have ix:ixW (.tl [.tl (nmA.map W.str),.tl (nmB.map W.str),.tl (nmA.map W.str).reverse,.tl (nmB.map W.str).reverse]) (.int (x % 4))=pr (.tl ((nmL (x % 4).toNat).map W.str)):=by
  rw[<-List.map_reverse,<-List.map_reverse]
  exact bP (gG (fun l:List Str=>W.tl (l.map W.str)) [nmA,nmB,nmA.reverse,nmB.reverse] [] a0 a1)
 have ea:[W.str "a",W.str "b",W.str "c",W.str "d",W.str "e",W.str "f",W.str "g",W.str "h",W.str "i",W.str "j"]=nmA.map W.str:=rfl
 have eb:[W.str "top",W.str "t",W.str "ab",W.str "a",W.str "zed",W.str "n",W.str "nn",W.str "out",W.str "mid",W.str "x"]=nmB.map W.str:=rfl
 simp!
 rw[ea,eb]
 generalize nmA.map W.str=LA at *
 generalize nmB.map W.str=LB at *
 simp! only[aa,Ma,rv,ak (show (0:Int)<4 by decide),ix]
theorem ln12: ∀ {l:List Int},l.length=12-> ∃a b c d e f g h i j k m,l=[a,b,c,d,e,f,g,h,i,j,k,m]
 |[a,b,c,d,e,f,g,h,i,j,k,m],_=>⟨a,b,c,d,e,f,g,h,i,j,k,m,rfl⟩
theorem ln4': ∀ {l:List Int},l.length=4-> ∃a b c d,l=[a,b,c,d]
 |[a,b,c,d],_=>⟨a,b,c,d,rfl⟩
structure BtL (ns:List Str)(b:Bt):Prop where
 g:BtG bn2 ns b
 l:b.ss.length<=2
 d:(∀r∈b.ss,r.dep<=5)/\b.e.dep<=5
def bT:JR->M Fl:=(NJ (NK 6 (LY (arW 2 bK) (L0 (LY (arW 2 bL) (L0 (Me 0) (L0 (m2 Ka (mC (.int 1)) (Me 5)) L7))) (L0 (mC (.int 12)) L7)))) (NJ (sEx (L5 isL aX (Me 4) (L0 (m2 Ka (mC (.str "block ")) (m2 ixW (Me 3) (Me 5))) L7))) (NJ (sIf (mB (m2 gtW (m2 Mm (m2 ixW (Me 6) (mC (.int 0))) (mC (.int 3))) (mC (.int 0)))) (sEx (L5 isL aX (Me 4) (L0 (LY (arW 1 bj) (L0 (m3 slW (Me 6) (L9 (mC (.int 1))) (L9 (mC (.int 4)))) L7)) L7))) NG) (NJ (sIf (mB (m2 gtW (m2 Mm (m2 ixW (Me 6) (mC (.int 0))) (mC (.int 3))) (mC (.int 1)))) (sEx (L5 isL aX (Me 4) (L0 (LY (arW 1 bj) (L0 (m3 slW (Me 6) (L9 (mC (.int 4))) (L9 (mC (.int 7)))) L7)) L7))) NG) (sEx (L5 isL aX (Me 4) (L0 (LY (arW 2 fj) (L0 (Me 6) (L0 (Me 3) L7))) L7)))))))
theorem kH:fV=(NJ (NK 2 (LY (arW 2 bK) (L0 (LY (arW 2 bL) (L0 (Me 0) (L0 (mC (.int 0)) L7))) (L0 (mC (.int 4)) L7)))) (NJ (NK 3 (m3 slW (LY (arW 1 dE) (L0 (m2 ixW (Me 2) (mC (.int 0))) L7)) ao (L9 (m2 Ka (mC (.int 1)) (m2 Mm (m2 ixW (Me 2) (mC (.int 1))) (Me 1)))))) (NJ (NK 4 (L6 (LO (L0 (m2 Ka (mC (.str "box n ")) (LY Ou (L0 (m2 Mm (m2 ixW (Me 2) (mC (.int 2))) (mC (.int 3))) L7))) (L0 (m2 Ka (mC (.str "box nn ")) (LY Ou (L0 (m2 Mm (m2 ixW (Me 2) (mC (.int 3))) (mC (.int 4))) L7))) L7))))) (NJ (NF (Mc (L0 (LY LP (L0 (Me 3) L7)) L7) Np) (tgN 5) bT) (NH (L5 isS Lz (mC (.str "\n")) (L0 (Me 4) L7))))))):=rfl
theorem zU (sc:List Int){ns:List Str}{k:Nat}{nm:Str}(hk:ns[k]?=some nm)(l2:ns.length<=10)(na: ∀x∈ns,aK x=true): ∃b:Bt,b.nm=nm/\BtL ns b/\ ∀ (h:List Ob) (j:Nat) (L:List Str) (a mo hd:Option W),h[j]?=some (.lst (L.map W.str))->L.length<=200->
  Ok (bT [some (.cl (sc.map W.int)),mo,hd,some (.tl (ns.map W.str)),some (.loc j),some (.int (0+(k:Int))),a]) h fun x h'=>(∃a',x=.nx [some (.cl (sc.map W.int)),mo,hd,some (.tl (ns.map W.str)),some (.loc j),some (.int (0+(k:Int))),a'])/\h'[j]?=some (.lst ((L++b.rows.map Rr.tx).map W.str))/\(∀i,i<h.length->i≠j->h'[i]?=h[i]?)/\h.length<=h'.length:=by
 obtain⟨c,ec⟩:=nU sc (1+(0+(k:Int))) (by omega)
 obtain⟨x0,x1,x2,x3,x4,x5,x6,x7,x8,x9,x10,x11,ex⟩:=ln12 (iS c 12)
 have hl:=(Ev.mp hk).1
 obtain⟨R1,es1,st1,g1⟩:=vB x1 x2 x3
 obtain⟨R2,es2,st2,g2⟩:=vB x4 x5 x6
 obtain⟨R,ee,en,g,to⟩:=zr x0 x1 x2 x3 x4 x5 x6 x7 x8 x9 x10 x11 (ns:=ns) (by omega) l2 na
 have nm1:=na nm (EO hk)
 have nl:=(bW nm1).len
 have v0:=EY x0 (show (3:Int)≠0 by decide)
 have v1:=EZ x0 (show (0:Int)<3 by decide)
 have ik:ixW (.tl (ns.map W.str)) (.int (0+(k:Int)))=pr (.str nm):=bP (aO (by omega) (by rw[ED,show (0+(k:Int)).toNat=k by omega,hk];rfl))
 have kb:("block ":Str).length=6:=LJ.2.2.2.2.2.2.2.2
 have ss: ∀ {h:List Ob}{j:Nat}{L:List Str}{z:Str}{β:Type}{k:W->M β}{Q:β->List Ob->Prop},h[j]?=some (.lst (L.map W.str))->L.length<=300->(∀h',h'[j]?=some (.lst ((L++[z]).map W.str))->(∀i,i≠j->h'[i]?=h[i]?)->h'.length=h.length->Ok (k .non) h' Q)->Ok (bd (aX (.loc j) [.str z]) k) h Q:=fun{h j L z β k Q} e l q=>by
  refine eS e (by rw[El];exact E1 l (by decide)) (q _ ?_ (fun i hi=>Ew (Ne.symm hi)) (EU ..))
  rw[cY e,Et];rfl
 refine⟨⟨nm,if x0 % 3=0 then [] else if x0 % 3=1 then [R1] else [R1,R2],R⟩,rfl,⟨⟨nm1,?_,?_,⟨en,g.ok,g.b,to⟩⟩,?_,?_,g.d⟩,fun h j L a mo hd ej lL=>?_⟩
 ·show (if x0 % 3=0 then [] else if x0 % 3=1 then [R1] else [R1,R2]).length<=8
  split
  ·simp
  ·split<;>simp
 ·intro r hr
  have hr:r∈(if x0 % 3=0 then [] else if x0 % 3=1 then [R1] else [R1,R2]):=hr
  have two:r∈[R1,R2]->r.stm=true/\r.Ok/\ ∀x∈r.bxs,x∈bn2:=fun hm=>by
   rcases En.mp hm with rfl|hm
   ·exact⟨st1,g1.ok,g1.b⟩
   ·rw[EC.mp hm];exact⟨st2,g2.ok,g2.b⟩
  split at hr
  ·exact absurd hr EF
  ·split at hr
   ·exact two (by rw[EC.mp hr];exact Eo)
   ·exact two hr
 ·show (if x0 % 3=0 then [] else if x0 % 3=1 then [R1] else [R1,R2]).length<=2
  split
  ·simp
  ·split<;>simp
 ·intro r hr
  have hr:r∈(if x0 % 3=0 then [] else if x0 % 3=1 then [R1] else [R1,R2]):=hr
  have two:r∈[R1,R2]->r.dep<=5:=fun hm=>by
   rcases En.mp hm with rfl|hm
   ·exact g1.d
   ·rw[EC.mp hm];exact g2.d
  split at hr
  ·exact absurd hr EF
  ·split at hr
   ·exact two (by rw[EC.mp hr];exact Eo)
   ·exact two hr
 unfold bT
 have em:(My c 12).map W.int=[.int x0,.int x1,.int x2,.int x3,.int x4,.int x5,.int x6,.int x7,.int x8,.int x9,.int x10,.int x11]:=by rw[ex];rfl
 simp! only[aa,ec]
 refine aD (nu (n:=12) rfl (by decide)) fun w h1 qq_=>?_
 obtain⟨ew,F⟩:=qq_
 subst ew
 rw[em]
 have e1:h1[j]?=some (.lst (L.map W.str)):=(F.eq j (da ej)).trans ej
 have bt:=xL nm
 simp!
 refine cO e1 ?_
 simp! only[aa,ik,adS (a:= "block ") (b:=nm) (by omega)]
 rw[<-bt]
 refine ss e1 (by omega) fun h2 e2 f2 l2'=>?_
 have lL2:(L++[(Rr.block nm).tx]).length<=201:=by rw[Ep,ER];omega
 by_cases c0:x0 % 3=0
 ·simp! only[aa,tx0,ak (show (0:Int)<3 by decide),decide_eq_false (show¬(0:Int)<x0 % 3 by omega),decide_eq_false (show¬(1:Int)<x0 % 3 by omega)]
  refine cO e2 ?_
  simp! only[aa,ee]
  refine ss e2 (by omega) fun h3 e3 f3 l3=>?_
  simp!
  refine ah ⟨⟨_,rfl⟩,?_,fun i hi hj=>?_,?_⟩
  ·rw[e3,if_pos c0,EQ];rfl
  ·rw[f3 i hj,f2 i hj];exact F.eq i hi
  ·rw[l3,l2'];exact F.le
 by_cases c1:x0 % 3=1
 ·simp! only[aa,tx0,ak (show (0:Int)<3 by decide),decide_eq_true (show (0:Int)<x0 % 3 by omega),decide_eq_false (show¬(1:Int)<x0 % 3 by omega)]
  refine cO e2 ?_
  simp! only[aa,ct14,es1]
  refine ss e2 (by omega) fun h3 e3 f3 l3=>?_
  simp! only[aa,tx0,ak (show (0:Int)<3 by decide),decide_eq_false (show¬(1:Int)<x0 % 3 by omega)]
  refine cO e3 ?_
  simp! only[aa,ee]
  refine ss e3 (by rw[Ep,ER];omega) fun h4 e4 f4 l4=>?_
  simp!
  refine ah ⟨⟨_,rfl⟩,?_,fun i hi hj=>?_,?_⟩
  ·rw[e4,if_neg c0,if_pos c1,EQ,EQ];rfl
  ·rw[f4 i hj,f3 i hj,f2 i hj];exact F.eq i hi
  ·rw[l4,l3,l2'];exact F.le
 ·simp! only[aa,tx0,ak (show (0:Int)<3 by decide),decide_eq_true (show (0:Int)<x0 % 3 by omega),decide_eq_true (show (1:Int)<x0 % 3 by omega)]
  refine cO e2 ?_
  simp! only[aa,ct14,es1]
  refine ss e2 (by omega) fun h3 e3 f3 l3=>?_
  simp! only[aa,tx0,ak (show (0:Int)<3 by decide),decide_eq_true (show (1:Int)<x0 % 3 by omega)]
  refine cO e3 ?_
  simp! only[aa,ct47,es2]
  refine ss e3 (by rw[Ep,ER];omega) fun h4 e4 f4 l4=>?_
  simp!
  refine cO e4 ?_
  simp! only[aa,ee]
  refine ss e4 (by rw[Ep,Ep,ER,ER];omega) fun h5 e5 f5 l5=>?_
  simp!
  refine ah ⟨⟨_,rfl⟩,?_,fun i hi hj=>?_,?_⟩
  ·rw[e5,if_neg c0,if_neg c1,EQ,EQ,EQ];rfl
  ·rw[f5 i hj,f4 i hj,f3 i hj,f2 i hj];exact F.eq i hi
  ·rw[l5,l4,l3,l2'];exact F.le
theorem pU {α:Type}(l:List α){v:Int}(h0:0<=v):Kv l none (some v)=l.take v.toNat:=by
 unfold Kv
 show List.take ((if v<0 then (v+(l.length:Int)).toNat else min v.toNat l.length) - 0) (l.drop 0)=_
 rw[if_neg (by omega),Hc,Nat.sub_zero]
 by_cases h:v.toNat<=l.length
 ·rw[GJ h]
 ·rw[Nat.min_eq_right (by omega),EN,Go (by omega)]
theorem xK (x v:Str):(Rr.box x v).tx= "box"++⟨#[32]⟩++(x++⟨#[32]⟩++v):=rfl
theorem DF:("box n ":Str)= "box"++⟨#[32]⟩++("n"++⟨#[32]⟩)/\("box nn ":Str)= "box"++⟨#[32]⟩++("nn"++⟨#[32]⟩)/\("box n ":Str).length=6/\("box nn ":Str).length=7:=by decide+kernel
theorem sR: ∀m,m<4->Mw (KQ.getD m "")=true:=by decide+kernel
theorem Ke:aK "n"=true/\aK "nn"=true/\(["n", "nn"]:List Str).Nodup:=by decide+kernel
structure TxG (most:Nat)(bx:List (Str×Str))(bl:List Bt):Prop where
 g:PtxG bx bl
 b: ∀b∈bl,BtL (bl.map Bt.nm) b
 n:bx.map (·.1)=bn2
 l:bl.length<=most
theorem ya (sc:List Int){most:Nat}{MM:Int}(hM:MM=(most:Int))(m1:1<=most)(m2:most<=10): ∃bx bl,TxG most bx bl/\ ∀h:List Ob,Ok (fZ [.cl (sc.map W.int),.int MM]) h fun w h'=>w=.str (OI (pgR bx bl))/\Fo h.length h h':=by
 obtain⟨c,ec⟩:=nU sc 0 (by omega)
 obtain⟨y0,y1,y2,y3,ey⟩:=ln4' (iS c 4)
 have i0:=EY y0 (show (4:Int)≠0 by decide)
 have i1:=EZ y0 (show (0:Int)<4 by decide)
 obtain⟨nl,na,nd⟩:=Br (y0 % 4).toNat (by omega)
 have na:=Fk.mp na
 have v0:=EY y1 (show MM≠0 by omega)
 have v1:=EZ y1 (show 0<MM by omega)
 have hn:=wx y0
 obtain⟨ns,hns⟩: ∃ns,ns=(nmL (y0 % 4).toNat).take (1+y1 % MM).toNat:=⟨_,rfl⟩
 have ln:ns.length=(1+y1 % MM).toNat:=by rw[hns,E5,nl];omega
 have nn: ∀x∈ns,aK x=true:=fun x hx=>by rw[hns] at hx;exact na x (HL hx)
 have ndn:ns.Nodup:=by rw[hns];exact nd.sublist (Hs _ _)
 have sl:slW (.tl ((nmL (y0 % 4).toNat).map W.str)) none (some (1+y1 % MM))=pr (.tl (ns.map W.str)):=by
  rw[slW_tl,pU _ (by omega),<-GC,<-hns]
 generalize nmL (y0 % 4).toNat=NL at *
 have s0:=EY y2 (show (3:Int)≠0 by decide)
 have s1:=EZ y2 (show (0:Int)<3 by decide)
 have t0:=EY y3 (show (4:Int)≠0 by decide)
 have t1:=EZ y3 (show (0:Int)<4 by decide)
 have sv:=st4 s0 (show y2 % 3<4 by omega)
 have tv:=st4 t0 t1
 have n2:=sR (y2 % 3).toNat (by omega)
 have n3:=sR (y3 % 4).toNat (by omega)
 have l2:=kN (y2 % 3).toNat (by omega)
 have l3:=kN (y3 % 4).toNat (by omega)
 generalize KQ.getD (y2 % 3).toNat ""=f2 at *
 generalize KQ.getD (y3 % 4).toNat ""=f3 at *
 have bo: ∀k:Nat,∃b:Bt,∀nm,ns[k]?=some nm->b.nm=nm/\BtL ns b/\ ∀ (h:List Ob) (j:Nat) (L:List Str) (a mo hd:Option W),h[j]?=some (.lst (L.map W.str))->L.length<=200->
  Ok (bT [some (.cl (sc.map W.int)),mo,hd,some (.tl (ns.map W.str)),some (.loc j),some (.int (0+(k:Int))),a]) h fun x h'=>(∃a',x=.nx [some (.cl (sc.map W.int)),mo,hd,some (.tl (ns.map W.str)),some (.loc j),some (.int (0+(k:Int))),a'])/\h'[j]?=some (.lst ((L++b.rows.map Rr.tx).map W.str))/\(∀i,i<h.length->i≠j->h'[i]?=h[i]?)/\h.length<=h'.length:=fun k=>by
  cases e:ns[k]? with
  |none=>exact⟨⟨"",[],.stop⟩,fun nm h=>by cases h⟩
  |some nm=>
   obtain⟨b,q⟩:=zU sc e (by omega) nn
   exact⟨b,fun nm' h=>by cases h;exact q⟩
 obtain⟨F,hF⟩:=Classical.axiomOfChoice bo
 have gF: ∀k,k<ns.length-> ∃nm,ns[k]?=some nm:=fun k hk=>⟨_,EL hk⟩
 have enm:((List.range ns.length).map F).map Bt.nm=ns:=by
  apply GE
  intro k
  rw[E2,ED]
  by_cases hk:k<ns.length
  ·obtain⟨nm,e⟩:=gF k hk
   rw[HM hk,e]
   exact congrArg some (hF k nm e).1
  ·rw[FR (by rw[GH];omega),FR (by omega)];rfl
 have all: ∀b∈(List.range ns.length).map F,BtL ns b:=fun b hb=>by
  obtain⟨k,hk,rfl⟩:=EB.mp hb
  obtain⟨nm,e⟩:=gF k (FW.mp hk)
  exact (hF k nm e).2.1
 have lbl:((List.range ns.length).map F).length=ns.length:=by rw[El,GH]
 refine⟨[("n",f2),("nn",f3)],(List.range ns.length).map F,⟨⟨fun x hx=>?_,Ke.2.2,by simp,by rw[enm];exact ndn,by rw[lbl];omega,by rw[lbl];omega,fun b hb=>by rw[enm];exact (all b hb).g⟩,fun b hb=>by rw[enm];exact all b hb,rfl,by rw[lbl];omega⟩,fun h=>?_⟩
 ·rcases En.mp hx with rfl|hx
  ·exact⟨Ke.1,n2⟩
  ·rw[EC.mp hx];exact⟨Ke.2.1,n3⟩
 have e0:fZ [.cl (sc.map W.int),.int MM]=bd (fV [some (.cl (sc.map W.int)),some (.int MM),none,none,none,none,none]) KR:=rfl
 rw[e0,kH]
 have em:(My c 4).map W.int=[.int y0,.int y1,.int y2,.int y3]:=by rw[ey];rfl
 simp! only[aa,ec]
 refine aD (nu (n:=4) rfl (by decide)) fun w h1 qq_=>?_
 obtain⟨ew,F1⟩:=qq_
 subst ew
 rw[em]
 obtain⟨kb1,kb2,kb3,kb4⟩:=DF
 obtain⟨N,hN⟩: ∃N:Int,N=(ns.length:Int):=⟨_,rfl⟩
 have eL:LP [.tl (ns.map W.str)]=pr (.int N):=by rw[lenW_tl,El,hN]
 have eN:N.toNat=ns.length:=by omega
 obtain⟨NW,hNW⟩: ∃NW,NW=W.tl (ns.map W.str):=⟨_,rfl⟩
 rw[<-hNW] at sl eL
 simp! only[aa,tx0,tx1,tx2,tx3,hn,ak (show 0<MM by omega),ak (show (0:Int)<3 by decide),ak (show (0:Int)<4 by decide),sl,sv,tv,adS (a:= "box n ") (b:=f2) (by omega),adS (a:= "box nn ") (b:=f3) (by omega)]
 refine iq ?_
 simp! only[aa,eL,gz (show (-(2 ^ 62):Int)<=N by omega) (show N<2 ^ 62 by omega)]
 have b1: "box n "++f2=(Rr.box "n" f2).tx:=by rw[xK,kb1];simp only[NM]
 have b2: "box nn "++f3=(Rr.box "nn" f3).tx:=by rw[xK,kb2];simp only[NM]
 rw[b1,b2]
 obtain⟨T1,hT1⟩: ∃T,T=(Rr.box "n" f2).tx:=⟨_,rfl⟩
 obtain⟨T2,hT2⟩: ∃T,T=(Rr.box "nn" f3).tx:=⟨_,rfl⟩
 rw[<-hT1,<-hT2]
 have rl: ∀i,i<=ns.length->([T1,T2]++(((List.range i).map F).flatMap Bt.rows).map Rr.tx).length<=2+4 * i:=fun i hi=>by
  rw[Ep,El]
  show 2+_<=_
  have: ∀i,i<=ns.length->(((List.range i).map F).flatMap Bt.rows).length<=4 * i:=fun i=>by
   induction i with
   |zero=>intro _;simp
   |succ i ih=>
    intro hi
    have ih:=ih (by omega)
    rw[FQ,Et,GM,Ep]
    obtain⟨nm,e⟩:=gF i (by omega)
    have:=(hF i nm e).2.1.l
    have:((List.map F [i]).flatMap Bt.rows).length=(F i).ss.length+2:=by
     show ((F i).rows++[]).length=_
     rw[EX];unfold Bt.rows;rw[Es,Ep];rfl
    omega
  have:=this i hi
  omega
 have hg0:(h1++[Ob.lst [.str T1,.str T2]])[h1.length]?=some (.lst (([T1,T2]++(((List.range 0).map F).flatMap Bt.rows).map Rr.tx).map W.str)):=fJ
 have hg1:h1.length<=(h1++[Ob.lst [.str T1,.str T2]]).length:=by rw[Ep];omega
 refine cP (I:=fun i ρ h'=> ∃a b,ρ=[some (.cl (sc.map W.int)),some (.int MM),some (.tl [.int y0,.int y1,.int y2,.int y3]),some NW,some (.loc h1.length),a,b]/\h'[h1.length]?=some (.lst (([T1,T2]++(((List.range i).map F).flatMap Bt.rows).map Rr.tx).map W.str))/\(∀i,i<h1.length->h'[i]?=h1[i]?)/\h1.length<=h'.length) ⟨none,none,rfl,hg0,fun i hi=>ET hi,hg1⟩ (fun _ _ _ _=>trivial) (fun i w ρ h2 hw I=>?_) fun ρ h2 I=>?_
 ·obtain⟨a,b,rfl,q1,q2,q3⟩:=I
  obtain⟨rfl,hi⟩:=cG _ _ _ _ hw
  rw[eN] at hi
  obtain⟨nm,e⟩:=gF i hi
  obtain⟨_,_,bk⟩:=hF i nm e
  have r:=rl i (by omega)
  rw[<-hNW] at bk
  refine⟨_,rfl,(bk h2 h1.length _ b _ _ q1 (by omega)).imp fun x h3 qz=>?_⟩
  obtain⟨⟨a',ex⟩,p1,p2,p3⟩:=qz
  refine⟨_,ex,_,_,rfl,?_,fun i hi=>(p2 i (by omega) (by omega)).trans (q2 i hi),by omega⟩
  have e1:((List.range (i+1)).map F).flatMap Bt.rows=((List.range i).map F).flatMap Bt.rows++(F i).rows:=by
   rw[FQ,Et,GM]
   show _++((F i).rows++[])=_
   rw[EX]
  rw[p1,e1,EQ,<-Et (f:=Rr.tx)]
 ·obtain⟨a,b,rfl,q1,q2,q3⟩:=I
  rw[cF,eN] at q1
  have r:=rl ns.length (Em _)
  have et:[T1,T2]++(((List.range ns.length).map F).flatMap Bt.rows).map Rr.tx=(pgR [("n",f2),("nn",f3)] ((List.range ns.length).map F)).map Rr.tx:=by
   unfold pgR
   rw[Et,hT1,hT2];rfl
  rw[et] at q1 r
  have lens: ∀z∈(pgR [("n",f2),("nn",f3)] ((List.range ns.length).map F)).map Rr.tx,z.length<=600:=fun z hz=>by
   obtain⟨R,hR,rfl⟩:=EB.mp hz
   unfold pgR at hR
   rcases E6.mp hR with hR|hR
   ·obtain⟨x,hx,rfl⟩:=EB.mp hR
    rcases En.mp hx with rfl|hx
    ·exact Rr.Ok.len (r:=.box "n" f2) ⟨Ke.1,n2⟩
    ·rw[EC.mp hx];exact Rr.Ok.len (r:=.box "nn" f3) ⟨Ke.2.1,n3⟩
   ·obtain⟨b,hb,hR⟩:=Gd.mp hR
    have gb:=(all b hb).g
    rcases En.mp hR with rfl|hR
    ·exact Rr.Ok.len (r:=.block b.nm) gb.nm
    ·rcases E6.mp hR with hR|hR
     ·exact (gb.s _ hR).2.1.len
     ·rw[EC.mp hR];exact gb.e.2.1.len
  have sm: ∀ {l:List Str},(∀z∈l,z.length<=600)->(l.map (·.length)).sum<=600 * l.length:=fun{l} h=>by
   induction l with
   |nil=>simp
   |cons z l ih=>
    have a:=h z Eo
    have b:=ih fun z hz=>h z (EA _ hz)
    rw[Er,Fe,Es,Hj]
    omega
  have sm:=sm lens
  have hr:OI (pgR [("n",f2),("nn",f3)] ((List.range ns.length).map F))=Str.join "\n" ((pgR [("n",f2),("nn",f3)] ((List.range ns.length).map F)).map Rr.tx):=by rw[wr];rfl
  rw[hr]
  generalize (pgR [("n",f2),("nn",f3)] ((List.range ns.length).map F)).map Rr.tx=TS at *
  have jl:("\n":Str).length=1:=by rw[wr];rfl
  have jw:Lz (.str "\n") [.loc h1.length] h2=.ok (.str (Str.join "\n" TS)) h2:=by
   show bd (LS (.loc h1.length)) _ h2=_
   rw[dG (kQ q1),iQ (f:=sOf) (g:=W.str) (fun a=>rfl)]
   exact congrFun (ag (sz (by rw[jl];omega))) h2
  simp!
  refine bg jw ?_
  simp!
  exact ah ⟨rfl,fun i hi=>(q2 i (EM hi F1.le)).trans (F1.eq i hi),EG F1.le q3⟩
end
section
open Wd
theorem Oa:(Jt.strOk "n"=true/\Jt.strOk "nn"=true)/\(Jt.strOk "+"=true/\Jt.strOk "-"=true/\Jt.strOk "*"=true)/\(Jt.strOk "say"=true/\Jt.strOk "ask"=true/\Jt.strOk "put"=true)/\Jt.strOk "<"=true/\Jt.strOk "="=true:=by decide+kernel
theorem vE {x:Str}(h:x∈bn2):Jt.strOk x=true:=by
 rcases En.mp h with rfl|h
 ·exact Oa.1.1
 ·rw[EC.mp h];exact Oa.1.2
theorem ip: ∀ (n:Nat) (e:Exp),KG e+2<=n->KI e=true->(∀x∈KH e,x∈bn2)->Pd n (KJ e)
 |0,_,h,_,_=>by omega
 |1,_,h,_,_=>by omega
 |n+2,.num i,_,_,_=>pd2i uk
 |n+2,.box x,_,_,b=>pd2s Bo (vE (b x Eo))
 |n+2,.bin s l r,h,k,b=>by
  have h:1+max (KG l) (KG r)+2<=n+2:=h
  have k:(decide (s∈(["+", "-", "*"]:List Str)) && (KI l && KI r))=true:=k
  rw[ES,ES,decide_eq_true_eq] at k
  have sk:Jt.strOk s=true:=by
   have:=k.1
   simp only[En,EF,or_false] at this
   rcases this with rfl|rfl|rfl
   ·exact Oa.2.1.1
   ·exact Oa.2.1.2.1
   ·exact Oa.2.1.2.2
  exact pdT (by simp) (aR (.str sk) (aR (ip (n+1) l (by omega) k.2.1 fun x hx=>b x (FY _ hx)) (aR (ip (n+1) r (by omega) k.2.2 fun x hx=>b x (E3 _ hx)) gB)))
theorem zK {ns:List Str}{r:Rr}{N:Int}(hN:N=(ns.length:Int))(q:r.end'=true)(g:r.Ok)(b:∀x∈r.bxs,x∈bn2)(d:r.dep<=5)(to: ∀x∈r.tos,x∈ns):(r.en ns).Good N:=by
 have ix: ∀x,x∈ns->(0:Int)<=((Ls ns x:Nat):Int)/\((Ls ns x:Nat):Int)<N:=fun x hx=>by
  have:=(mi hx).2
  omega
 cases r with
 |go nm=>exact ix nm (to nm Eo)
 |iff s z1 e1 z2 e2 x y=>
  obtain⟨g1,g2,g3,g4,g5⟩:=g
  have d:max (KG e1) (KG e2)<=5:=d
  refine⟨ix x (to x Eo),ix y (to y (EA _ Eo)),ip 8 e1 (by omega) g2.ok fun x hx=>b x (FY _ hx),ip 8 e2 (by omega) g3.ok fun x hx=>b x (E3 _ hx),?_⟩
  rcases g1 with rfl|rfl
  ·exact Oa.2.2.2.1
  ·exact Oa.2.2.2.2
 |table z e xs=>
  obtain⟨g1,g2,g3,g4⟩:=g
  have d:KG e<=5:=d
  refine⟨by show (xs.map _).length<=6;rw[El];exact g3,fun t ht=>?_,ip 8 e (by omega) g1.ok b⟩
  have ht:t∈xs.map fun x=>((Ls ns x:Nat):Int):=ht
  obtain⟨x,hx,rfl⟩:=EB.mp ht
  exact ix x (to x hx)
 |stop=>trivial
 |_=>cases q
theorem AB {r:Rr}(q:r.stm=true)(g:r.Ok)(b:∀x∈r.bxs,x∈bn2)(d:r.dep<=5): ∃ (z:Str) (l:List W),r.form=.tup (.str z::l)/\(z= "say"\/z= "ask"\/z= "put")/\Pd 9 r.form:=by
 obtain⟨k1,k2,k3⟩:=Oa.2.2.1
 cases r with
 |put nm z e=>
  have d:KG e<=5:=d
  exact⟨"put",_,rfl,.inr (.inr rfl),pdT (n:=8) (by simp) (aR (.str k3) (aR (.str (vE (b nm Eo))) (aR (ip 8 e (by omega) g.2.ok fun x hx=>b x (EA _ hx)) gB)))⟩
 |say z e=>
  have d:KG e<=5:=d
  exact⟨"say",_,rfl,.inl rfl,pdT (n:=8) (by simp) (aR (.str k1) (aR (ip 8 e (by omega) g.ok b) gB))⟩
 |ask nm=>exact⟨"ask",_,rfl,.inr (.inl rfl),pd2s k2 (vE (b nm Eo))⟩
 |_=>cases q
end
section
section
variable {β:Type}{h:List Ob}{k:W->M β}{Q:β->List Ob->Prop}{j:Nat}{l:List W}
end
noncomputable def OP (n:Nat):List Int:=(List.range n).map fun (r:Nat)=>1+(r:Int)
theorem tO (n:Nat):OP (n+1)=OP n++[1+(n:Int)]:=by
 unfold OP
 rw[FQ,Et];rfl
theorem cQ (n:Nat):(OP n).length=n:=by unfold OP;simp
theorem OQ {n:Nat}{x:Int}:x∈OP n↔1<=x/\x<=n:=by
 unfold OP
 constructor
 ·intro h
  obtain⟨r,hr,rfl⟩:=EB.mp h
  have:=FW.mp hr
  omega
 ·intro h
  exact EB.mpr ⟨(x - 1).toNat,FW.mpr (by omega),by omega⟩
def Kb (n:Nat):List Int:=0::OP (n - 1)
theorem cW (n:Nat):(Kb n).Nodup:=by
 unfold Kb
 refine E8.mpr ⟨fun h=>by have:=OQ.mp h;omega,?_⟩
 unfold OP
 show G4 (· ≠ ·) _
 rw[HN]
 exact List.nodup_range.imp fun h=>by omega
theorem xS {n:Nat}(hn:1<=n){x:Int}:x∈Kb n↔0<=x/\x<n:=by
 unfold Kb
 rw[En,OQ]
 omega
theorem qe {n:Nat}(hn:1<=n):(Kb n).length=n:=by unfold Kb;rw[Es,cQ];omega
theorem addT (a:W)(l m:List W)(h:l.length+m.length<=100):Ka (.tup (a::l)) (.tup m)=pr (.tup (a::(l++m))):=by
 show gd ((a::l).isEmpty=false/\(a::l).length+m.length<=sizeLine) (pr (W.tup ((a::l)++m)))=_
 rw[ag ⟨rfl,sz (by rw[Es];omega)⟩];rfl
theorem kW (n:Nat):Lb 1 n=(OP n).map W.int:=by
 apply GE
 intro i
 by_cases hi:i<n
 ·obtain⟨w,hw⟩: ∃w,(Lb 1 n)[i]?=some w:=⟨_,EL (by rw[cF];exact hi)⟩
  obtain⟨rfl,_⟩:=cG _ _ _ _ hw
  rw[hw]
  unfold OP
  rw[E2,ED,HM hi];rfl
 ·rw[FR (by rw[cF];omega),FR (by rw[El,cQ];omega)]
theorem slos {os:List Int}(h:1<=os.length):slW (.tup (os.map W.int)) (some 1) none=pr (.tup (os.tail.map W.int)):=by
 show gd (¬(HT.sIx (os.map W.int).length 0 (some 1)=0/\HT.sIx (os.map W.int).length (os.map W.int).length none=(os.map W.int).length)) (pr (W.tup (Kv (os.map W.int) (some 1) none)))=_
 have s1:HT.sIx (os.map W.int).length 0 (some 1)=1:=by
  show (if (1:Int)<0 then ((1:Int)+((os.map W.int).length:Int)).toNat else min (1:Int).toNat (os.map W.int).length)=1
  rw[if_neg (by decide),El]
  show min 1 os.length=1
  omega
 rw[ag (by rw[s1];omega)]
 congr 2
 unfold Kv
 rw[s1,show HT.sIx (os.map W.int).length (os.map W.int).length none=(os.map W.int).length from rfl]
 cases os with
 |nil=>rfl
 |cons a os=>
  rw[Er,List.drop_one,Hm,Hm,Es,Nat.add_sub_cancel,EN]
end
section
theorem D6:decide (("if":Str)= "go")=false:=by decide+kernel
theorem D7:decide (("go":Str)= "table")=false:=by decide+kernel
theorem D5:decide (("if":Str)= "table")=false:=by decide+kernel
theorem D2:decide (("table":Str)= "go")=false:=by decide+kernel
theorem D0:decide (("table":Str)= "if")=false:=by decide+kernel
theorem D4:decide (("stop":Str)= "go")=false:=by decide+kernel
theorem D3:decide (("stop":Str)= "if")=false:=by decide+kernel
theorem CV:decide (("stop":Str)= "table")=false:=by decide+kernel
noncomputable def E17.tos:E17->List Int
 |.go t=>[t]
 |.iff _ _ _ x y=>[x,y]
 |.table _ ts=>ts
 |.stop=>[]
noncomputable def E17.tab:E17->Bool
 |.table _ _=>true
 |_=>false
theorem E17.Good.six {m:Int}{e:E17}(g:e.Good m):e.tos.length<=6:=by
 cases e with
 |go t=>show ([t]:List Int).length<=6;simp
 |iff s a b x y=>show ([x,y]:List Int).length<=6;simp
 |table e ts=>exact g.1
 |stop=>exact EI _
theorem E17.Good.to {m:Int}{e:E17}(g:e.Good m): ∀t∈e.tos,0<=t/\t<m:=by
 cases e with
 |go t=>intro x hx;rw[EC.mp hx];exact g
 |iff s a b x y=>
  intro z hz
  rcases En.mp hz with rfl|hz
  ·exact g.1
  ·rw[EC.mp hz];exact g.2.1
 |table e ts=>exact g.2.1
 |stop=>intro x hx;exact absurd hx EF
structure B23 where
 nm:Str
 s:List W
 e:E17
def B23.w (b:B23):W:=.tup [.str b.nm,.tl b.s,b.e.w]
noncomputable abbrev Way:=Int×Int×Int
def OV (w:Way):W:=.tup [.int w.1,.int w.2.1,.int w.2.2]
def dJ (k:Int)(ts:List Int):List Way:=ts.zipIdx.map fun p=>(k,(p.2:Int),p.1)
def OX (es:List E17):List Way:=es.zipIdx.flatMap fun p=>dJ p.2 p.1.tos
theorem ko (k:Int)(ts:List Int)(t:Int):dJ k (ts++[t])=dJ k ts++[(k,(ts.length:Int),t)]:=by
 unfold dJ
 rw[HP,Et]
 simp
theorem lU (k:Int)(ts:List Int):(dJ k ts).length=ts.length:=by unfold dJ;simp
theorem ji (es:List E17)(e:E17):OX (es++[e])=OX es++dJ es.length e.tos:=by
 unfold OX
 rw[HP,GM]
 simp
theorem gu (es:List E17)(h:∀e∈es,e.tos.length<=6): ∀n,n<=es.length->(OX (es.take n)).length<=6 * n
 |0,_=>by rw[F6];exact Em _
 |n+1,hn=>by
  have ih:=gu es h n (by omega)
  have e1:es[n]?=some es[n]:=EL (by omega)
  have h6:=h _ (EO e1)
  rw[show es.take (n+1)=es.take n++[es[n]] by rw[Ft,e1];rfl,ji,Ep,lU]
  omega
theorem j6 {es:List E17}{w:Way}(h:w∈OX es): ∃e,es[w.1.toNat]?=some e/\0<=w.1/\w.2.2∈e.tos:=by
 unfold OX at h
 obtain⟨⟨e,i⟩,hp,hw⟩:=Gd.mp h
 rw[HQ] at hp
 unfold dJ at hw
 obtain⟨⟨t,n⟩,hq,rfl⟩:=EB.mp hw
 rw[HQ] at hq
 exact⟨e,hp,Int.natCast_nonneg _,EO hq⟩
structure Nw (h h':List Ob):Prop where
 le:h.length<=h'.length
 eq: ∀i,i<h.length->h'[i]?=h[i]?
theorem Nw.refl (h:List Ob):Nw h h:=⟨Em _,fun _ _=>rfl⟩
theorem Nw.trans {a b c:List Ob}(x:Nw a b)(y:Nw b c):Nw a c:=⟨EG x.le y.le,fun i hi=>(y.eq i (EM hi x.le)).trans (x.eq i hi)⟩
theorem Nw.get {h h':List Ob}{j:Nat}{b:Ob}(x:Nw h h')(e:h[j]?=some b):h'[j]?=some b:=(x.eq j (da e)).trans e
structure Nf (h h':List Ob)(b:Ob):Prop where
 len:h'.length=h.length+1
 eq: ∀i,i<h.length->h'[i]?=h[i]?
 new:h'[h.length]?=some b
theorem Nf.put {h h':List Ob}{b:Ob}(N:Nf h h' b)(c:Ob):Nf h (h'.set h.length c) c:=
 ⟨by rw[EU];exact N.len,fun i hi=>by rw[Ew (by omega)];exact N.eq i hi,cY N.new⟩
theorem Nf.mk0 {h:List Ob}{b:Ob}:Nf h (h++[b]) b:=⟨by simp,fun i hi=>by rw[ET hi],fJ⟩
theorem Nf.nw {h h':List Ob}{b:Ob}(N:Nf h h' b):Nw h h':=⟨by rw[N.len];omega,N.eq⟩
theorem Nf.get {h h':List Ob}{b c:Ob}{j:Nat}(N:Nf h h' b)(e:h[j]?=some c):h'[j]?=some c:=(N.eq j (da e)).trans e
theorem vF (e:E17):fY [e.w]=pr (.tup (e.tos.map W.int)):=by
 have e0:fY [e.w]=bd (fL [some e.w]) KR:=rfl
 rw[e0]
 unfold fL
 cases e<;>(unfold E17.w E17.tos;simp! only[aa,ix0,ix1,ix2,ix4,ix5,D6,D2,D0,D4,D3,CV,eq_self,decide_true,OL,Er,EV])
theorem jP {α:Type}{l:List α}{i:Nat}{x:α}(h:l[i]?=some x):(l.take i).length=i:=by
 have:=(Ev.mp h).1
 rw[E5];omega
noncomputable def KF (bs:List B23):List E17:=bs.map B23.e
def pgW (bx:W)(bs:List B23):W:=.tup [bx,.tl (bs.map B23.w)]
theorem Lw.enum {β:Type}{h:List Ob}{Q:β->List Ob->Prop}{x:W}{l:List W}{k:Sr->M β}(p:Lw h x l)(q:∀G,(∀h',Lw h' x l->G h')->Ok (k ⟨Mx 0 l,G⟩) h Q):Ok (bd (KD [x]) k) h Q:=by
 show Ok (bd (bd (On x) fun s=>pr ⟨Mx 0 s.l,s.G⟩) k) h Q
 rw[aa]
 refine Lw.src p fun G g=>?_
 rw[aV]
 exact q G g
theorem nE {β:Type}{h:List Ob}{k:W->M β}{Q:β->List Ob->Prop}{P x:W}{bs:List B23}(hp:ixW P (.int 1)=pr x)(hx:Lw h x (bs.map B23.w))(hl:bs.length<=10)(hb: ∀b∈bs,b.e.tos.length<=6)(q:∀h',Nw h h'->Ok (k (.tl ((OX (KF bs)).map OV))) h' Q):Ok (bd (iz [P]) k) h Q:=by
 have e0:iz [P]=bd (nK [some P,none,none,none,none,none]) KR:=rfl
 rw[e0]
 unfold nK
 have h6: ∀e∈KF bs,e.tos.length<=6:=fun e he=>by
  obtain⟨b,hb',rfl⟩:=EB.mp he
  exact hb b hb'
 simp!
 refine iq ?_
 simp! only[aa,hp]
 refine Lw.enum (hx.keep (Nf.mk0 (h:=h) (b:=.lst [])).nw.eq) fun G hG=>?_
 simp!
 refine cP (I:=fun i ρ h'=> ∃a b c d,ρ=[some P,some (.loc h.length),a,b,c,d]/\Nf h h' (.lst ((OX ((KF bs).take i)).map OV))) ⟨_,_,_,_,rfl,Nf.mk0⟩ (fun _ _ _ I=>by obtain⟨_,_,_,_,_,N⟩:=I;exact hG _ (hx.keep N.nw.eq)) (fun i w ρ h1 hw I=>?_) fun ρ h1 I=>?_
 ·obtain⟨a,b,c,d,rfl,N⟩:=I
  obtain⟨x',hx',rfl⟩:=gE _ _ _ _ hw
  rw[ED] at hx'
  obtain⟨b,hp',rfl⟩:=EH.mp hx'
  have he:(KF bs)[i]?=some b.e:=by unfold KF;rw[ED,hp'];rfl
  have t6:=h6 _ (EO he)
  have hi:i<bs.length:=(Ev.mp hp').1
  have hi':i<(KF bs).length:=(Ev.mp he).1
  have w6:=gu (KF bs) h6 i (by omega)
  obtain⟨nm,sts,e⟩:=b
  have t6:e.tos.length<=6:=t6
  have hs:ixW (B23.w ⟨nm,sts,e⟩) (.int 2)=pr e.w:=ix2 ..
  refine⟨_,rfl,?_⟩
  simp! only[aa,hs,vF,uQ]
  generalize B23.w ⟨nm,sts,e⟩=B at *
  refine sw (I:=fun n ρ h'=> ∃c d,ρ=[some P,some (.loc h.length),some (.int (0+(i:Int))),some B,c,d]/\Nf h h' (.lst ((OX ((KF bs).take i)++dJ i (e.tos.take n)).map OV))) ⟨_,_,rfl,by rw[F6];show Nf h h1 (.lst ((_++[]).map OV));rw[EX];exact N⟩ (fun _ _ _ _=>trivial) (fun n w ρ h2 hw I=>?_) fun ρ h2 I=>?_
  ·obtain⟨c,d,rfl,N2⟩:=I
   obtain⟨y,hy,rfl⟩:=gE _ _ _ _ hw
   rw[ED] at hy
   obtain⟨t,ht,rfl⟩:=EH.mp hy
   have hn:n<e.tos.length:=(Ev.mp ht).1
   refine⟨_,rfl,?_⟩
   simp!
   refine cO N2.new ?_
   simp!
   refine eS N2.new (by
    rw[El,Ep,lU,E5]
    exact E1 (show _<=66 by omega) (by decide)) ?_
   simp!
   refine ah ⟨_,rfl,_,_,rfl,?_⟩
   rw[aP ht,ko,jP ht,<-EQ]
   generalize OX ((KF bs).take i)++dJ i (e.tos.take n)=A at *
   rw[show (A++[((i:Int),(n:Int),t)]).map OV=A.map OV++[.tup [.int (0+(i:Int)),.int (0+(n:Int)),.int t]] by rw[Et,Ge,Ge];rfl]
   exact N2.put _
  ·obtain⟨c,d,rfl,N2⟩:=I
   rw[gD,El,EN] at N2
   refine⟨_,rfl,_,_,_,_,rfl,?_⟩
   rw[aP he,ji,jP he]
   exact N2
 ·obtain⟨a,b,c,d,rfl,N⟩:=I
  rw[gD,El,show bs.length=(KF bs).length by unfold KF;rw[El],EN] at N
  simp!
  refine jv N.new ?_
  simp!
  exact q _ (N.put .gone).nw
section
variable {β:Type}{h:List Ob}{Q:β->List Ob->Prop}{j:Nat}
end
end
section
theorem tz {κ:Type} [DecidableEq κ] (x x':κ)(y:W): ∀ (ks:List κ) (ws:List W),ks.length=ws.length->atK ks (Mi ks ws x y) x'=if x=x' then (if (ks.any fun k=>decide (k=x))=true then some y else none) else atK ks ws x'
 |[],ws,_=>by
  unfold atK
  split<;>rfl
 |k::ks,[],h=>by cases h
 |k::ks,w::ws,h=>by
  have ih:=tz x x' y ks ws (Fs.inj h)
  rw[Mi,atK,atK,ih,Fv]
  by_cases e:x=x'
  ·subst e
   by_cases e2:k=x
   ·simp [e2]
   ·simp [e2]
  ·by_cases e2:k=x'
   ·have:k≠x:=fun z=>e (z.symm.trans e2)
    simp [e,e2,this]
    intro z;exact absurd z.symm e
   ·simp [e,e2]
theorem tD {κ:Type} [DecidableEq κ] (x x':κ)(y:W): ∀ (ks:List κ) (ws:List W),ks.length=ws.length->(ks.any fun k=>decide (k=x))=false->atK (ks++[x]) (ws++[y]) x'=if x=x' then some y else atK ks ws x'
 |[],[],_,_=>by simp [atK]
 |[],_::_,h,_=>by cases h
 |k::ks,[],h,_=>by cases h
 |k::ks,w::ws,h,a=>by
  rw[Fv,Gu] at a
  have ih:=tD x x' y ks ws (Fs.inj h) a.2
  rw[E9,E9,atK,atK,ih]
  have e2:k≠x:=of_decide_eq_false a.1
  by_cases e:k=x'
  ·have:x≠x':=fun z=>e2 (e.trans z.symm)
   simp [e,this]
  ·simp [e]
theorem mh {κ:Type} [DecidableEq κ] (x:κ)(y:W): ∀ (ks:List κ) (ws:List W),ks.length=ws.length->(Mi ks ws x y).length=ws.length
 |[],ws,h=>h
 |k::ks,[],h=>by cases h
 |k::ks,w::ws,h=>by rw[Mi,Es,Es,mh x y ks ws (Fs.inj h)]
theorem oj {κ:Type} [DecidableEq κ] {x:κ}{y:W}{ks ks':List κ}{ws ws':List W}(h:ks.length=ws.length)(e:Nl ks ws x y=(ks',ws')):ks'.length=ws'.length/\ks'.length<=ks.length+1/\ ∀x',atK ks' ws' x'=if x=x' then some y else atK ks ws x':=by
 unfold Nl at e
 by_cases a:(ks.any fun k=>decide (k=x))=true
 ·rw[if_pos a] at e
  cases e
  refine⟨by rw[mh x y ks ws h];exact h,FZ _,fun x'=>?_⟩
  rw[tz x x' y ks ws h,if_pos a]
 ·rw[if_neg a] at e
  cases e
  refine⟨by rw[Ep,Ep,h];rfl,by rw[Ep];exact Em _,fun x'=>?_⟩
  exact tD x x' y ks ws h (by rw[<-Hg];exact a)
section
variable {β:Type}{h:List Ob}{Q:β->List Ob->Prop}{j:Nat}
theorem o5 {k:W->M β}{ρ:JR}(q:Ok (k (.loc h.length)) (h++[.dit [] []]) Q):Ok (bd (nB ρ) k) h Q:=bg (a:=.loc h.length) (h':=h++[.dit [] []]) rfl q
theorem iR {ks:List (List Key)}{ws:List W}{k:W->M β}(e:h[j]?=some (.dit ks ws))(q:Ok (k (.loc j)) h Q):Ok (bd (Le (.loc j)) k) h Q:=by
 refine bg (a:=.loc j) (h':=h) ?_ q
 have:KA (.loc j) h=some (ks,ws):=by unfold KA;simp only[e]
 unfold Le
 rw[this]
theorem i5 {ks:List (List Key)}{ws:List W}{y d:W}{q:List Key}(e:h[j]?=some (.dit ks ws))(ek:LH y=some q):K2 (.loc j) y d h=.ok ((atK ks ws q).getD d) h:=by
 have:KA (.loc j) h=some (ks,ws):=by unfold KA;simp only[e]
 unfold K2
 simp only[this,ek]
theorem we {ks ks':List (List Key)}{ws ws':List W}{q:List Key}{v:W}{k:Unit->M β}(e:h[j]?=some (.dit ks ws))(hz:ks.length<sizeLine)(e2:Nl ks ws q v=(ks',ws'))(r:Ok (k ()) (h.set j (.dit ks' ws')) Q):Ok (bd (mM (.loc j) (.kt q) v) k) h Q:=by
 refine bg (a:=()) (h':=h.set j (.dit ks' ws')) ?_ r
 unfold mM
 simp only[e,if_pos hz,e2]
end
structure Nd (h h':List Ob)(j:Nat)(b:Ob):Prop where
 nw:Nw h h'
 ge:h.length<=j
 new:h'[j]?=some b
theorem Nd.put {h h':List Ob}{j:Nat}{b:Ob}(N:Nd h h' j b)(c:Ob):Nd h (h'.set j c) j c:=
 ⟨⟨by rw[EU];exact N.nw.le,fun i hi=>by rw[Ew (by have:=N.ge;omega)];exact N.nw.eq i hi⟩,N.ge,cY N.new⟩
theorem Nd.more {h h' h2:List Ob}{j:Nat}{b:Ob}(N:Nd h h' j b)(K:Nw h' h2):Nd h h2 j b:=⟨N.nw.trans K,N.ge,K.get N.new⟩
theorem Nd.mk0 {h:List Ob}{b:Ob}:Nd h (h++[b]) h.length b:=⟨Nf.mk0.nw,Em _,fJ⟩
noncomputable abbrev Zw:=Bool×Int×Int×Int
def OF (es:List E17)(a:Int):Bool:=match es[a.toNat]? with
 |some e=>e.tab
 |none=>false
def zsL (es:List E17)(cs:List Int):List Zw:=F9 (fun (w:Way) c=>(OF es w.1,w.1,w.2.2,c)) (OX es) cs
def K3 (zs:List Zw)(a b:Int):Int:=(zs.map fun z=>if z.1=false/\z.2.1=a/\z.2.2.1=b then z.2.2.2 else 0).sum
theorem eZ (zs:List Zw)(z:Zw)(a b:Int):K3 (zs++[z]) a b=K3 zs a b+if z.1=false/\z.2.1=a/\z.2.2.1=b then z.2.2.2 else 0:=by
 unfold K3
 rw[Et,List.sum_append]
 simp
noncomputable def E17.kind:E17->Str
 |.go _=> "go"
 |.iff _ _ _ _ _=> "if"
 |.table _ _=> "table"
 |.stop=> "stop"
theorem jX (e:E17):ixW e.w (.int 0)=pr (.str e.kind):=by cases e<;>exact ix0 ..
theorem kR (e:E17):decide (e.kind= "table")=e.tab:=by
 cases e with
 |go _=>exact D7
 |iff _ _ _ _ _=>exact D5
 |table _ _=>exact decide_eq_true rfl
 |stop=>exact CV
theorem pG {bs:List B23}{a:Int}{b:B23}(h0:0<=a)(h:bs[a.toNat]?=some b):ixW (.tl (bs.map B23.w)) (.int a)=pr b.w:=bP (aO h0 (by rw[ED,h];rfl))
theorem nH (b:B23):ixW b.w (.int 2)=pr b.e.w:=ix2 ..
theorem rG {bs:List B23}{i:Nat}{e:E17}(h:(KF bs)[i]?=some e): ∃b,bs[i]?=some b/\b.e=e:=by
 unfold KF at h
 rw[ED] at h
 obtain⟨b,h1,h2⟩:=EH.mp h
 exact⟨b,h1,h2⟩
theorem mP (a b:List W):Op false false [.tl a,.tl b]=pr ⟨OZ a b,fun _=>True/\True⟩:=rfl
theorem vD (a b:List W):Op true true [.tup a,.tup b]=pr ⟨OZ a b,fun _=>True/\True⟩:=rfl
theorem kt2 (a b:Int):ktW [.int a,.int b]=pr (.kt [.inl a,.inl b]):=by
 show gd (([.int a,.int b]:List W).length<=sizeLine) (pr (W.kt [.inl a,.inl b]))=_
 exact ag (show 2<=sizeLine by decide)
structure GK (ks:List (List Key))(ws:List W)(G:Int->Int->Int):Prop where
 len:ks.length=ws.length
 get: ∀a b,(atK ks ws [.inl a,.inl b]).getD (.int 0)=.int (G a b)
theorem u4 {es:List E17}{cs:List Int}{i:Nat}{w:Way}{c:Int}(h1:(OX es)[i]?=some w)(h2:cs[i]?=some c):(zsL es cs)[i]?=some (OF es w.1,w.1,w.2.2,c):=by
 unfold zsL
 rw[Ga,h1,h2]
theorem j4 {es:List E17}{cs:List Int}{i:Nat}{x:W}(e:(OZ ((OX es).map OV) (cs.map W.int))[i]?=some x): ∃w c,(OX es)[i]?=some w/\cs[i]?=some c/\x=.tup [OV w,.int c]:=by
 obtain⟨x,y,hx,hy,rfl⟩:=iF e
 rw[ED] at hx hy
 obtain⟨w,hw,rfl⟩:=EH.mp hx
 obtain⟨c,hc,rfl⟩:=EH.mp hy
 exact⟨w,c,hw,hc,rfl⟩
theorem jO {α β:Type}(f:α->W)(g:β->W)(l:List α)(m:List β)(h:l.length=m.length):(OZ (l.map f) (m.map g)).length=m.length:=by
 unfold OZ
 rw[Fm,El,El,h,Hn]
theorem u3 {es:List E17}{cs:List Int}(h:(OX es).length=cs.length):(zsL es cs).length=cs.length:=by
 unfold zsL
 rw[Fm,h,Hn]
theorem pL {h:List Ob}{P x:W}{bs:List B23}{cs:List Int}(hp:ixW P (.int 1)=pr x)(hx:Lw h x (bs.map B23.w))(hl:bs.length<=10)(hb: ∀b∈bs,b.e.tos.length<=6)(hc:(OX (KF bs)).length=cs.length):
  Ok (i6 [P,.tl (cs.map W.int)]) h fun w h'=> ∃j ks ws,w=.loc j/\Nd h h' j (.dit ks ws)/\GK ks ws (K3 (zsL (KF bs) cs)):=by
 have e0:i6 [P,.tl (cs.map W.int)]=bd (jZ [some (P),some (.tl (cs.map W.int)),none,none,none,none,none]) KR:=rfl
 rw[e0]
 unfold jZ
 have lc:cs.length<=60:=by
  have h6: ∀e∈KF bs,e.tos.length<=6:=fun e he=>by
   obtain⟨b,hb',rfl⟩:=EB.mp he
   exact hb b hb'
  have l2:(KF bs).length=bs.length:=by unfold KF;rw[El]
  have:=gu (KF bs) h6 (KF bs).length (Em _)
  rw[EN] at this
  omega
 simp!
 refine o5 ?_
 simp!
 refine nE hp (hx.keep (Nf.mk0 (h:=h) (b:=.dit [] [])).nw.eq) hl hb fun h1 N1=>?_
 have D1:=(Nd.mk0 (h:=h) (b:=.dit [] [])).more N1
 simp! only[aa,mP]
 refine cP (I:=fun i ρ h'=> ∃a b c d ks ws,ρ=[some P,some (.tl (cs.map W.int)),some (.loc h.length),a,b,c,d]/\Nd h h' h.length (.dit ks ws)/\GK ks ws (K3 ((zsL (KF bs) cs).take i))/\ks.length<=i) ⟨_,_,_,_,[],[],rfl,D1,⟨rfl,fun a b=>rfl⟩,Em _⟩ (fun _ _ _ _=>⟨trivial,trivial⟩) (fun i y ρ h2 hy I=>?_) fun ρ h2 I=>?_
 ·obtain⟨a,b,c,d,ks,ws,rfl,D,G,lk⟩:=I
  obtain⟨w,n,hw,hn,rfl⟩:=j4 hy
  have hi:i<cs.length:=(Ev.mp hn).1
  obtain⟨e,he,w0,_⟩:=j6 (EO hw)
  have hz:=u4 hw hn
  have ht:OF (KF bs) w.1=e.tab:=by unfold OF;rw[he]
  rw[ht] at hz
  obtain⟨b',hb',rfl⟩:=rG he
  obtain⟨wa,wn,wt⟩:=w
  refine⟨[some P,some (.tl (cs.map W.int)),some (.loc h.length),some (OV (wa,wn,wt)),some (.int n),c,d],rfl,?_⟩
  unfold OV
  have w0:0<=wa:=w0
  have hb':bs[wa.toNat]?=some b':=hb'
  simp! only[aa,hp,ix0,ix2]
  refine (hx.keep D.nw.eq).ix (w:=b'.w) (aO w0 (by rw[ED,hb'];rfl)) ?_
  simp! only[aa,nH,ix2,jX,kR]
  rw[aP hz]
  cases et:b'.e.tab with
  |true=>
   simp!
   refine ah ⟨_,rfl,_,_,_,_,ks,ws,rfl,D,⟨G.len,fun a b=>?_⟩,Gb lk⟩
   rw[G.get,eZ,if_neg (by simp),FS]
  |false=>
   simp! only[aa,mKt,kt2,L1]
   refine iR D.new ?_
   simp!
   refine bg (i5 D.new rfl) ?_
   rw[G.get wa wt]
   simp!
   rcases ep:Nl ks ws [.inl wa,.inl wt] (.int (K3 ((zsL (KF bs) cs).take i) wa wt+n)) with⟨ks',ws'⟩
   obtain⟨l1,l2,g⟩:=oj G.len ep
   refine we D.new (E1 (show _<=60 by omega) (by decide)) ep ?_
   simp!
   refine ah ⟨_,rfl,_,_,_,_,ks',ws',rfl,D.put _,⟨l1,fun a b=>?_⟩,by omega⟩
   rw[g,eZ]
   by_cases q:wa=a/\wt=b
   ·rw[if_pos (by rw[q.1,q.2]),if_pos ⟨rfl,q⟩,q.1,q.2];rfl
   ·rw[if_neg (fun z=>q ⟨by injection z with z1 z2;exact Sum.inl.inj z1,by injection z with z1 z2;injection z2 with z3 z4;exact Sum.inl.inj z3⟩),if_neg (fun z=>q z.2),FS]
    exact G.get a b
 ·obtain⟨a,b,c,d,ks,ws,rfl,D,G,lk⟩:=I
  rw[jO _ _ _ _ hc,<-u3 hc,EN] at G
  simp!
  exact ah ⟨_,ks,ws,rfl,D,G⟩
end
section
theorem yD (ts:List Int){n:Nat}: ∀x∈ts.map W.int,Pd (n+1) x:=fun x hx=>by
 obtain⟨t,_,rfl⟩:=EB.mp hx
 exact .int
section
variable {β:Type}{h:List Ob}{Q:β->List Ob->Prop}{j:Nat}
end
theorem tK {os:List Int}{i:Nat}{x:W}(e:(OZ (os.map W.int) (os.tail.map W.int))[i]?=some x): ∃a b,os[i]?=some a/\os.tail[i]?=some b/\x=.tup [.int a,.int b]:=by
 obtain⟨x,y,hx,hy,rfl⟩:=iF e
 rw[ED] at hx hy
 obtain⟨w,hw,rfl⟩:=EH.mp hx
 obtain⟨c,hc,rfl⟩:=EH.mp hy
 exact⟨w,c,hw,hc,rfl⟩
theorem ot (os:List Int):(OZ (os.map W.int) (os.tail.map W.int)).length=(os.zipWith (fun a b=>(a,b)) os.tail).length:=by
 unfold OZ
 rw[Fm,Fm,El,El]
end
section
noncomputable def aft:List Int->Int->Option Int
 |x::y::r,a=>if x=a then some y else aft (y::r) a
 |_,_=>none
noncomputable def Ng (G:Int->Int->Int):List Int->Int
 |x::y::r=>G x y+Ng G (y::r)
 |_=>0
theorem oW (F G:Int->Int->Int): ∀l:List Int,Ng (fun a b=>F a b+G a b) l=Ng F l+Ng G l
 |[]=>rfl
 |[_]=>rfl
 |x::y::r=>by
  have:=oW F G (y::r)
  unfold Ng
  omega
theorem lZ: ∀l:List Int,Ng (fun _ _=>0) l=0
 |[]=>rfl
 |[_]=>rfl
 |x::y::r=>by
  have:=lZ (y::r)
  unfold Ng
  omega
theorem qN {F G:Int->Int->Int}(h:∀a b,F a b=G a b)(l:List Int):Ng F l=Ng G l:=by
 rw[show F=G from funext fun a=>funext fun b=>h a b]
noncomputable def one (t:Bool)(p q c a b:Int):Int:=if t=false/\p=a/\q=b then c else 0
theorem oU {t:Bool}{p q c:Int}: ∀l:List Int,p ∉ l->Ng (one t p q c) l=0
 |[],_=>rfl
 |[_],_=>rfl
 |x::y::r,h=>by
  have ih:=oU (t:=t) (q:=q) (c:=c) (y::r) fun z=>h (EA _ z)
  unfold Ng
  rw[ih]
  unfold one
  rw[if_neg (fun z=>h (by rw[z.2.1];exact Eo))];rfl
theorem oV {t:Bool}{p q c:Int}: ∀l:List Int,l.Nodup->Ng (one t p q c) l=if t=false/\aft l p=some q then c else 0
 |[],_=>by simp [Ng,aft]
 |[_],_=>by simp [Ng,aft]
 |x::y::r,h=>by
  obtain⟨h1,h2⟩:=E8.mp h
  unfold Ng aft
  by_cases e:x=p
  ·subst e
   rw[oU (y::r) h1,FS,if_pos rfl]
   unfold one
   simp [eq_comm]
  ·rw[oV (y::r) h2,if_neg e]
   unfold one
   rw[if_neg (fun z=>e z.2.1.symm),Ge]
theorem di {l:List Int}(h:l.Nodup): ∀zs:List Zw,Ng (K3 zs) l=(zs.map fun z=>if z.1=false/\aft l z.2.1=some z.2.2.1 then z.2.2.2 else 0).sum
 |[]=>lZ l
 |z::zs=>by
  rw[Er,Fe,<-di h zs,<-oV (c:=z.2.2.2) l h,<-oW]
  exact qN (fun a b=>by unfold K3 one;rw[Er,Fe]) l
def MY (l:List Int)(zs:List Zw):Int:=(zs.map fun z=>if z.1=true\/aft l z.2.1≠some z.2.2.1 then z.2.2.2 else 0).sum
theorem l9 (l:List Int): ∀zs:List Zw,MY l zs+(zs.map fun z=>if z.1=false/\aft l z.2.1=some z.2.2.1 then z.2.2.2 else 0).sum=(zs.map fun z=>z.2.2.2).sum
 |[]=>rfl
 |z::zs=>by
  have ih:=l9 l zs
  unfold MY at ih ⊢
  rw[Er,Er,Er,Fe,Fe,Fe]
  by_cases c:z.1=false/\aft l z.2.1=some z.2.2.1
  ·rw[if_pos c,if_neg (by rw[c.1,c.2];simp)];omega
  ·rw[if_neg c,if_pos (by
    cases q:z.1 with
    |true=>exact .inl rfl
    |false=>exact .inr fun z=>c ⟨q,z⟩)]
   omega
theorem jU {l:List Int}(h:l.Nodup){es:List E17}{cs:List Int}(hc:(OX es).length=cs.length):cs.sum - Ng (K3 (zsL es cs)) l=MY l (zsL es cs):=by
 have h1:=l9 l (zsL es cs)
 rw[<-di h] at h1
 have:(zsL es cs).map (fun z=>z.2.2.2)=cs:=by
  unfold zsL
  clear h1
  generalize OX es=ws at hc
  induction ws generalizing cs with
  |nil=>cases cs with
   |nil=>rfl
   |cons _ _=>cases hc
  |cons w ws ih=>cases cs with
   |nil=>cases hc
   |cons c cs=>
    rw[List.zipWith_cons_cons,Er,ih (Fs.inj hc)]
 rw[this] at h1
 omega
theorem oZ (G:Int->Int->Int): ∀l:List Int,(F9 G l l.tail).sum=Ng G l
 |[]=>rfl
 |[_]=>rfl
 |x::y::r=>by
  have:=oZ G (y::r)
  unfold Ng
  rw[<-this]
  rfl
theorem xT: ∀ (l:List Int) (i:Nat) (a b:Int),l.Nodup->l[i]?=some a->l.tail[i]?=some b->aft l a=some b
 |[],i,a,b,_,h,_=>by simp at h
 |[x],i,a,b,_,h,h2=>by simp at h2
 |x::y::r,0,a,b,_,h,h2=>by
  simp at h h2
  subst h h2
  unfold aft
  rw[if_pos rfl]
 |x::y::r,i+1,a,b,nd,h,h2=>by
  obtain⟨h1,h3⟩:=E8.mp nd
  rw[FG] at h
  unfold aft
  rw[if_neg (fun z=>h1 (by rw[z];exact EO h))]
  refine xT (y::r) i a b h3 h ?_
  rw[Hm,FG] at h2
  exact h2
end
section
noncomputable def Kf:Nat->List (List Int)
 |0=>[[0]]
 |n+1=>Kf n++(Kf n).map (· ++[((n+1:Nat):Int)])
theorem hJ: ∀n,(Kf n).length=2 ^ n
 |0=>rfl
 |n+1=>by rw[Kf,Ep,El,hJ n,Nat.pow_succ];omega
theorem dF: ∀ {n:Nat}{s:List Int},s∈Kf n-> ∃r,s=0::r/\r.Nodup/\r.length<=n/\ ∀x∈r,1<=x/\x<=n
 |0,s,h=>by
  rw[Kf,EC] at h
  exact⟨[],h,F5,Em _,fun x hx=>absurd hx EF⟩
 |n+1,s,h=>by
  rw[Kf] at h
  rcases E6.mp h with h|h
  ·obtain⟨r,e,nd,l,q⟩:=dF h
   exact⟨r,e,nd,by omega,fun x hx=>by have:=q x hx;omega⟩
  ·obtain⟨t,ht,rfl⟩:=EB.mp h
   obtain⟨r,rfl,nd,l,q⟩:=dF ht
   refine⟨r++[((n+1:Nat):Int)],rfl,?_,by rw[Ep];show r.length+1<=n+1;omega,fun x hx=>?_⟩
   ·rw[Gc]
    refine⟨nd,by simp,fun a ha b hb=>?_⟩
    rw[EC.mp hb]
    have:=q a ha
    omega
   ·rcases E6.mp hx with hx|hx
    ·have:=q x hx;omega
    ·rw[EC.mp hx];omega
noncomputable def wo (r:List Int)(p:Int):List Int:=r.filter fun x=>!decide (x=p)
theorem qh {r:List Int}{p:Int}(h:p ∉ r):wo r p=r:=by
 unfold wo
 rw[Hk]
 intro a ha
 have:a≠p:=fun z=>h (z▸ha)
 simp [this]
theorem OY {r:List Int}{p x:Int}:x∈wo r p↔x∈r/\x≠p:=by
 unfold wo
 rw[GO]
 simp
theorem rT {r:List Int}{p:Int}(h:r.Nodup):(wo r p).Nodup:=h.filter _
theorem fq: ∀ {r:List Int}{p:Int},r.Nodup->p∈r->FJ (p::wo r p) r
 |[],_,_,h=>absurd h EF
 |a::r,p,nd,h=>by
  obtain⟨n1,n2⟩:=E8.mp nd
  by_cases e:a=p
  ·subst e
   have:wo (a::r) a=r:=by
    have:=qh n1
    unfold wo at this ⊢
    rw[Gf]
    simpa using this
   rw[this]
  ·have h2:p∈r:=by
    rcases En.mp h with h|h
    ·exact absurd h.symm e
    ·exact h
   have:wo (a::r) p=a::wo r p:=by
    unfold wo
    rw[Gf]
    simp [e]
   rw[this]
   exact (FJ.swap a p _).trans (FJ.cons a (fq n2 h2))
theorem jh {r:List Int}{p:Int}(nd:r.Nodup)(h:p∈r):(wo r p).length+1=r.length:=by
 have:=(fq nd h).length_eq
 rw[Es] at this
 exact this
theorem qi (a b:List Int)(p:Int):wo (a++b) p=wo a p++wo b p:=by unfold wo;rw[HR]
theorem iD: ∀ {n i:Nat}{r:List Int}{p:Int},(Kf n)[i]?=some (0::r)->p∈r-> ∃j,j<i/\(Kf n)[j]?=some (0::wo r p)
 |0,i,r,p,h,hp=>by
  rw[Kf] at h
  have:=EO h
  rw[EC] at this
  injection this with _ e
  rw[e] at hp
  exact absurd hp EF
 |n+1,i,r,p,h,hp=>by
  rw[Kf] at h ⊢
  by_cases z:i<(Kf n).length
  ·rw[ET z] at h
   obtain⟨j,hj,e⟩:=iD h hp
   exact⟨j,hj,by rw[ET (by omega)];exact e⟩
  ·rw[Fp (by omega),ED] at h
   obtain⟨s,hs,e⟩:=EH.mp h
   obtain⟨r',rfl,nd,_,q⟩:=dF (EO hs)
   have e:(0:Int)::(r'++[((n+1:Nat):Int)])=0::r:=e
   injection e with _ e
   subst e
   rcases E6.mp hp with hp|hp
   ·obtain⟨j,hj,e⟩:=iD hs hp
    refine⟨(Kf n).length+j,by omega,?_⟩
    rw[Fp (by omega),HI,ED,e,qi,qh (r:=[((n+1:Nat):Int)]) (p:=p) (by
     intro z
     rw[EC] at z
     have:=q p hp
     omega)]
    rfl
   ·rw[EC] at hp
    subst hp
    have hn:((n+1:Nat):Int) ∉ r':=fun z=>by have:=q _ z;omega
    refine⟨i - (Kf n).length,by
     have:0<(Kf n).length:=by rw[hJ];exact Nat.two_pow_pos n
     omega,?_⟩
    have hi:=(Ev.mp hs).1
    rw[ET hi,hs,qi,qh hn]
    have:wo [((n+1:Nat):Int)] ((n+1:Nat):Int)=[]:=by unfold wo;simp
    rw[this,EX]
theorem lC: ∀n,0::OP n∈Kf n
 |0=>EC.mpr rfl
 |n+1=>by
  rw[Kf]
  refine E3 _ (EB.mpr ⟨0::OP n,lC n,?_⟩)
  rw[tO,show (1:Int)+(n:Int)=((n+1:Nat):Int) by omega]
  rfl
noncomputable def bst (f:Option (Int×List Int))(c:Int×List Int):Option (Int×List Int):=match f with
 |none=>some c
 |some b=>if b.1<c.1 then some c else some b
def tl (G:Int->Int->Int):Nat->Int->List Int->Int×List Int
 |0,_,_=>(0,[])
 |n+1,last,rest=>((rest.map fun p=>(G last p+(tl G n p (wo rest p)).1,p::(tl G n p (wo rest p)).2)).foldl bst none).getD (0,[])
def tT (G:Int->Int->Int)(last:Int)(rest:List Int):Int×List Int:=tl G rest.length last rest
def Kl (G:Int->Int->Int)(last:Int)(rest:List Int)(p:Int):Int×List Int:=(G last p+(tT G p (wo rest p)).1,p::(tT G p (wo rest p)).2)
theorem zZ (G:Int->Int->Int){last:Int}{rest:List Int}(nd:rest.Nodup):tT G last rest=((rest.map (Kl G last rest)).foldl bst none).getD (0,[]):=by
 unfold tT
 cases e:rest.length with
 |zero=>
  have:=F7 e
  subst this
  rfl
 |succ n=>
  rw[tl]
  congr 2
  refine FH fun p hp=>?_
  have l:(wo rest p).length=n:=by have:=jh nd hp;omega
  unfold Kl tT
  rw[l]
noncomputable def tw (x:Int×List Int):W:=.tup [.int x.1,.tup (x.2.map W.int)]
def fW (x:Option (Int×List Int)):W:=match x with
 |none=>.non
 |some x=>tw x
theorem K6 (l:List Int):MV iOf (l.map W.int)=some l:=by
 have:=gR (f:=iOf) (g:=W.int) (k:=fun i=>i) (fun a=>rfl) l
 rw[this];simp
section
variable {β:Type}{h:List Ob}{Q:β->List Ob->Prop}{j:Nat}
theorem wk {ks:List PKy}{ws:List W}{p:Int}{l:List Int}{v:W}{k:W->M β}(e:h[j]?=some (.din false ks ws))(a:atK ks ws (p,l)=some v)(q:Ok (k v) h Q):Ok (bd (Lr (.loc j) (.tup [.int p,.tup (l.map W.int)])) k) h Q:=by
 refine bg (a:=v) (h':=h) ?_ q
 have e1:Kz (.loc j) h=some (false,ks,ws):=by unfold Kz;simp only[e]
 have e2:LF false (.tup [.int p,.tup (l.map W.int)])=some (p,l):=by
  show (MV iOf (l.map W.int)).map (fun ns=>(p,ns))=_
  rw[K6];rfl
 unfold Lr
 simp only[e1,e2,a]
theorem Bk {ks ks':List PKy}{ws ws':List W}{p:Int}{l:List Int}{v:W}{k:Unit->M β}(e:h[j]?=some (.din false ks ws))(hz:ks.length<sizeLine)(e2:Nl ks ws (p,l) v=(ks',ws'))(r:Ok (k ()) (h.set j (.din false ks' ws')) Q):Ok (bd (mO (.loc j) (.tup [.int p,.tup (l.map W.int)]) v) k) h Q:=by
 refine bg (a:=()) (h':=h.set j (.din false ks' ws')) ?_ r
 have e3:LF false (.tup [.int p,.tup (l.map W.int)])=some (p,l):=by
  show (MV iOf (l.map W.int)).map (fun ns=>(p,ns))=_
  rw[K6];rfl
 unfold mO
 simp only[e,e3,if_pos hz,e2]
theorem wl {b:Bool}{k:W->M β}{ρ:JR}(q:Ok (k (.loc h.length)) (h++[.din b [] []]) Q):Ok (bd (rk b ρ) k) h Q:=bg (a:=.loc h.length) (h':=h++[.din b [] []]) rfl q
end
theorem qj (r:List Int)(p:Int)(hr:r.length<=1000)(h:List Ob):Ok (g7 [.tup (r.map W.int),.int p]) h fun w h'=>w=.tup ((wo r p).map W.int)/\h'=h:=by
 have e0:g7 [.tup (r.map W.int),.int p]=bd (gW [some (.tup (r.map W.int)),some (.int p)]) KR:=rfl
 rw[e0]
 unfold gW
 have gl: ∀ {α:Type} (q:M α),gd ((r.map W.int).length<=sizeLine) q=q:=fun q=>ag (by rw[El];exact sz (by omega))
 simp! only[aa,gl]
 refine o6 (I:=fun i a h'=>h'=h/\a=(wo (r.take i) p).map W.int) ⟨rfl,rfl⟩ (fun _ _ _ _=>trivial) (fun i w a h' hw I=>?_) fun a h' I=>?_
 ·obtain⟨rfl,rfl⟩:=I
  rw[ED] at hw
  obtain⟨x,hx,rfl⟩:=EH.mp hw
  refine⟨_,rfl,?_⟩
  simp! only[List.replicate,E9,Fd,aa]
  rw[aP hx,qi]
  by_cases e:x=p
  ·refine ah (.inl ⟨by simp [e],rfl,?_⟩)
   have:wo [x] p=[]:=by unfold wo;simp [e]
   rw[this,EX]
  ·refine ah (.inr ⟨by simp [e],ah ⟨rfl,?_⟩⟩)
   have:wo [x] p=[x]:=by unfold wo;simp [e]
   rw[this,Et]
   rfl
 ·obtain⟨rfl,rfl⟩:=I
  rw[El,EN]
  simp! only[aa,jj]
  exact ah ⟨rfl,rfl⟩
theorem rn (x:Int×List Int):Lk (tw x) .non=pr (.bl false):=rfl
theorem sL:Lk .non .non=pr (.bl true):=rfl
theorem rm (x:Int×List Int):ixW (tw x) (.int 0)=pr (.int x.1):=ix0 ..
theorem nF (x:Int×List Int):ixW (tw x) (.int 1)=pr (.tup (x.2.map W.int)):=ix1 ..
theorem qq (G:Int->Int->Int): ∀ (n:Nat) (last:Int) (rest:List Int),(tl G n last rest).2.length<=n
 |0,_,_=>Em _
 |n+1,last,rest=>by
  rw[tl]
  have: ∀ (l:List (Int×List Int)) (f:Option (Int×List Int)),(∀c∈l,c.2.length<=n+1)->(∀c,f=some c->c.2.length<=n+1)->((l.foldl bst f).getD (0,[])).2.length<=n+1:=by
   intro l
   induction l with
   |nil=>
    intro f _ hf
    cases f with
    |none=>exact EI _
    |some c=>exact hf c rfl
   |cons c l ih=>
    intro f hl hf
    rw[GZ]
    refine ih _ (fun d hd=>hl d (EA _ hd)) fun d hd=>?_
    unfold bst at hd
    cases f with
    |none=>cases hd;exact hl _ Eo
    |some b=>
     dsimp only at hd
     split at hd
     ·cases hd;exact hl _ Eo
     ·cases hd;exact hf _ rfl
  refine this _ _ (fun c hc=>?_) fun c hc=>by cases hc
  obtain⟨p,_,rfl⟩:=EB.mp hc
  have:=qq G n p (wo rest p)
  show (tl G n p (wo rest p)).2.length+1<=n+1
  omega
theorem yc {h:List Ob}{jg jt:Nat}{gk:List (List Key)}{gw:List W}{G:Int->Int->Int}{ks:List PKy}{ws:List W}{last:Int}{rest:List Int}(eg:h[jg]?=some (.dit gk gw))(GG:GK gk gw G)(et:h[jt]?=some (.din false ks ws))(nd:rest.Nodup)(hr:rest.length<=50)
  (ha: ∀p∈rest,atK ks ws (p,wo rest p)=some (tw (tT G p (wo rest p)))):Ok (eM [.int last,.tup (rest.map W.int),.loc jg,.loc jt]) h fun w h'=>w=tw (tT G last rest)/\h'=h:=by
 have e0:eM [.int last,.tup (rest.map W.int),.loc jg,.loc jt]=bd (eI [some (.int last),some (.tup (rest.map W.int)),some (.loc jg),some (.loc jt),none,none,none,none]) KR:=rfl
 rw[e0]
 unfold eI
 simp!
 refine cP (I:=fun i ρ h'=> ∃a b c,ρ=[some (.int last),some (.tup (rest.map W.int)),some (.loc jg),some (.loc jt),some (fW (((rest.take i).map (Kl G last rest)).foldl bst none)),a,b,c]/\h'=h) ⟨_,_,_,rfl,rfl⟩ (fun _ _ _ _=>trivial) (fun i w ρ h1 hw I=>?_) fun ρ h1 I=>?_
 ·obtain⟨a,b,c,rfl,rfl⟩:=I
  rw[ED] at hw
  obtain⟨p,hp,rfl⟩:=EH.mp hw
  have pm:=EO hp
  refine⟨[some (.int last),some (.tup (rest.map W.int)),some (.loc jg),some (.loc jt),some (fW (((rest.take i).map (Kl G last rest)).foldl bst none)),some (.int p),b,c],rfl,?_⟩
  have ec:(((rest.take (i+1)).map (Kl G last rest)).foldl bst none)=bst (((rest.take i).map (Kl G last rest)).foldl bst none) (Kl G last rest p):=by
   rw[aP hp,Et,Hl];rfl
  rw[ec]
  generalize (((rest.take i).map (Kl G last rest)).foldl bst none)=F
  simp!
  refine aD (qj rest p (by omega) h1) fun w h2 qq_=>?_
  obtain⟨ew,e2⟩:=qq_
  subst ew e2
  simp! only[aa,OL]
  refine wk et (ha p pm) ?_
  have lt:(tT G p (wo rest p)).2.length<=50:=by
   have:=qq G (wo rest p).length p (wo rest p)
   have l:=jh nd pm
   unfold tT
   omega
  have hc:Kl G last rest p=(G last p+(tT G p (wo rest p)).1,p::(tT G p (wo rest p)).2):=rfl
  generalize tT G p (wo rest p)=T at *
  simp! only[aa,L1,OL]
  refine iR eg ?_
  simp! only[aa,OL]
  refine bg (i5 eg rfl) ?_
  rw[GG.get last p]
  have ea:Ka (.tup [.int p]) (.tup (T.2.map W.int))=pr (.tup ((p::T.2).map W.int)):=addT _ [] _ (by rw[El];show 0+T.2.length<=100;omega)
  cases F with
  |none=>
   simp! only[aa,rm,nF,sL,fW,OL,ea]
   exact ah ⟨_,rfl,_,_,_,by rw[hc];rfl,rfl⟩
  |some f=>
   by_cases q:f.1<G last p+T.1
   ·simp! only[aa,rm,nF,rn,fW,decide_eq_true q,OL,ea]
    exact ah ⟨_,rfl,_,_,_,by rw[hc];unfold bst;simp only[if_pos q];rfl,rfl⟩
   ·simp! only[aa,rm,nF,rn,fW,decide_eq_false q,OL,ea]
    exact ah ⟨_,rfl,_,_,_,by rw[hc];unfold bst;simp only[if_neg q];rfl,rfl⟩
 ·obtain⟨a,b,c,rfl,rfl⟩:=I
  rw[El,EN]
  rw[zZ G nd]
  cases ((rest.map (Kl G last rest)).foldl bst none) with
  |none=>
   simp! only[aa,sL,fW,OL]
   exact ah ⟨rfl,rfl⟩
  |some f=>
   simp! only[aa,rn,fW,OL]
   exact ah ⟨rfl,rfl⟩
noncomputable def NY (s:List Int):W:=.tup (s.map W.int)
theorem yj {N:Int}{m:Nat}(hN:N=(m:Int))(m1:1<=m)(m2:m<=10)(h:List Ob):Ok (dX [.int N]) h fun w h'=>w=.tl ((Kf (m - 1)).map NY)/\h'=h:=by
 have e0:dX [.int N]=bd (dU [some (.int N),none,none]) KR:=rfl
 rw[e0]
 unfold dU
 simp! only[aa,OL,kB (show (-(2 ^ 62):Int)<=1 by decide) (show (1:Int)<2 ^ 62 by decide) (show (-(2 ^ 62):Int)<=N by omega) (show N<2 ^ 62 by omega)]
 have eN:(N - 1).toNat=m - 1:=by omega
 refine cP (I:=fun i ρ h'=> ∃a,ρ=[some (.int N),some (.tl ((Kf i).map NY)),a]/\h'=h) ⟨_,rfl,rfl⟩ (fun _ _ _ _=>trivial) (fun i w ρ h1 hw I=>?_) fun ρ h1 I=>?_
 ·obtain⟨a,rfl,rfl⟩:=I
  obtain⟨rfl,hi⟩:=cG _ _ _ _ hw
  rw[eN] at hi
  have bl:(Kf i).length<=512:=by
   rw[hJ]
   exact GN (by decide) (show i<=9 by omega)
  refine⟨_,rfl,?_⟩
  have gl: ∀ {α:Type} (q:M α),gd (((Kf i).map NY).length<=sizeLine) q=q:=fun q=>ag (by rw[El];exact sz (by omega))
  simp! only[aa,gl]
  refine gS (I:=fun k a h'=>h'=h1/\a=(((Kf i).take k).map (· ++[((i+1:Nat):Int)])).map NY) ⟨rfl,rfl⟩ jf (fun _ _ _ _=>trivial) (fun k w a h' hw I=>?_) fun a h' I=>?_
  ·obtain⟨rfl,rfl⟩:=I
   rw[ED] at hw
   obtain⟨s,hs,rfl⟩:=EH.mp hw
   obtain⟨r,rfl,_,lr,_⟩:=dF (EO hs)
   refine⟨_,rfl,?_⟩
   have ea:Ka (NY (0::r)) (.tup [.int (1+(i:Int))])=pr (NY (0::r++[((i+1:Nat):Int)])):=by
    show Ka (.tup (.int 0::r.map W.int)) (.tup [.int (1+(i:Int))])=_
    rw[addT _ _ _ (by rw[El];show r.length+1<=100;omega)]
    unfold NY
    rw[Et,Er]
    have:(1:Int)+(i:Int)=((i+1:Nat):Int):=by omega
    rw[this];rfl
   simp! only[List.replicate,E9,Fd,aa,OL]
   rw[ea]
   refine ah ⟨rfl,?_⟩
   rw[aP hs,Et,Et]
   rfl
  ·obtain⟨rfl,rfl⟩:=I
   rw[El,EN]
   simp! only[aa,f9 _ _ (show ((Kf i).map NY).length+(((Kf i).map (· ++[((i+1:Nat):Int)])).map NY).length<=sizeLine by rw[El,El,El];exact sz (by omega))]
   refine ah ⟨_,rfl,some (.int (1+(i:Int))),?_,rfl⟩
   rw[Kf,Et]
 ·obtain⟨a,rfl,rfl⟩:=I
  rw[cF,eN]
  simp!
  exact ah ⟨rfl,rfl⟩
theorem kL (x:Int)(r:List Int):cx (.int x) (.tup (r.map W.int))=pr (.bl (!decide (x∈r))):=by
 funext h
 unfold cx
 have e:inB (.int x) (.tup (r.map W.int)) h=some (decide (x∈r)):=by
  show (match vOf (.int x),OU (r.map W.int) with
   |some v,some vs=>some (inV v vs)
   |_,_=>none)=_
  rw[dY (k:=V.int) (fun a=>rfl)]
  show some (inV (.int x) (r.map V.int))=_
  congr 1
  unfold inV
  rw[Fg,Gv,decide_eq_true_eq]
  constructor
  ·rintro⟨v,hv,q⟩
   obtain⟨y,hy,rfl⟩:=EB.mp hv
   have:y=x:=by simpa [eqV] using q
   subst this;exact hy
  ·intro q
   exact⟨.int x,EB.mpr ⟨x,q,rfl⟩,by simp [eqV]⟩
 rw[e];rfl
structure TK (G:Int->Int->Int)(m i l:Nat)(ks:List PKy)(ws:List W):Prop where
 len:ks.length=ws.length
 sz:ks.length<=i * 10+l
 get: ∀j r (x:Int),(Kf (m - 1))[j]?=some (0::r)->0<=x->x ∉ r->(j<i/\x<m\/j=i/\x<l)->atK ks ws (x,r)=some (tw (tT G x r))
theorem tq {h:List Ob}{P X:W}{bs:List B23}{cs:List Int}{m:Nat}(hp:ixW P (.int 1)=pr X)(hx:Lw h X (bs.map B23.w))(hm:bs.length=m)(m1:1<=m)(m2:m<=10)(hb: ∀b∈bs,b.e.tos.length<=6)(hc:(OX (KF bs)).length=cs.length):
  Ok (gJ [P,.tl (cs.map W.int)]) h fun w h'=>w=.tup ((0::(tT (K3 (zsL (KF bs) cs)) 0 (OP (m - 1))).2).map W.int)/\Nw h h':=by
 have e0:gJ [P,.tl (cs.map W.int)]=bd (nN [some P,some (.tl (cs.map W.int)),none,none,none,none,none,none]) KR:=rfl
 rw[e0]
 unfold nN
 obtain⟨N,hN⟩: ∃N:Int,N=(m:Int):=⟨_,rfl⟩
 simp! only[aa,hp]
 refine Lw.len_eq hx (N:=N) (by rw[El,hm];exact hN) ?_
 simp!
 refine aD (pL hp hx (by omega) hb hc) fun w h1 qq_=>?_
 obtain⟨jg,gk,gw,ew,D,GG⟩:=qq_
 subst ew
 generalize K3 (zsL (KF bs) cs)=G at *
 simp!
 refine wl ?_
 simp!
 refine aD (yj hN m1 m2 _) fun w h2 qq_=>?_
 obtain⟨ew,e2⟩:=qq_
 subst ew e2
 have jgl:jg<h1.length:=da D.new
 have eNn:N.toNat=m:=by omega
 have sl1: ∀r:List Int,slW (NY (0::r)) (some 1) none=pr (.tup (r.map W.int)):=fun r=>slos (os:=0::r) (by simp)
 simp! only[aa,gP]
 refine cP (I:=fun i ρ h'=> ∃a b c ks ws,ρ=[some P,some (.tl (cs.map W.int)),some (.int N),some (.loc jg),some (.loc h1.length),a,b,c]/\Nf h1 h' (.din false ks ws)/\TK G m i 0 ks ws) ⟨_,_,_,[],[],rfl,Nf.mk0,⟨rfl,EI _,fun j r x _ _ _ q=>by omega⟩⟩ (fun _ _ _ _=>trivial) (fun i w ρ h2 hw I=>?_) fun ρ h2 I=>?_
 ·obtain⟨a,b,c,ks,ws,rfl,N2,T⟩:=I
  rw[ED] at hw
  obtain⟨s,hs,rfl⟩:=EH.mp hw
  obtain⟨r,rfl,nd,lr,qr⟩:=dF (EO hs)
  have hi:i<512:=by
   have:=(Ev.mp hs).1
   rw[hJ] at this
   exact EM this (GN (by decide) (show m - 1<=9 by omega))
  refine⟨_,rfl,?_⟩
  simp! only[aa,sl1,gz (show (-(2 ^ 62):Int)<=N by omega) (show N<2 ^ 62 by omega)]
  refine sw (I:=fun l ρ h'=> ∃c ks ws,ρ=[some P,some (.tl (cs.map W.int)),some (.int N),some (.loc jg),some (.loc h1.length),some (NY (0::r)),some (.tup (r.map W.int)),c]/\Nf h1 h' (.din false ks ws)/\TK G m i l ks ws) ⟨_,ks,ws,rfl,N2,T⟩ (fun _ _ _ _=>trivial) (fun l w ρ h3 hw I=>?_) fun ρ h3 I=>?_
  ·obtain⟨c,ks,ws,rfl,N3,T3⟩:=I
   obtain⟨rfl,hl⟩:=cG _ _ _ _ hw
   rw[eNn] at hl
   refine⟨_,rfl,?_⟩
   rw[Ge]
   simp! only[aa,kL]
   by_cases q:(l:Int)∈r
   ·simp! only[aa,decide_eq_true q]
    refine ah ⟨_,rfl,_,ks,ws,rfl,N3,T3.len,Gb T3.sz,fun j r' x e x0 xn z=>?_⟩
    rcases z with z|⟨rfl,z⟩
    ·exact T3.get j r' x e x0 xn (.inl z)
    ·refine T3.get j r' x e x0 xn (.inr ⟨rfl,?_⟩)
     rw[hs] at e
     have:r'=r:=by injection e with e;injection e with _ e;exact e.symm
     subst this
     have:x≠l:=fun y=>xn (y▸q)
     omega
   ·simp! only[aa,decide_eq_false q]
    have ha: ∀p∈r,atK ks ws (p,wo r p)=some (tw (tT G p (wo r p))):=fun p hp=>by
     obtain⟨j,hj,ej⟩:=iD hs hp
     have:=qr p hp
     exact T3.get j (wo r p) p ej (by omega) (fun z=>(OY.mp z).2 rfl) (.inl ⟨hj,by omega⟩)
    refine aD (yc (jg:=jg) (jt:=h1.length) (last:=(l:Int)) (N3.get D.new) GG N3.new nd (by omega) ha) fun w h4 qq_=>?_
    obtain⟨ew,e4⟩:=qq_
    subst ew e4
    simp! only[aa,OL]
    rcases ep:Nl ks ws ((l:Int),r) (tw (tT G l r)) with⟨ks',ws'⟩
    obtain⟨l1,l2,g⟩:=oj T3.len ep
    have kz:=T3.sz
    refine Bk N3.new (E1 (show _<=6000 by omega) (by decide)) ep ?_
    simp!
    refine ah ⟨_,rfl,_,ks',ws',rfl,N3.put _,l1,by omega,fun j r' x e x0 xn z=>?_⟩
    rw[g]
    by_cases y:((l:Int),r)=(x,r')
    ·rw[if_pos y]
     injection y with y1 y2
     rw[y1,y2]
    ·rw[if_neg y]
     rcases z with z|⟨rfl,z⟩
     ·exact T3.get j r' x e x0 xn (.inl z)
     ·refine T3.get j r' x e x0 xn (.inr ⟨rfl,?_⟩)
      rw[hs] at e
      have:r'=r:=by injection e with e;injection e with _ e;exact e.symm
      subst this
      have:x≠l:=fun z=>y (by rw[z])
      omega
  ·obtain⟨c,ks,ws,rfl,N3,T3⟩:=I
   rw[cF,eNn] at T3
   refine⟨_,rfl,_,_,_,ks,ws,rfl,N3,T3.len,by have:=T3.sz;omega,fun j r' x e x0 xn z=>?_⟩
   have:j<i+1/\x<m:=by
    rcases z with z|⟨_,z⟩
    ·exact z
    ·omega
   refine T3.get j r' x e x0 xn ?_
   omega
 ·obtain⟨a,b,c,ks,ws,rfl,N2,T⟩:=I
  have etr:trW [.int 1,.int N]=pr (.tup ((OP (m - 1)).map W.int)):=by
   show gd ((-(2 ^ 62)<=(1:Int)/\(1:Int)<2 ^ 62/\ -(2 ^ 62)<=N/\N<2 ^ 62)/\(N - 1).toNat<=sizeLine) (pr (W.tup (Lb 1 (N - 1).toNat)))=_
   rw[ag ⟨⟨by decide,by decide,by omega,by omega⟩,sz (by omega)⟩,show (N - 1).toNat=m - 1 by omega,kW]
  simp! only[aa,OL,etr]
  obtain⟨i,hi⟩:=Hf (lC (m - 1))
  have il:=(Ev.mp hi).1
  refine wk N2.new (T.get i (OP (m - 1)) 0 hi (EW _) (fun z=>by have:=OQ.mp z;omega) (.inl ⟨by rw[El];exact il,by omega⟩)) ?_
  have lt:(tT G 0 (OP (m - 1))).2.length<=50:=by
   have:=qq G (OP (m - 1)).length 0 (OP (m - 1))
   rw[cQ] at this
   unfold tT
   rw[cQ]
   omega
  have ea:Ka (.tup [.int 0]) (.tup ((tT G 0 (OP (m - 1))).2.map W.int))=pr (.tup ((0::(tT G 0 (OP (m - 1))).2).map W.int)):=addT _ [] _ (by rw[El];show 0+_<=100;omega)
  simp! only[aa,nF,ea]
  exact ah ⟨rfl,D.nw.trans N2.nw⟩
end
section
section
variable {α β:Type}
noncomputable def fm (f:α->Int)(a:Option α)(c:α):Option α:=match a with
 |none=>some c
 |some b=>if f b<f c then some c else some b
def FM (f:α->Int)(a:Option α)(l:List α):Option α:=l.foldl (fm f) a
theorem CD (f:α->Int)(a:Option α)(l m:List α):FM f a (l++m)=FM f (FM f a l) m:=Hl ..
def cb (f:α->Int)(a b:Option α):Option α:=match b with
 |none=>a
 |some c=>fm f a c
theorem rS (f:α->Int)(a:Option α): ∀l:List α,FM f a l=cb f a (FM f none l)
 |[]=>rfl
 |c::l=>by
  show FM f (fm f a c) l=cb f a (FM f (some c) l)
  rw[rS f (fm f a c) l,rS f (some c) l]
  cases FM f none l with
  |none=>rfl
  |some d=>
   cases a with
   |none=>
    show fm f (some c) d=cb f none (fm f (some c) d)
    unfold fm
    dsimp only
    split<;>rfl
   |some b=>
    show fm f (fm f (some b) c) d=cb f (some b) (fm f (some c) d)
    unfold fm
    dsimp only
    by_cases h1:f b<f c
    ·rw[if_pos h1]
     by_cases h2:f c<f d
     ·rw[if_pos h2]
      dsimp only
      rw[if_pos h2]
      show _=fm f (some b) d
      unfold fm
      dsimp only
      rw[if_pos (by omega)]
     ·rw[if_neg h2]
      dsimp only
      rw[if_neg h2]
      show _=fm f (some b) c
      unfold fm
      dsimp only
      rw[if_pos h1]
    ·rw[if_neg h1]
     by_cases h2:f c<f d
     ·rw[if_pos h2]
      rfl
     ·rw[if_neg h2]
      dsimp only
      show _=fm f (some b) c
      unfold fm
      dsimp only
      rw[if_neg h1,if_neg (by omega)]
theorem xV (f:β->Int)(g:α->β)(a:Option α): ∀l:List α,FM f (a.map g) (l.map g)=(FM (fun x=>f (g x)) a l).map g
 |[]=>rfl
 |c::l=>by
  show FM f (fm f (a.map g) (g c)) (l.map g)=(FM _ (fm _ a c) l).map g
  rw[<-xV f g (fm _ a c) l]
  congr 1
  cases a with
  |none=>rfl
  |some b=>
   show (if f (g b)<f (g c) then some (g c) else some (g b))=(if f (g b)<f (g c) then some c else some b).map g
   split<;>rfl
theorem qg {f g:α->Int}(d:Int)(h:∀x,f x=d+g x)(a:Option α): ∀l:List α,FM f a l=FM g a l
 |[]=>rfl
 |c::l=>by
  show FM f (fm f a c) l=FM g (fm g a c) l
  have:fm f a c=fm g a c:=by
   cases a with
   |none=>rfl
   |some b=>
    show (if f b<f c then some c else some b)=if g b<g c then some c else some b
    rw[h b,h c]
    by_cases q:g b<g c
    ·rw[if_pos q,if_pos (by omega)]
    ·rw[if_neg q,if_neg (by omega)]
  rw[this]
  exact qg d h _ l
theorem tJ (f:β->Int)(g:α->List β)(k:α->β): ∀ (l:List α) (a:Option β),(∀x∈l,FM f none (g x)=some (k x))->FM f a (l.flatMap g)=FM f a (l.map k)
 |[],_,_=>rfl
 |x::l,a,h=>by
  rw[Fy,CD,rS f a (g x),h x Eo,Er]
  exact tJ f g k l _ fun y hy=>h y (EA _ hy)
theorem rR (f:α->Int): ∀ (l:List α) (a:Option α) (x:α),FM f a l=some x->(∀y,(a=some y\/y∈l)->f y<=f x)/\(a=some x\/x∈l)
 |[],a,x,h=>by
  have h:a=some x:=h
  subst h
  exact⟨fun y hy=>by rcases hy with hy|hy;cases hy;exact EW _;exact absurd hy EF,.inl rfl⟩
 |c::l,a,x,h=>by
  have h:FM f (fm f a c) l=some x:=h
  obtain⟨h1,h2⟩:=rR f l _ x h
  have k: ∃d,fm f a c=some d/\f c<=f d/\(∀b,a=some b->f b<=f d)/\(d=c\/a=some d):=by
   cases a with
   |none=>exact⟨c,rfl,EW _,(fun b hb=>by cases hb),.inl rfl⟩
   |some b=>
    show∃d,(if f b<f c then some c else some b)=some d/\_
    by_cases q:f b<f c
    ·exact⟨c,if_pos q,EW _,(fun b' hb=>by cases hb;omega),.inl rfl⟩
    ·exact⟨b,if_neg q,by omega,(fun b' hb=>by cases hb;exact EW _),.inr rfl⟩
  obtain⟨d,e,kc,ka,kd⟩:=k
  have dx:=h1 d (.inl e)
  refine⟨fun y hy=>?_,?_⟩
  ·rcases hy with hy|hy
   ·have:=ka y hy;omega
   ·rcases En.mp hy with rfl|hy
    ·omega
    ·exact h1 y (.inr hy)
  ·rcases h2 with h2|h2
   ·rw[e] at h2
    cases h2
    rcases kd with rfl|kd
    ·exact .inr Eo
    ·exact .inl kd
   ·exact .inr (EA _ h2)
end
def prm:Nat->List Int->List (List Int)
 |0,_=>[[]]
 |n+1,rest=>rest.flatMap fun p=>(prm n (wo rest p)).map (p:: ·)
theorem kD: ∀ {n:Nat}{rest t:List Int},rest.Nodup->rest.length=n->t∈prm n rest->t.Perm rest
 |0,rest,t,_,hl,h=>by
  rw[F7 hl]
  rw[prm,EC] at h
  rw[h]
 |n+1,rest,t,nd,hl,h=>by
  rw[prm] at h
  obtain⟨p,hp,h⟩:=Gd.mp h
  obtain⟨s,hs,rfl⟩:=EB.mp h
  exact ((kD (rT nd) (by have:=jh nd hp;omega) hs).cons p).trans (fq nd hp)
theorem ng: ∀ {n:Nat}{rest t:List Int},rest.Nodup->rest.length=n->t.Perm rest->t∈prm n rest
 |0,rest,t,_,hl,h=>by
  rw[F7 hl] at h
  rw[h.eq_nil,prm]
  exact EC.mpr rfl
 |n+1,rest,t,nd,hl,h=>by
  cases t with
  |nil=>have:=h.length_eq;rw[hl] at this;cases this
  |cons p t=>
   have hp:p∈rest:=h.subset Eo
   rw[prm]
   refine Gd.mpr ⟨p,hp,EB.mpr ⟨t,ng (rT nd) (by have:=jh nd hp;omega) ?_,rfl⟩⟩
   exact (h.trans (fq nd hp).symm).cons_inv
theorem xW (f:List Int->Int): ∀ (l:List (Int×List Int)) (a:Option (Int×List Int)),(∀c∈l,f c.2=c.1)->(∀c,a=some c->f c.2=c.1)->(l.foldl bst a).map Prod.snd=FM f (a.map Prod.snd) (l.map Prod.snd)/\ ∀c,l.foldl bst a=some c->f c.2=c.1
 |[],a,_,ha=>⟨rfl,ha⟩
 |c::l,a,h,ha=>by
  have e:(bst a c).map Prod.snd=fm f (a.map Prod.snd) c.2:=by
   cases a with
   |none=>rfl
   |some b=>
    show (if b.1<c.1 then some c else some b).map Prod.snd=if f b.2<f c.2 then some c.2 else some b.2
    rw[ha b rfl,h c Eo]
    split<;>rfl
  have k:=xW f l (bst a c) (fun d hd=>h d (EA _ hd)) fun d hd=>by
   cases a with
   |none=>cases hd;exact h c Eo
   |some b=>
    have hd:(if b.1<c.1 then some c else some b)=some d:=hd
    split at hd
    ·cases hd;exact h c Eo
    ·cases hd;exact ha _ rfl
  refine⟨?_,k.2⟩
  show (l.foldl bst (bst a c)).map Prod.snd=FM f (fm f (a.map Prod.snd) c.2) (l.map Prod.snd)
  rw[<-e]
  exact k.1
theorem ua (G:Int->Int->Int)(a b:Int)(l:List Int):Ng G (a::b::l)=G a b+Ng G (b::l):=rfl
theorem qa {c:Int×List Int}: ∀ (l:List (Int×List Int)) (a:Option (Int×List Int)),(a≠none\/l≠ [])-> ∃d,l.foldl bst a=some d
 |[],a,h=>by
  cases a with
  |none=>rcases h with h|h<;>exact absurd rfl h
  |some d=>exact⟨d,rfl⟩
 |c'::l,a,h=>by
  rw[GZ]
  refine qa (c:=c) l _ (.inl ?_)
  cases a with
  |none=>exact fun z=>by cases z
  |some b=>
   show (if b.1<c'.1 then some c' else some b)≠none
   split<;>simp
theorem kh (G:Int->Int->Int): ∀ (n:Nat) (last:Int) (rest:List Int),rest.Nodup->rest.length=n->
  FM (fun t=>Ng G (last::t)) none (prm n rest)=some (tT G last rest).2/\Ng G (last::(tT G last rest).2)=(tT G last rest).1
 |0,last,rest,nd,hl=>by
  have:=F7 hl
  subst this
  exact⟨rfl,rfl⟩
 |n+1,last,rest,nd,hl=>by
  have ih:=fun p (hp:p∈rest)=>kh G n p (wo rest p) (rT nd) (by have:=jh nd hp;omega)
  have hc: ∀c∈rest.map (Kl G last rest),Ng G (last::c.2)=c.1:=fun c hc=>by
   obtain⟨p,hp,rfl⟩:=EB.mp hc
   show Ng G (last::p::(tT G p (wo rest p)).2)=G last p+(tT G p (wo rest p)).1
   rw[ua,(ih p hp).2]
  obtain⟨k1,k2⟩:=xW (fun t=>Ng G (last::t)) (rest.map (Kl G last rest)) none hc (fun c z=>by cases z)
  obtain⟨d,hd⟩:=qa (c:=(0,[])) (rest.map (Kl G last rest)) none (.inr fun z=>by
   have:=congrArg List.length z
   rw[El,hl] at this
   cases this)
  have et:tT G last rest=d:=by rw[zZ G nd,hd];rfl
  refine⟨?_,by rw[et];exact k2 d hd⟩
  rw[et,prm,tJ (k:=fun p=>p::(tT G p (wo rest p)).2)]
  ·rw[hd] at k1
   have k1:some d.2=FM (fun t=>Ng G (last::t)) none ((rest.map (Kl G last rest)).map Prod.snd):=k1
   rw[k1,E2]
   rfl
  ·intro p hp
   have:=xV (fun t=>Ng G (last::t)) (p:: ·) none (prm n (wo rest p))
   rw[show (none:Option (List Int)).map (p:: ·)=none from rfl] at this
   rw[this,qg (f:=fun x=>Ng G (last::p::x)) (G last p) (g:=fun t=>Ng G (p::t)) (fun x=>rfl),(ih p hp).1]
   rfl
theorem mK (G:Int->Int->Int){last:Int}{rest:List Int}(nd:rest.Nodup):(tT G last rest).2.Perm rest:=by
 obtain⟨h1,_⟩:=kh G rest.length last rest nd rfl
 obtain⟨_,h3⟩:=rR _ _ _ _ h1
 rcases h3 with h3|h3
 ·cases h3
 ·exact kD nd rfl h3
theorem qw (G:Int->Int->Int){last:Int}{rest t:List Int}(nd:rest.Nodup)(p:t.Perm rest):Ng G (last::t)<=Ng G (last::(tT G last rest).2):=by
 obtain⟨h1,_⟩:=kh G rest.length last rest nd rfl
 exact (rR _ _ _ _ h1).1 t (.inr (ng nd rfl p))
end
section
theorem gN (ns:List Int):Ow [.tl (ns.map W.int)]=pr (.int ns.sum):=by
 show (match MV iOf (ns.map W.int) with
  |some ns=>(pr (W.int ns.sum):M W)
  |none=>no)=_
 rw[show MV iOf (ns.map W.int)=some ns from by
  have:=gR (f:=iOf) (g:=W.int) (k:=fun i=>i) (fun a=>rfl) ns
  rw[this];simp]
theorem sX {h:List Ob}{P x:W}{bs:List B23}{cs os:List Int}(hp:ixW P (.int 1)=pr x)(hx:Lw h x (bs.map B23.w))(hl:bs.length<=10)(hb: ∀b∈bs,b.e.tos.length<=6)(hc:(OX (KF bs)).length=cs.length)(o1:1<=os.length)(o2:os.length<=100)(nd:os.Nodup):
  Ok (iA [P,.tup (os.map W.int),.tl (cs.map W.int)]) h fun w h'=>w=.int (MY os (zsL (KF bs) cs))/\Nw h h':=by
 have e0:iA [P,.tup (os.map W.int),.tl (cs.map W.int)]=bd (nM [some (P),some (.tup (os.map W.int)),some (.tl (cs.map W.int)),none]) KR:=rfl
 rw[e0]
 unfold nM
 simp!
 refine aD (pL hp hx hl hb hc) fun w h1 qq_=>?_
 obtain⟨j,ks,ws,ew,D,G⟩:=qq_
 subst ew
 have gl: ∀ {α:Type} (q:M α),gd ((OZ (os.map W.int) (os.tail.map W.int)).length<=sizeLine) q=q:=fun q=>ag (by
  rw[ot,Fm];exact sz (by omega))
 simp! only[aa,gN,slos o1,vD,gl]
 refine gS (I:=fun i a h'=>h'=h1/\a=((os.zipWith (K3 (zsL (KF bs) cs)) os.tail).take i).map W.int) ⟨rfl,rfl⟩ jf (fun _ _ _ _=>⟨trivial,trivial⟩) (fun i w a h' hw I=>?_) fun a h' I=>?_
 ·obtain⟨rfl,rfl⟩:=I
  obtain⟨a,b,ha,hb,rfl⟩:=tK hw
  refine⟨[some (.tup [.int a,.int b]),none,some (P),some (.tup (os.map W.int)),some (.tl (cs.map W.int)),some (.loc j)],rfl,?_⟩
  simp! only[aa,L1]
  refine iR D.new ?_
  simp!
  refine Df (i5 D.new rfl) ⟨rfl,?_⟩
  rw[G.get a b,aP (x:=K3 (zsL (KF bs) cs) a b) (by rw[Ga,ha,hb]),Et]
  rfl
 ·obtain⟨rfl,rfl⟩:=I
  rw[ot,Fm,<-Fm (f:=K3 (zsL (KF bs) cs)),EN]
  simp! only[aa,gN]
  exact ah ⟨by rw[oZ,jU nd hc],D.nw⟩
end
section
theorem Dh:Jt.strOk "if"=true:=by decide+kernel
theorem Di:Jt.strOk "go"=true:=by decide+kernel
theorem wd:Jt.strOk "table"=true:=by decide+kernel
theorem yM:Jt.strOk "stop"=true:=by decide+kernel
theorem E17.Good.pd {m:Int}{e:E17}(g:e.Good m):Pd 10 e.w:=by
 cases e with
 |go t=>exact pdT (by simp) (aR (.str Di) (aR .int gB))
 |iff s a b x y=>exact pdT (by simp) (aR (.str Dh) (aR (.str g.2.2.2.2) (aR (g.2.2.1.up (by decide)) (aR (g.2.2.2.1.up (by decide)) (aR .int (aR .int gB))))))
 |table e ts=>exact pdT (by simp) (aR (.str wd) (aR (g.2.2.up (by decide)) (aR (pdT (by rw[El];have:=g.1;omega) (yD ts (n:=7))) gB)))
 |stop=>exact pdT (by simp) (aR (.str yM) gB)
structure BG (m:Int)(b:B23):Prop where
 g:b.e.Good m
 pd:Pd 12 b.w
theorem BG.mk' {m:Int}{nm:Str}{sts:List W}{e:E17}(g:e.Good m)(hn:Jt.strOk nm=true)(hs:sts.length<=8)(hp: ∀x∈sts,Pd 9 x):BG m ⟨nm,sts,e⟩:=
 ⟨g,pdT (by simp) (aR (.str hn) (aR (.lst (EG hs (by decide)) fun x hx=>(hp x hx).up (by decide)) (aR (g.pd.up (by decide)) gB)))⟩
theorem BG.six {m:Int}{b:B23}(g:BG m b):b.e.tos.length<=6:=g.g.six
end
section
noncomputable def ia (m:Nat):List Int:=(List.range m).map fun (k:Nat)=>(k:Int)
def MW (m:Nat)(one:List Int):List Int:=(ia m).filter fun x=>!decide (x∈one)
def KO (m:Nat)(one:List Int):List (List Int):=(MW m one).map fun x=>one++[x]
def itr (m:Nat):Nat->List (List Int)->List (List Int)
 |0,l=>l
 |n+1,l=>itr m n (l.flatMap (KO m))
theorem kU (m:Nat): ∀ (n:Nat) (l:List (List Int)),itr m n l=l.flatMap fun o=>itr m n [o]
 |0,l=>by
  show l=l.flatMap fun o=>[o]
  induction l with
  |nil=>rfl
  |cons a l ih=>rw[Fy,<-ih];rfl
 |n+1,l=>by
  show itr m n (l.flatMap (KO m))=l.flatMap fun o=>itr m n ([o].flatMap (KO m))
  rw[kU m n (l.flatMap (KO m)),List.flatMap_assoc]
  congr 1
  funext o
  rw[kU m n ([o].flatMap (KO m))]
  simp
theorem iZ (m:Nat): ∀ (n:Nat) (l:List (List Int)),itr m (n+1) l=(itr m n l).flatMap (KO m)
 |0,l=>rfl
 |n+1,l=>by
  show itr m (n+1) (l.flatMap (KO m))=(itr m n (l.flatMap (KO m))).flatMap (KO m)
  exact iZ m n _
theorem o3 (m:Nat)(one:List Int)(p:Int):MW m (one++[p])=wo (MW m one) p:=by
 unfold MW wo
 rw[List.filter_filter]
 refine List.filter_congr fun x _=>?_
 rw[Fg]
 simp
 constructor
 ·intro h;exact⟨h.2,h.1⟩
 ·intro h;exact⟨h.2,h.1⟩
theorem DJ (m:Nat):(ia m).Nodup:=by
 unfold ia
 show G4 (· ≠ ·) _
 rw[HN]
 exact List.nodup_range.imp fun h=>by omega
theorem sI (m:Nat): ∀ (n:Nat) (one:List Int),(MW m one).length=n->itr m n [one]=(prm n (MW m one)).map (one++ ·)
 |0,one,_=>by
  show [one]=[[]].map (one++ ·)
  simp
 |n+1,one,h=>by
  show itr m n ([one].flatMap (KO m))=_
  rw[kU,show [one].flatMap (KO m)=KO m one by simp,prm,List.map_flatMap]
  unfold KO
  rw[List.flatMap_map]
  have nd:(MW m one).Nodup:=(DJ m).filter _
  have: ∀l:List Int,(∀p∈l,p∈MW m one)->(l.flatMap fun p=>itr m n [one++[p]])=l.flatMap fun p=>((prm n (wo (MW m one) p)).map (p:: ·)).map (one++ ·):=by
   intro l
   induction l with
   |nil=>intro _;rfl
   |cons p l ih=>
    intro hp
    have pm:=hp p Eo
    rw[Fy,Fy,ih fun q hq=>hp q (EA _ hq),sI m n (one++[p]) (by rw[o3];have:=jh nd pm;omega),o3,E2]
    congr 1
    refine FH fun t _=>?_
    show one++[p]++t=one++(p::t)
    simp
  exact this _ fun p hp=>hp
theorem kI {m:Nat}(h:1<=m):MW m [0]=OP (m - 1):=by
 obtain⟨n,rfl⟩: ∃n,m=n+1:=⟨m - 1,by omega⟩
 unfold MW ia OP
 rw[HS,Er,Gf]
 simp
 rw[show (List.map ((fun (k:Nat)=>(k:Int))∘Fs) (List.range n))=List.map (fun (r:Nat)=>1+(r:Int)) (List.range n) from FH fun x _=>by show ((x+1:Nat):Int)=_;omega]
 rw[Hk]
 intro a ha
 obtain⟨r,_,rfl⟩:=EB.mp ha
 simp
 omega
theorem mj (m:Nat): ∀ (n:Nat) (s:List Int),s∈itr m n [[0]]-> ∃r,s=0::r/\r.length=n
 |0,s,h=>⟨[],EC.mp h,rfl⟩
 |n+1,s,h=>by
  rw[iZ] at h
  obtain⟨t,ht,h⟩:=Gd.mp h
  obtain⟨x,_,rfl⟩:=EB.mp h
  obtain⟨r,rfl,l⟩:=mj m n t ht
  exact⟨r++[x],rfl,by rw[Ep,l];rfl⟩
theorem nO {α β:Type}{c:Nat}{f:α->List β}: ∀l:List α,(∀x∈l,(f x).length<=c)->(l.flatMap f).length<=l.length * c
 |[],_=>EI _
 |x::l,h=>by
  have:=nO l fun y hy=>h y (EA _ hy)
  have hx:=h x Eo
  rw[Fy,Ep,Es,Nat.add_mul,Nat.one_mul]
  omega
theorem lh (m:Nat)(one:List Int):(KO m one).length<=m:=by
 unfold KO MW
 rw[El]
 refine EG (List.length_filter_le _ _) ?_
 unfold ia
 rw[El,GH];exact Em _
theorem nI {m:Nat}(hm:m<=6): ∀n,(itr m n [[0]]).length<=6 ^ n
 |0=>Em _
 |n+1=>by
  rw[iZ,Nat.pow_succ]
  refine EG (nO (c:=6) _ fun x _=>EG (lh m x) hm) (Nat.mul_le_mul_right _ (nI hm n))
end
section
def zsG (es:List E17)(ws:List Way)(cs:List Int):List Zw:=F9 (fun (w:Way) c=>(OF es w.1,w.1,w.2.2,c)) ws cs
def NV (w:Way)(v:Int)(ws:List Way)(cs:List Int):List Int:=F9 (fun (o:Way) c=>if o=w then v else c) ws cs
def Kq (w:Way):List Way->List Int->Int
 |o::ws,_::cs=>(if o=w then 1 else 0)+Kq w ws cs
 |_,_=>0
def N7 (es:List E17)(cs:List Int)(w:Way)(v:Int):List Int:=NV w v (OX es) cs
theorem eT {es:List E17}{cs:List Int}{w:Way}{v:Int}(h:(OX es).length=cs.length):(OX es).length=(N7 es cs w v).length:=by
 unfold N7 NV
 rw[Fm,h,Hn]
def gn (o:List Int)(z:Zw):Int:=if z.1=false/\aft o z.2.1=some z.2.2.1 then z.2.2.2 else 0
theorem mS (es:List E17)(w:Way)(v:Int)(o:List Int): ∀ (ws:List Way) (cs:List Int),((zsG es ws (NV w v ws cs)).map (gn o)).sum=((zsG es ws (NV w 0 ws cs)).map (gn o)).sum+(if OF es w.1=false/\aft o w.1=some w.2.2 then v * Kq w ws cs else 0)
 |[],cs=>by
  show (0:Int)=0+(if OF es w.1=false/\aft o w.1=some w.2.2 then v * 0 else 0)
  split<;>simp
 |x::ws,[]=>by
  show (0:Int)=0+(if OF es w.1=false/\aft o w.1=some w.2.2 then v * 0 else 0)
  split<;>simp
 |x::ws,c::cs=>by
  have ih:=mS es w v o ws cs
  show gn o (OF es x.1,x.1,x.2.2,if x=w then v else c)+((zsG es ws (NV w v ws cs)).map (gn o)).sum=gn o (OF es x.1,x.1,x.2.2,if x=w then 0 else c)+((zsG es ws (NV w 0 ws cs)).map (gn o)).sum+(if OF es w.1=false/\aft o w.1=some w.2.2 then v * ((if x=w then 1 else 0)+Kq w ws cs) else 0)
  rw[ih]
  by_cases e:x=w
  ·subst e
   rw[if_pos rfl,if_pos rfl,if_pos rfl]
   have g1: ∀c,gn o (OF es x.1,x.1,x.2.2,c)=if OF es x.1=false/\aft o x.1=some x.2.2 then c else 0:=fun c=>rfl
   rw[g1,g1]
   by_cases q:OF es x.1=false/\aft o x.1=some x.2.2
   ·rw[if_pos q,if_pos q,if_pos q,if_pos q,Int.mul_add,Gk];omega
   ·rw[if_neg q,if_neg q,if_neg q,if_neg q];omega
  ·rw[if_neg e,if_neg e,if_neg e,Ge];omega
theorem sZ {w:Way}: ∀ {ws:List Way}{cs:List Int},ws.length=cs.length->w∈ws->1<=Kq w ws cs/\0<=Kq w ws cs
 |[],_,_,h=>absurd h EF
 |x::ws,[],h,_=>by cases h
 |x::ws,c::cs,h,hw=>by
  have nn: ∀ (ws:List Way) (cs:List Int),0<=Kq w ws cs:=by
   intro ws
   induction ws with
   |nil=>intro cs;cases cs<;>exact EW _
   |cons y ws ih=>
    intro cs
    cases cs with
    |nil=>exact EW _
    |cons d cs=>
     show 0<=(if y=w then 1 else 0)+Kq w ws cs
     have:=ih cs
     split<;>omega
  show 1<=(if x=w then 1 else 0)+Kq w ws cs/\0<=(if x=w then 1 else 0)+Kq w ws cs
  have:=nn ws cs
  by_cases e:x=w
  ·rw[if_pos e];omega
  ·have hw':w∈ws:=by
    rcases En.mp hw with hw|hw
    ·exact absurd hw.symm e
    ·exact hw
   have:=(sZ (w:=w) (Fs.inj h) hw').1
   rw[if_neg e];omega
theorem lV (es:List E17)(w:Way)(o:List Int): ∀ (ws:List Way) (cs:List Int),(∀c∈cs,0<=c)->0<=((zsG es ws (NV w 0 ws cs)).map (gn o)).sum/\((zsG es ws (NV w 0 ws cs)).map (gn o)).sum<=cs.sum
 |[],cs,h=>by
  have:0<=cs.sum:=by
   induction cs with
   |nil=>exact EW _
   |cons c cs ih=>rw[Fe];have:=h c Eo;have:=ih fun d hd=>h d (EA _ hd);omega
  exact⟨EW _,this⟩
 |x::ws,[],h=>⟨EW _,EW _⟩
 |x::ws,c::cs,h=>by
  have ih:=lV es w o ws cs fun d hd=>h d (EA _ hd)
  have hc:=h c Eo
  show 0<=gn o (OF es x.1,x.1,x.2.2,if x=w then 0 else c)+((zsG es ws (NV w 0 ws cs)).map (gn o)).sum/\gn o (OF es x.1,x.1,x.2.2,if x=w then 0 else c)+((zsG es ws (NV w 0 ws cs)).map (gn o)).sum<=_
  have:0<=gn o (OF es x.1,x.1,x.2.2,if x=w then 0 else c)/\gn o (OF es x.1,x.1,x.2.2,if x=w then 0 else c)<=c:=by
   unfold gn
   dsimp only
   split
   ·split<;>omega
   ·omega
  rw[Fe]
  omega
theorem Cj {m:Nat}{a b:Int}(m1:1<=m)(a0:0<=a)(a1:a<m)(b0:0<=b)(b1:b<m)(n1:b≠a)(n2:b≠0): ∃t:List Int,t.Perm (OP (m - 1))/\aft (0::t) a=some b:=by
 have un:(OP (m - 1)).Nodup:=(E8.mp (cW m)).2
 have bm:b∈OP (m - 1):=OQ.mpr (by omega)
 by_cases e:a=0
 ·subst e
  exact⟨b::wo (OP (m - 1)) b,fq un bm,by unfold aft;rw[if_pos rfl]⟩
 ·have am:a∈OP (m - 1):=OQ.mpr (by omega)
  have bm2:b∈wo (OP (m - 1)) a:=OY.mpr ⟨bm,n1⟩
  refine⟨a::b::wo (wo (OP (m - 1)) a) b,((fq (rT un) bm2).cons a).trans (fq un am),?_⟩
  unfold aft
  rw[if_neg (fun z=>e z.symm)]
  unfold aft
  rw[if_pos rfl]
def G0 (es:List E17)(cs:List Int)(w:Way):Int->Int->Int:=K3 (zsL es (N7 es cs w 0))
def G1 (es:List E17)(cs:List Int)(w:Way):Int->Int->Int:=K3 (zsL es (N7 es cs w (cs.sum+1)))
def o0 (es:List E17)(cs:List Int)(w:Way)(m:Nat):List Int:=0::(tT (G0 es cs w) 0 (OP (m - 1))).2
def o1 (es:List E17)(cs:List Int)(w:Way)(m:Nat):List Int:=0::(tT (G1 es cs w) 0 (OP (m - 1))).2
def OM (es:List E17)(cs:List Int)(w:Way)(m:Nat):Int:=MY (o1 es cs w m) (zsL es (N7 es cs w 0)) - MY (o0 es cs w m) (zsL es (N7 es cs w 0))
def Kk (es:List E17)(w:Way):Bool:=!OF es w.1 && (!decide (w.2.2=w.1) && !decide (w.2.2=0))
structure TF (es:List E17)(cs:List Int)(w:Way)(m:Nat):Prop where
 p0:(o0 es cs w m).Perm (Kb m)
 p1:(o1 es cs w m).Perm (Kb m)
 val:OM es cs w m=Ng (G0 es cs w) (o0 es cs w m) - Ng (G0 es cs w) (o1 es cs w m)
 adj:aft (o1 es cs w m) w.1=some w.2.2
 top0: ∀t:List Int,t.Perm (OP (m - 1))->Ng (G0 es cs w) (0::t)<=Ng (G0 es cs w) (o0 es cs w m)
 top1: ∀t:List Int,t.Perm (OP (m - 1))->aft (0::t) w.1=some w.2.2->Ng (G0 es cs w) (0::t)<=Ng (G0 es cs w) (o1 es cs w m)
 pos: ∀t:List Int,t.Perm (OP (m - 1))->0<=Ng (G0 es cs w) (0::t)
theorem ke {es:List E17}{cs:List Int}{w:Way}{m:Nat}(m1:1<=m)(hc:(OX es).length=cs.length)(c0: ∀c∈cs,0<=c)(hw:w∈OX es)(a0:0<=w.1)(a1:w.1<m)(b0:0<=w.2.2)(b1:w.2.2<m)(can:Kk es w=true):TF es cs w m:=by
 have un:(OP (m - 1)).Nodup:=(E8.mp (cW m)).2
 have ct:OF es w.1=false/\w.2.2≠w.1/\w.2.2≠0:=by
  unfold Kk at can
  simpa using can
 have nd: ∀t:List Int,t.Perm (OP (m - 1))->(0::t).Nodup:=fun t p=>(p.cons 0).nodup_iff.mpr (cW m)
 have q0:=mK (G0 es cs w) (last:=0) un
 have q1:=mK (G1 es cs w) (last:=0) un
 have ps: ∀t:List Int,t.Perm (OP (m - 1))->Ng (G1 es cs w) (0::t)=Ng (G0 es cs w) (0::t)+(if aft (0::t) w.1=some w.2.2 then (cs.sum+1) * Kq w (OX es) cs else 0):=fun t p=>by
  have e1:=di (nd t p) (zsL es (N7 es cs w (cs.sum+1)))
  have e2:=di (nd t p) (zsL es (N7 es cs w 0))
  have e3:=mS es w (cs.sum+1) (0::t) (OX es) cs
  have e4:(if aft (0::t) w.1=some w.2.2 then (cs.sum+1) * Kq w (OX es) cs else 0)=(if OF es w.1=false/\aft (0::t) w.1=some w.2.2 then (cs.sum+1) * Kq w (OX es) cs else 0):=by
   by_cases q:aft (0::t) w.1=some w.2.2
   ·rw[if_pos q,if_pos ⟨ct.1,q⟩]
   ·rw[if_neg q,if_neg (fun z=>q z.2)]
  unfold G1 G0
  rw[e1,e2,e4]
  exact e3
 have bd: ∀t:List Int,t.Perm (OP (m - 1))->0<=Ng (G0 es cs w) (0::t)/\Ng (G0 es cs w) (0::t)<=cs.sum:=fun t p=>by
  have e2:=di (nd t p) (zsL es (N7 es cs w 0))
  have e3:=lV es w (0::t) (OX es) cs c0
  unfold G0
  rw[e2]
  exact e3
 have cp:=(sZ hc hw).1
 have S0:0<=cs.sum:=by have:=bd _ q0;omega
 have Dp:cs.sum+1<=(cs.sum+1) * Kq w (OX es) cs:=by
  have:=Int.mul_le_mul_of_nonneg_left cp (show 0<=cs.sum+1 by omega)
  rw[Gk] at this
  exact this
 have t1: ∀t:List Int,t.Perm (OP (m - 1))->Ng (G1 es cs w) (0::t)<=Ng (G1 es cs w) (o1 es cs w m):=fun t p=>qw (G1 es cs w) un p
 have adj:aft (o1 es cs w m) w.1=some w.2.2:=by
  refine Classical.byContradiction fun n=>?_
  obtain⟨t,p,et⟩:=Cj m1 a0 a1 b0 b1 ct.2.1 ct.2.2
  have x1:=t1 t p
  have x2:=ps t p
  have x3:=ps _ q1
  rw[if_pos et] at x2
  rw[show (0::(tT (G1 es cs w) 0 (OP (m - 1))).2)=o1 es cs w m from rfl,if_neg n] at x3
  have x4:=bd t p
  have x5:=bd _ q1
  rw[show (0::(tT (G1 es cs w) 0 (OP (m - 1))).2)=o1 es cs w m from rfl] at x5
  omega
 refine⟨q0.cons 0,q1.cons 0,?_,adj,fun t p=>qw (G0 es cs w) un p,fun t p et=>?_,fun t p=>(bd t p).1⟩
 ·have e0:=jU (nd _ q0) (eT (w:=w) (v:=0) hc)
  have e1:=jU (nd _ q1) (eT (w:=w) (v:=0) hc)
  unfold OM
  have e0:(N7 es cs w 0).sum - Ng (G0 es cs w) (o0 es cs w m)=MY (o0 es cs w m) (zsL es (N7 es cs w 0)):=e0
  have e1:(N7 es cs w 0).sum - Ng (G0 es cs w) (o1 es cs w m)=MY (o1 es cs w m) (zsL es (N7 es cs w 0)):=e1
  omega
 ·have x1:=t1 t p
  have x2:=ps t p
  have x3:=ps _ q1
  rw[if_pos et] at x2
  rw[show (0::(tT (G1 es cs w) 0 (OP (m - 1))).2)=o1 es cs w m from rfl,if_pos adj] at x3
  omega
theorem nR (a b:Int):Jt.eqv (.int a) (.int b)=decide (a=b):=by
 rw[Jt.eqv]
 by_cases e:a=b
 ·simp [e]
 ·simp [e]
theorem xl (a b:Way):eqW (OV a) (OV b)=pr (.bl (decide (a=b))):=xm fun h=>by
 show (match Kx h 50 (OV a),Kx h 50 (OV b) with
  |some d,some e=>if d.canLay0=true/\e.canLay0=true then some (Jt.eqv d e) else none
  |_,_=>none)=_
 rw[show Kx h 50 (OV a)=some (.tuple [.int a.1,.int a.2.1,.int a.2.2]) from rfl,show Kx h 50 (OV b)=some (.tuple [.int b.1,.int b.2.1,.int b.2.2]) from rfl]
 show (if (Jt.tuple [.int a.1,.int a.2.1,.int a.2.2]).canLay0=true/\(Jt.tuple [.int b.1,.int b.2.1,.int b.2.2]).canLay0=true then some (Jt.eqv (.tuple [.int a.1,.int a.2.1,.int a.2.2]) (.tuple [.int b.1,.int b.2.1,.int b.2.2])) else none)=_
 have cl: ∀x y z:Int,(Jt.tuple [.int x,.int y,.int z]).canLay0=true:=fun x y z=>by simp [Jt.canLay0,Jt.canLayAll0]
 rw[if_pos ⟨cl ..,cl ..⟩,Jt.eqv,Jt.eqvAll,Jt.eqvAll,Jt.eqvAll,Jt.eqvAll,nR,nR,nR]
 congr 1
 rw[Fg]
 obtain⟨a1,a2,a3⟩:=a
 obtain⟨b1,b2,b3⟩:=b
 simp
theorem pE (w:Way):ixW (OV w) (.int 0)=pr (.int w.1):=ix0 ..
theorem pC (w:Way):ixW (OV w) (.int 2)=pr (.int w.2.2):=ix2 ..
structure Wy (bs:List B23)(m:Nat)(w:Way):Prop where
 mem:w∈OX (KF bs)
 a0:0<=w.1
 a1:w.1<m
 b0:0<=w.2.2
 b1:w.2.2<m
 blk: ∃b,bs[w.1.toNat]?=some b/\OF (KF bs) w.1=b.e.tab
theorem CL {bs:List B23}{N:Int}{m:Nat}{w:Way}(hN:N=(m:Int))(lb:bs.length=m)(gb: ∀b∈bs,BG N b)(h:w∈OX (KF bs)):Wy bs m w:=by
 obtain⟨e,he,w0,ht⟩:=j6 h
 obtain⟨b,hb,rfl⟩:=rG he
 have hl:=(Ev.mp hb).1
 have g:=(gb b (EO hb)).g.to _ ht
 exact⟨h,w0,by omega,g.1,by omega,b,hb,by unfold OF;rw[he]⟩
theorem Cw {bs:List B23}{m:Nat}{w:Way}{bx:W}(y:Wy bs m w):bV [pgW bx bs,OV w]=pr (.bl (Kk (KF bs) w)):=by
 have e0:bV [pgW bx bs,OV w]=bd (bS [some (pgW bx bs),some (OV w),none]) KR:=rfl
 obtain⟨b,hb,et⟩:=y.blk
 have hp:ixW (pgW bx bs) (.int 1)=pr (.tl (bs.map B23.w)):=ix1 ..
 rw[e0]
 unfold bS Kk
 rw[et]
 simp! only[aa,hp,pE,pC,pG y.a0 hb,nH,jX,kR]
 cases b.e.tab with
 |true=>
  simp!
  rfl
 |false=>
  by_cases q:w.2.2=w.1
  ·simp! only[aa,decide_eq_true q]
   rfl
  ·by_cases r:w.2.2=0
   ·simp! only[aa,decide_eq_false q,decide_eq_true r]
    rfl
   ·simp! only[aa,decide_eq_false q,decide_eq_false r]
    rfl
theorem u9 {h:List Ob}{bs:List B23}{bx:W}{cs:List Int}{w:Way}{v:Int}(hl:bs.length<=10)(hb: ∀b∈bs,b.e.tos.length<=6)(hc:(OX (KF bs)).length=cs.length)(l60:cs.length<=60):Ok (de [pgW bx bs,.tl (cs.map W.int),OV w,.int v]) h fun r h'=>r=.tl ((N7 (KF bs) cs w v).map W.int)/\Nw h h':=by
 have e0:de [pgW bx bs,.tl (cs.map W.int),OV w,.int v]=bd (dQ [some (pgW bx bs),some (.tl (cs.map W.int)),some (OV w),some (.int v)]) KR:=rfl
 have hp:ixW (pgW bx bs) (.int 1)=pr (.tl (bs.map B23.w)):=ix1 ..
 rw[e0]
 unfold dQ
 generalize pgW bx bs=P at *
 simp!
 refine nE hp (.inl rfl) hl hb fun h1 N1=>?_
 have gl: ∀ {α:Type} (q:M α),gd ((OZ ((OX (KF bs)).map OV) (cs.map W.int)).length<=sizeLine) q=q:=fun q=>ag (by rw[jO _ _ _ _ hc];exact sz (by omega))
 simp! only[aa,mP,gl]
 refine gS (I:=fun i a h'=>h'=h1/\a=((N7 (KF bs) cs w v).take i).map W.int) ⟨rfl,rfl⟩ jf (fun _ _ _ _=>⟨trivial,trivial⟩) (fun i x a h' hx I=>?_) fun a h' I=>?_
 ·obtain⟨eh,rfl⟩:=I
  subst eh
  obtain⟨u,c,hu,hcc,rfl⟩:=j4 hx
  refine⟨[some (OV u),some (.int c),none,some P,some (.tl (cs.map W.int)),some (OV w),some (.int v)],rfl,?_⟩
  have hs:(N7 (KF bs) cs w v)[i]?=some (if u=w then v else c):=by
   unfold N7 NV
   rw[Ga,hu,hcc]
  rw[aP hs]
  by_cases q:u=w
  ·simp! only[aa,xl,decide_eq_true q]
   exact ah ⟨rfl,by rw[if_pos q,Et];rfl⟩
  ·simp! only[aa,xl,decide_eq_false q]
   exact ah ⟨rfl,by rw[if_neg q,Et];rfl⟩
 ·obtain⟨eh,rfl⟩:=I
  subst eh
  rw[jO _ _ _ _ hc,<-hc,eT (w:=w) (v:=v) hc,EN]
  simp!
  exact ah ⟨rfl,N1⟩
def KB (es:List E17)(cs:List Int)(w:Way)(m:Nat):W:=if Kk es w=true then .int (OM es cs w m) else .non
theorem j9 {h:List Ob}{bs:List B23}{bx:W}{cs:List Int}{w:Way}{m:Nat}(m1:1<=m)(m2:m<=10)(lb:bs.length=m)(hb: ∀b∈bs,b.e.tos.length<=6)(hc:(OX (KF bs)).length=cs.length)(c0: ∀c∈cs,0<=c)(l60:cs.length<=60)(y:Wy bs m w):Ok (fg [pgW bx bs,.tl (cs.map W.int),OV w]) h fun r h'=>r=KB (KF bs) cs w m/\Nw h h':=by
 have e0:fg [pgW bx bs,.tl (cs.map W.int),OV w]=bd (gX [some (pgW bx bs),some (.tl (cs.map W.int)),some (OV w),none,none,none]) KR:=rfl
 have hp:ixW (pgW bx bs) (.int 1)=pr (.tl (bs.map B23.w)):=ix1 ..
 have ec:=Cw (bx:=bx) y
 have wc:=fun (h:List Ob) (v:Int)=>u9 (h:=h) (bx:=bx) (w:=w) (v:=v) (by omega) hb hc l60
 have bo:=fun (h:List Ob) (v:Int)=>tq (h:=h) (P:=pgW bx bs) (X:=.tl (bs.map B23.w)) (cs:=N7 (KF bs) cs w v) hp (.inl rfl) lb m1 m2 hb (eT hc)
 have co:=fun (h:List Ob) {os:List Int} (p:os.Perm (Kb m))=>sX (h:=h) (P:=pgW bx bs) (x:=.tl (bs.map B23.w)) (os:=os) (cs:=N7 (KF bs) cs w 0) hp (.inl rfl) (by omega) hb (eT hc) (by rw[p.length_eq,qe m1];exact m1) (by rw[p.length_eq,qe m1];omega) (p.nodup_iff.mpr (cW m))
 rw[e0]
 unfold gX KB
 generalize pgW bx bs=P at *
 cases q:Kk (KF bs) w with
 |false=>
  rw[q] at ec
  simp! only[aa,ec]
  exact ah ⟨rfl,Nw.refl h⟩
 |true=>
  rw[q] at ec
  have F:=ke m1 hc c0 y.mem y.a0 y.a1 y.b0 y.b1 q
  simp! only[aa,ec]
  refine aD (wc _ 0) fun r h1 qq_=>?_
  obtain⟨er,N1⟩:=qq_
  subst er
  simp! only[aa,gN]
  refine aD (wc _ (cs.sum+1)) fun r h2 qq_=>?_
  obtain⟨er,N2⟩:=qq_
  subst er
  simp!
  refine aD (bo _ (cs.sum+1)) fun r h3 qq_=>?_
  obtain⟨er,N3⟩:=qq_
  subst er
  simp!
  refine aD (co _ F.p1) fun r h4 qq_=>?_
  obtain⟨er,N4⟩:=qq_
  subst er
  simp!
  refine aD (bo _ 0) fun r h5 qq_=>?_
  obtain⟨er,N5⟩:=qq_
  subst er
  simp!
  refine aD (co _ F.p0) fun r h6 qq_=>?_
  obtain⟨er,N6⟩:=qq_
  subst er
  simp!
  exact ah ⟨rfl,((((N1.trans N2).trans N3).trans N4).trans N5).trans N6⟩
end
section
theorem oI (k:Int): ∀ (n:Nat) (ts:List Int),n<=ts.length->(dJ k (ts.take n)).Nodup/\ ∀w∈dJ k (ts.take n),w.1=k/\w.2.1<n
 |0,ts,_=>⟨F5,fun w hw=>absurd (show w∈([]:List Way) from hw) EF⟩
 |n+1,ts,h=>by
  obtain⟨h1,h2⟩:=oI k n ts (by omega)
  have e1:ts[n]?=some ts[n]:=EL (by omega)
  rw[aP e1,ko,jP e1]
  refine⟨Gc.mpr ⟨h1,by simp,fun a ha b hb=>?_⟩,fun w hw=>?_⟩
  ·rw[EC.mp hb]
   intro z
   have:=(h2 a ha).2
   rw[z] at this
   exact absurd (show (n:Int)<n from this) (by omega)
  ·rcases E6.mp hw with hw|hw
   ·have:=h2 w hw;exact⟨this.1,by omega⟩
   ·rw[EC.mp hw];exact⟨rfl,by show (n:Int)<((n+1:Nat):Int);omega⟩
theorem rV (es:List E17): ∀n:Nat,n<=es.length->(OX (es.take n)).Nodup/\ ∀w∈OX (es.take n),w.1<n
 |0,_=>⟨F5,fun w hw=>absurd (show w∈([]:List Way) from hw) EF⟩
 |n+1,h=>by
  obtain⟨h1,h2⟩:=rV es n (by omega)
  have e1:es[n]?=some es[n]:=EL (by omega)
  obtain⟨s1,s2⟩:=oI (n:Int) es[n].tos.length es[n].tos (Em _)
  rw[EN] at s1 s2
  rw[aP e1,ji,jP e1]
  refine⟨Gc.mpr ⟨h1,s1,fun a ha b hb=>?_⟩,fun w hw=>?_⟩
  ·intro z
   have x1:=h2 a ha
   have x2:=(s2 b hb).1
   rw[z,x2] at x1
   omega
  ·rcases E6.mp hw with hw|hw
   ·have:=h2 w hw;omega
   ·have:=(s2 w hw).1;omega
theorem ou (es:List E17):(OX es).Nodup:=by
 have:=(rV es es.length (Em _)).1
 rw[EN] at this
 exact this
theorem vG {es:List E17}{cs:List Int}{w:Way}{x:Int}{i:Nat}(hc:(OX es).length=cs.length)(hw:(OX es)[i]?=some w):N7 es cs w x=cs.set i x:=by
 have nd:=ou es
 apply GE
 intro k
 unfold N7 NV
 rw[Ga]
 have il:=(Ev.mp hw).1
 by_cases kl:k<cs.length
 ·have e1:(OX es)[k]?=some ((OX es)[k]'(by omega)):=EL _
  have e2:cs[k]?=some cs[k]:=EL kl
  rw[e1,e2]
  by_cases z:i=k
  ·subst z
   rw[e1] at hw
   cases hw
   rw[FC kl]
   simp
  ·rw[Ew z,e2]
   have: ¬(OX es)[k]'(by omega)=w:=fun q=>z (by
    have e3:(OX es)[i]'il=w:=by
     have:=EL il
     rw[hw] at this
     exact (Option.some.inj this).symm
    exact (GP nd).mp (e3.trans q.symm))
   simp [this]
 ·rw[FR (show (OX es).length<=k by omega),FR (l:=cs.set i x) (by rw[EU];omega)]
theorem xx (l:List W)(n:Nat)(h:n<=l.length):Kv l (some (n:Int)) none=l.drop n:=by
 unfold Kv
 rw[HT.sIx_nat,HT.sIx_none,GJ h]
 exact Go (by rw[Fh];exact Em _)
theorem s9 {w:Way}: ∀ {ws:List Way}{cs:List Int},ws.length=cs.length->ws.Nodup->w∈ws->Kq w ws cs=1
 |[],_,_,_,h=>absurd h EF
 |x::ws,[],h,_,_=>by cases h
 |x::ws,c::cs,h,nd,hw=>by
  obtain⟨n1,n2⟩:=E8.mp nd
  show (if x=w then 1 else 0)+Kq w ws cs=1
  have zero: ∀ (ws:List Way) (cs:List Int),w ∉ ws->Kq w ws cs=0:=by
   intro ws
   induction ws with
   |nil=>intro cs _;cases cs<;>rfl
   |cons y ws ih=>
    intro cs hn
    cases cs with
    |nil=>rfl
    |cons d cs=>
     show (if y=w then 1 else 0)+Kq w ws cs=0
     rw[if_neg (fun z=>hn (by rw[z];exact Eo)),ih cs fun z=>hn (EA _ z)];rfl
  by_cases e:x=w
  ·rw[if_pos e,zero ws cs (by rw[<-e];exact n1)];rfl
  ·have hw':w∈ws:=by
    rcases En.mp hw with hw|hw
    ·exact absurd hw.symm e
    ·exact hw
   rw[if_neg e,s9 (Fs.inj h) n2 hw'];rfl
def Gx (es:List E17)(cs:List Int)(w:Way)(x:Int):Int->Int->Int:=K3 (zsL es (N7 es cs w x))
theorem AN {es:List E17}{cs:List Int}{w:Way}(x:Int){o:List Int}(nd:o.Nodup)(hc:(OX es).length=cs.length)(hw:w∈OX es)(ht:OF es w.1=false):Ng (Gx es cs w x) o=Ng (G0 es cs w) o+(if aft o w.1=some w.2.2 then x else 0):=by
 have e1:=di nd (zsL es (N7 es cs w x))
 have e2:=di nd (zsL es (N7 es cs w 0))
 have e3:=mS es w x o (OX es) cs
 rw[s9 hc (ou es) hw,Gk] at e3
 have e4:(if aft o w.1=some w.2.2 then x else 0)=(if OF es w.1=false/\aft o w.1=some w.2.2 then x else 0):=by
  by_cases q:aft o w.1=some w.2.2
  ·rw[if_pos q,if_pos ⟨ht,q⟩]
  ·rw[if_neg q,if_neg (fun z=>q z.2)]
 unfold Gx G0
 rw[e1,e2,e4]
 exact e3
theorem vg {es:List E17}{cs:List Int}{w:Way}{m:Nat}(F:TF es cs w m):0<=OM es cs w m:=by
 rw[F.val]
 have p:=F.p1
 have:Ng (G0 es cs w) (o1 es cs w m)<=Ng (G0 es cs w) (o0 es cs w m):=F.top0 _ (FJ.cons_inv (show FJ (0::(tT (G1 es cs w) 0 (OP (m - 1))).2) (0::OP (m - 1)) from p))
 omega
theorem vh {es:List E17}{cs:List Int}{w:Way}{m:Nat}{x:Int}(m1:1<=m)(F:TF es cs w m)(hc:(OX es).length=cs.length)(hw:w∈OX es)(ht:OF es w.1=false)(x0:0<=x):
  (∃t:List Int,t.Perm (OP (m - 1))/\aft (0::t) w.1=some w.2.2/\ ∀u:List Int,u.Perm (OP (m - 1))->Ng (Gx es cs w x) (0::u)<=Ng (Gx es cs w x) (0::t))↔OM es cs w m<=x:=by
 have nd: ∀t:List Int,t.Perm (OP (m - 1))->(0::t).Nodup:=fun t p=>(p.cons 0).nodup_iff.mpr (cW m)
 have px:=fun (t:List Int) (p:t.Perm (OP (m - 1)))=>AN x (nd t p) hc hw ht
 have q1:(tT (G1 es cs w) 0 (OP (m - 1))).2.Perm (OP (m - 1)):=FJ.cons_inv F.p1
 have q0:(tT (G0 es cs w) 0 (OP (m - 1))).2.Perm (OP (m - 1)):=FJ.cons_inv F.p0
 have e1:o1 es cs w m=0::(tT (G1 es cs w) 0 (OP (m - 1))).2:=rfl
 have e0:o0 es cs w m=0::(tT (G0 es cs w) 0 (OP (m - 1))).2:=rfl
 have fv:=F.val
 have fa:=F.adj
 have t0:=F.top0
 have t1:=F.top1
 rw[e0,e1] at fv
 rw[e1] at fa t1
 rw[e0] at t0
 constructor
 ·rintro⟨t,p,et,top⟩
  refine Classical.byContradiction fun n=>?_
  have n:x<OM es cs w m:=by omega
  have y1:=px t p
  have y2:=px _ q0
  have y3:=top _ q0
  have y4:=t1 t p et
  rw[if_pos et] at y1
  by_cases c:aft (0::(tT (G0 es cs w) 0 (OP (m - 1))).2) w.1=some w.2.2
  ·have:=t1 _ q0 c;omega
  ·rw[if_neg c] at y2;omega
 ·intro hx
  refine⟨_,q1,fa,fun u p=>?_⟩
  have y1:=px u p
  have y2:=px _ q1
  rw[if_pos fa] at y2
  by_cases c:aft (0::u) w.1=some w.2.2
  ·rw[if_pos c] at y1
   have:=t1 u p c;omega
  ·rw[if_neg c] at y1
   have:=t0 u p;omega
theorem BC (ns:List Int)(hn:ns≠ []):KM Ml [.tl (ns.map W.int)]=pr (.int (Ml ns)):=by
 show (match MV iOf (ns.map W.int) with
  |some ns=>gd (ns≠ []) (pr (W.int (Ml ns)))
  |none=>no)=_
 rw[K6]
 exact ag hn
end
section
open Wd
theorem cp6:JH 10 6:=⟨by decide,by decide,by decide⟩
noncomputable def Kr (ys:List Int)(n:Nat):List Int:=(List.range n).map fun (k:Nat)=>ys.getD (k % 12) 0 / (1+((0:Int)+(k:Int)) / 12) % (([4,40,10 ^ (6:Int).toNat]:List Int).getD (ys.getD ((k+5) % 12) 0 % 3).toNat 1)
theorem pX (ys:List Int)(n:Nat):(Kr ys n).length=n:=by unfold Kr;simp
theorem wQ: ∀i,i<3->0<(([4,40,10 ^ (6:Int).toNat]:List Int).getD i 1):=by decide
theorem xz {ys:List Int}{n:Nat}: ∀c∈Kr ys n,0<=c:=fun c hc=>by
 unfold Kr at hc
 obtain⟨k,_,rfl⟩:=EB.mp hc
 have a0:=EY (ys.getD ((k+5) % 12) 0) (show (3:Int)≠0 by decide)
 have a1:=EZ (ys.getD ((k+5) % 12) 0) (show (0:Int)<3 by decide)
 exact EY _ (Int.ne_of_gt (wQ _ (by omega)))
theorem CK {ys:List Int}{k:Nat}{i:Int}(hi:i=(k:Int))(h:k<ys.length):ixW (.tl (ys.map W.int)) (.int i)=pr (.int (ys.getD k 0)):=by
 subst hi
 exact bP (aO (by omega) (by rw[ED,show ((k:Int)).toNat=k by omega,Hy,EL h];rfl))
theorem rJ (sc:List Int){A:Int}(hA:0<=A): ∃ys:List Int,ys.length=12/\ ∀ (h:List Ob) (l:List W),l.length<=1000->Ok (dB [.cl (sc.map W.int),.int A,.tl l]) h fun w h'=>w=.tl ((Kr ys l.length).map W.int)/\Fo h.length h h':=by
 obtain⟨c,ec⟩:=nU sc A hA
 refine⟨My c 12,iS c 12,fun h l hl=>?_⟩
 have yl:=iS c 12
 have no:=fun h:List Ob=>nu (h:=h) (c:=c) (N:=12) (n:=12) rfl (by decide)
 generalize My c 12=ys at *
 have e0:dB [.cl (sc.map W.int),.int A,.tl l]=bd (dz [some (.cl (sc.map W.int)),some (.int A),some (.tl l),none,none,none]) KR:=rfl
 rw[e0]
 unfold dz
 obtain⟨N,hN⟩: ∃N:Int,N=(l.length:Int):=⟨_,rfl⟩
 have eL:LP [.tl l]=pr (.int N):=by rw[lenW_tl,hN]
 have eN:N.toNat=l.length:=by omega
 obtain⟨LW,hLW⟩: ∃LW,LW=W.tl l:=⟨_,rfl⟩
 rw[<-hLW] at eL ⊢
 obtain⟨YW,hYW⟩: ∃YW,YW=W.tl (ys.map W.int):=⟨_,rfl⟩
 have ix: ∀ (k:Nat) (i:Int),i=(k:Int)->k<12->ixW YW (.int i)=pr (.int (ys.getD k 0)):=fun k i hi hk=>by rw[hYW];exact CK hi (by omega)
 simp! only[aa,ec]
 refine aD (no h) fun w h1 qq_=>?_
 obtain⟨ew,F1⟩:=qq_
 rw[<-hYW] at ew
 rw[ew]
 simp!
 refine iq ?_
 simp! only[aa,eL,gz (show (-(2 ^ 62):Int)<=N by omega) (show N<2 ^ 62 by omega)]
 refine cP (I:=fun i ρ h'=> ∃a,ρ=[some (.cl (sc.map W.int)),some (.int A),some LW,some YW,some (.loc h1.length),a]/\h'.length=h1.length+1/\(∀j,j<h1.length->h'[j]?=h1[j]?)/\h'[h1.length]?=some (.lst ((Kr ys i).map W.int))) ⟨_,rfl,by simp,fun j hj=>ET hj,fJ⟩ (fun _ _ _ _=>trivial) (fun i w ρ h2 hw I=>?_) fun ρ h2 I=>?_
 ·obtain⟨a,rfl,l1,q1,q2⟩:=I
  obtain⟨rfl,hi⟩:=cG _ _ _ _ hw
  rw[eN] at hi
  have a0:=EY (ys.getD ((i+5) % 12) 0) (show (3:Int)≠0 by decide)
  have a1:=EZ (ys.getD ((i+5) % 12) 0) (show (0:Int)<3 by decide)
  have i1:=ix (i % 12) ((0+(i:Int)) % 12) (by omega) (by omega)
  have i2:=ix ((i+5) % 12) ((0+(i:Int)+5) % 12) (by omega) (by omega)
  have er:Kr ys (i+1)=Kr ys i++[ys.getD (i % 12) 0 / (1+((0:Int)+(i:Int)) / 12) % (([4,40,10 ^ (6:Int).toNat]:List Int).getD (ys.getD ((i+5) % 12) 0 % 3).toNat 1)]:=by
   unfold Kr
   rw[FQ,Et];rfl
  have mp:=wQ (ys.getD ((i+5) % 12) 0 % 3).toNat (by omega)
  have i3:ixW (.tl [.int 4,.int 40,.int (10 ^ (6:Int).toNat)]) (.int (ys.getD ((i+5) % 12) 0 % 3))=pr (.int (([4,40,10 ^ (6:Int).toNat]:List Int).getD (ys.getD ((i+5) % 12) 0 % 3).toNat 1)):=bP (gG W.int [4,40,10 ^ (6:Int).toNat] 1 a0 a1)
  generalize (([4,40,10 ^ (6:Int).toNat]:List Int).getD (ys.getD ((i+5) % 12) 0 % 3).toNat 1)=mm at *
  generalize ys.getD (i % 12) 0=u at *
  generalize ys.getD ((i+5) % 12) 0=v at *
  refine⟨_,rfl,?_⟩
  simp!
  refine cO q2 ?_
  simp! only[aa,ak (show (0:Int)<12 by decide),i1,i2,bX (show (0:Int)<12 by decide) (by decide),kE cp6,ak (show (0:Int)<3 by decide),i3,bX (show 0<1+((0:Int)+(i:Int)) / 12 by omega) (Int.lt_of_le_of_lt (show 1+((0:Int)+(i:Int)) / 12<=1001 by omega) (by decide)),ak mp]
  refine eS q2 (by rw[El,pX];exact E1 (show _<=1000 by omega) (by decide)) ?_
  simp!
  refine ah ⟨_,rfl,_,rfl,by rw[EU];exact l1,fun j hj=>by rw[Ew (by omega)];exact q1 j hj,?_⟩
  rw[cY q2,er,Et];rfl
 ·obtain⟨a,rfl,l1,q1,q2⟩:=I
  rw[cF,eN] at q2
  simp!
  refine jv q2 ?_
  simp!
  have:=F1.le
  exact ah ⟨rfl,fun i hi=>by rw[Ew (by omega),q1 i (by omega)];exact F1.eq i hi,by rw[EU,l1];omega⟩
theorem DH (e:E17):inW (.str e.kind) (.tl [.str "go",.str "if"])=pr (.bl (decide (e.kind∈(["go", "if"]:List Str)))):=sM (ss:=["go", "if"])
theorem LC:("go":Str)∈(["go", "if"]:List Str)/\("if":Str)∈(["go", "if"]:List Str)/\("table":Str) ∉ (["go", "if"]:List Str)/\("stop":Str) ∉ (["go", "if"]:List Str):=by decide+kernel
theorem zv (e:E17)(h:e.tos≠ []):decide (e.kind∈(["go", "if"]:List Str))=!e.tab:=by
 cases e with
 |go _=>exact decide_eq_true LC.1
 |iff _ _ _ _ _=>exact decide_eq_true LC.2.1
 |table _ _=>exact decide_eq_false LC.2.2.1
 |stop=>exact absurd rfl h
structure GL (ks:List (List Key))(ws:List W)(G:Int->Int->Int):Prop where
 len:ks.length=ws.length
 get: ∀a b,a≠b->(atK ks ws [.inl a,.inl b]).getD (.int 0)=.int (G a b)
theorem uC {h:List Ob}{P x:W}{bs:List B23}{cs:List Int}(hp:ixW P (.int 1)=pr x)(hx:Lw h x (bs.map B23.w))(hl:bs.length<=10)(hb: ∀b∈bs,b.e.tos.length<=6)(hc:(OX (KF bs)).length=cs.length):
  Ok (cX [P,.tl (cs.map W.int)]) h fun w h'=> ∃j ks ws,w=.loc j/\Nd h h' j (.dit ks ws)/\GL ks ws (K3 (zsL (KF bs) cs)):=by
 have e0:cX [P,.tl (cs.map W.int)]=bd (eG [some (P),some (.tl (cs.map W.int)),none,none,none]) KR:=rfl
 rw[e0]
 unfold eG
 have lc:cs.length<=60:=by
  have h6: ∀e∈KF bs,e.tos.length<=6:=fun e he=>by
   obtain⟨b,hb',rfl⟩:=EB.mp he
   exact hb b hb'
  have l2:(KF bs).length=bs.length:=by unfold KF;rw[El]
  have:=gu (KF bs) h6 (KF bs).length (Em _)
  rw[EN] at this
  omega
 simp!
 refine o5 ?_
 simp!
 refine nE hp (hx.keep (Nf.mk0 (h:=h) (b:=.dit [] [])).nw.eq) hl hb fun h1 N1=>?_
 have D1:=(Nd.mk0 (h:=h) (b:=.dit [] [])).more N1
 simp! only[aa,mP]
 refine cP (I:=fun i ρ h'=> ∃a b ks ws,ρ=[some P,some (.tl (cs.map W.int)),some (.loc h.length),a,b]/\Nd h h' h.length (.dit ks ws)/\GL ks ws (K3 ((zsL (KF bs) cs).take i))/\ks.length<=i) ⟨_,_,[],[],rfl,D1,⟨rfl,fun a b _=>rfl⟩,Em _⟩ (fun _ _ _ _=>⟨trivial,trivial⟩) (fun i y ρ h2 hy I=>?_) fun ρ h2 I=>?_
 ·obtain⟨a,b,ks,ws,rfl,D,G,lk⟩:=I
  obtain⟨w,n,hw,hn,rfl⟩:=j4 hy
  have hi:i<cs.length:=(Ev.mp hn).1
  obtain⟨e,he,w0,wm⟩:=j6 (EO hw)
  have hz:=u4 hw hn
  have ht:OF (KF bs) w.1=e.tab:=by unfold OF;rw[he]
  rw[ht] at hz
  have kg:=zv e (fun z=>by rw[z] at wm;exact absurd wm EF)
  obtain⟨b',hb',rfl⟩:=rG he
  obtain⟨wa,wn,wt⟩:=w
  refine⟨[some P,some (.tl (cs.map W.int)),some (.loc h.length),some (OV (wa,wn,wt)),some (.int n)],rfl,?_⟩
  unfold OV
  have w0:0<=wa:=w0
  have hb':bs[wa.toNat]?=some b':=hb'
  simp! only[aa,hp,ix0,ix2]
  refine (hx.keep D.nw.eq).ix (w:=b'.w) (aO w0 (by rw[ED,hb'];rfl)) ?_
  simp! only[aa,nH,ix2,jX,DH,kg]
  rw[aP hz]
  cases et:b'.e.tab with
  |true=>
   simp!
   refine ah ⟨_,rfl,_,_,ks,ws,rfl,D,⟨G.len,fun a b n=>?_⟩,Gb lk⟩
   rw[G.get a b n,eZ,if_neg (by simp),FS]
  |false=>
   by_cases ee:wa=wt
   ·simp! only[aa,ix0,ix2,decide_eq_true ee]
    refine ah ⟨_,rfl,_,_,ks,ws,rfl,D,⟨G.len,fun a b n=>?_⟩,Gb lk⟩
    rw[G.get a b n,eZ,if_neg (fun z=>n (z.2.1.symm.trans (ee.trans z.2.2))),FS]
   ·simp! only[aa,ix0,ix2,decide_eq_false ee,mKt,kt2,L1]
    refine iR D.new ?_
    simp! only[aa,ix0,ix2,kt2]
    refine bg (i5 D.new rfl) ?_
    rw[G.get wa wt ee]
    simp! only[aa,ix0,ix2,kt2]
    rcases ep:Nl ks ws [.inl wa,.inl wt] (.int (K3 ((zsL (KF bs) cs).take i) wa wt+n)) with⟨ks',ws'⟩
    obtain⟨l1,l2,g⟩:=oj G.len ep
    refine we D.new (E1 (show _<=60 by omega) (by decide)) ep ?_
    simp!
    refine ah ⟨_,rfl,_,_,ks',ws',rfl,D.put _,⟨l1,fun a b nab=>?_⟩,by omega⟩
    rw[g,eZ]
    by_cases q:wa=a/\wt=b
    ·rw[if_pos (by rw[q.1,q.2]),if_pos ⟨rfl,q⟩,q.1,q.2];rfl
    ·rw[if_neg (fun z=>q ⟨by injection z with z1 z2;exact Sum.inl.inj z1,by injection z with z1 z2;injection z2 with z3 z4;exact Sum.inl.inj z3⟩),if_neg (fun z=>q z.2),FS]
     exact G.get a b nab
 ·obtain⟨a,b,ks,ws,rfl,D,G,lk⟩:=I
  rw[jO _ _ _ _ hc,<-u3 hc,EN] at G
  simp!
  exact ah ⟨_,ks,ws,rfl,D,G⟩
theorem l6 (G:Int->Int->Int): ∀ (l:List Int) (a b:Int),Ng G (l++[a,b])=Ng G (l++[a])+G a b
 |[],a,b=>by show G a b+0=0+G a b;omega
 |[x],a,b=>by show G x a+(G a b+0)=(G x a+0)+G a b;omega
 |x::y::l,a,b=>by
  have:=l6 G (y::l) a b
  show G x y+Ng G (y::l++[a,b])=(G x y+Ng G (y::l++[a]))+G a b
  omega
theorem vm {o:List Int}{i:Nat}{a b:Int}(ha:o[i]?=some a)(hb:o[i+1]?=some b): ∃l,o.take (i+1)=l++[a]/\o.take (i+1+1)=l++[a,b]:=by
 refine⟨o.take i,by rw[Ft,ha];rfl,?_⟩
 rw[Ft,hb,Ft,ha,EQ];rfl
theorem wU {h:List Ob}{j:Nat}{ks:List (List Key)}{ws:List W}{G:Int->Int->Int}{cs o:List Int}(e:h[j]?=some (.dit ks ws))(g:GL ks ws G)(nd:o.Nodup)(l1:1<=o.length)(l2:o.length<=100):
  Ok (cJ [.tl (cs.map W.int),.loc j,.tup (o.map W.int)]) h fun w h'=>w=.int (cs.sum - Ng G o)/\h'=h:=by
 have e0:cJ [.tl (cs.map W.int),.loc j,.tup (o.map W.int)]=bd (fX [some (.tl (cs.map W.int)),some (.loc j),some (.tup (o.map W.int)),none,none]) KR:=rfl
 rw[e0]
 unfold fX
 obtain⟨N,hN⟩: ∃N:Int,N=(o.length:Int):=⟨_,rfl⟩
 have eL:LP [.tup (o.map W.int)]=pr (.int N):=by rw[lenW_tup,El,hN]
 have eN:(N - 1).toNat=o.length - 1:=by omega
 have ix: ∀ (k:Nat) (i x:Int),i=(k:Int)->o[k]?=some x->ixW (.tup (o.map W.int)) (.int i)=pr (.int x):=fun k i x hi hx=>by
  subst hi
  exact fH (aO (by omega) (by rw[ED,show ((k:Int)).toNat=k by omega,hx];rfl))
 have sm:=gN cs
 generalize W.tup (o.map W.int)=OW at *
 simp! only[aa,eL,kB (show (-(2 ^ 62):Int)<=1 by decide) (show (1:Int)<2 ^ 62 by decide) (show (-(2 ^ 62):Int)<=N by omega) (show N<2 ^ 62 by omega)]
 refine cP (I:=fun i ρ h'=>h'=h/\ ∃s a,ρ=[some (.tl (cs.map W.int)),some (.loc j),some OW,some (.int s),a]/\s=Ng G (o.take (i+1))) ⟨rfl,_,_,rfl,?_⟩ (fun _ _ _ _=>trivial) (fun i w ρ h1 hw I=>?_) fun ρ h1 I=>?_
 ·cases o with
  |nil=>rfl
  |cons a l=>rfl
 ·obtain⟨rfl,s,a,rfl,es⟩:=I
  obtain⟨rfl,hi⟩:=cG _ _ _ _ hw
  rw[eN] at hi
  obtain⟨x,hx⟩: ∃x,o[i]?=some x:=⟨_,EL (by omega)⟩
  obtain⟨y,hy⟩: ∃y,o[i+1]?=some y:=⟨_,EL (by omega)⟩
  have i1:=ix i (1+(i:Int) - 1) x (by omega) hx
  have i2:=ix (i+1) (1+(i:Int)) y (by omega) hy
  have ne:x≠y:=fun z=>by
   have a1:=Ev.mp hx
   have a2:=Ev.mp hy
   obtain⟨q1,r1⟩:=a1
   obtain⟨q2,r2⟩:=a2
   have:=(GP (i:=i) (j:=i+1) (h₀:=q1) (h₁:=q2) nd).mp (by rw[r1,r2];exact z)
   omega
  obtain⟨l,t1,t2⟩:=vm hx hy
  refine⟨_,rfl,?_⟩
  simp! only[aa,L1]
  refine iR e ?_
  simp! only[aa,i1,i2]
  refine bg (i5 (q:=[.inl x,.inl y]) e rfl) ?_
  rw[g.get x y ne]
  simp!
  refine ah ⟨_,rfl,rfl,_,_,rfl,?_⟩
  rw[es,t2,t1,l6]
 ·obtain⟨rfl,s,a,rfl,es⟩:=I
  rw[cF,eN,show o.length - 1+1=o.length by omega,EN] at es
  simp! only[aa,sm]
  rw[es]
  exact ah ⟨rfl,rfl⟩
end
section
theorem zD {m:Nat}(h:1<=m):ia m=0::OP (m - 1):=by
 obtain⟨n,rfl⟩: ∃n,m=n+1:=⟨m - 1,by omega⟩
 unfold ia OP
 rw[HS,Er,E2]
 congr 1
 apply FH
 intro k _
 show ((k+1:Nat):Int)=1+(k:Int)
 omega
theorem qV {m:Nat}(h:1<=m){r:List Int}:(OP (m - 1)).filter (fun x=>!decide (x∈(0::r:List Int)))=MW m (0::r):=by
 unfold MW
 rw[zD h,Hz (by simp)]
theorem ug {h:List Ob}{N:Int}{m:Nat}(hN:N=(m:Int))(m1:1<=m)(m2:m<=6):Ok (dW [.int N]) h fun w h'=>w=.tl ((itr m (m - 1) [[0]]).map NY)/\h'=h:=by
 have e0:dW [.int N]=bd (dR [some (.int N),none,none,none,none]) KR:=rfl
 rw[e0]
 unfold dR
 have eN:(N - 1).toNat=m - 1:=by omega
 have r2:=kB (show (-(2 ^ 62):Int)<=1 by decide) (show (1:Int)<2 ^ 62 by decide) (show (-(2 ^ 62):Int)<=N by omega) (show N<2 ^ 62 by omega)
 simp! only[aa,OL,r2]
 refine cP (I:=fun i ρ h'=> ∃a b c,ρ=[some (.int N),some (.tl ((itr m i [[0]]).map NY)),a,b,c]/\h'=h) ⟨_,_,_,rfl,rfl⟩ (fun _ _ _ _=>trivial) (fun i w ρ h1 hw I=>?_) fun ρ h1 I=>?_
 ·obtain⟨a,b,c,rfl,eh⟩:=I
  subst eh
  obtain⟨rfl,hi⟩:=cG _ _ _ _ hw
  rw[eN] at hi
  refine⟨_,rfl,?_⟩
  have bl:(itr m i [[0]]).length<=1296:=EG (nI m2 i) (GN (by decide) (show i<=4 by omega))
  simp! only[aa,gP]
  refine cP (I:=fun k ρ h'=> ∃c,ρ=[some (.int N),some (.tl ((itr m i [[0]]).map NY)),some (.int (1+(i:Int))),some (.tl ((((itr m i [[0]]).take k).flatMap (KO m)).map NY)),c]/\h'=h1) ⟨_,rfl,rfl⟩ (fun _ _ _ _=>trivial) (fun k w ρ h2 hw I=>?_) fun ρ h2 I=>?_
  ·obtain⟨c,rfl,eh⟩:=I
   subst eh
   rw[ED] at hw
   obtain⟨s,hs,rfl⟩:=EH.mp hw
   obtain⟨r,rfl,lr⟩:=mj m i s (EO hs)
   have hk:=(Ev.mp hs).1
   refine⟨[some (.int N),some (.tl ((itr m i [[0]]).map NY)),some (.int (1+(i:Int))),some (.tl ((((itr m i [[0]]).take k).flatMap (KO m)).map NY)),some (NY (0::r))],rfl,?_⟩
   have gl: ∀ {α:Type} (q:M α),gd (((OP (m - 1)).map W.int).length<=sizeLine) q=q:=fun q=>ag (by rw[El,cQ];exact sz (by omega))
   simp! only[aa,r2,eN,kW,gl]
   refine o6 (I:=fun n a h'=>h'=h2/\a=(((((OP (m - 1)).take n).filter fun x=>!decide (x∈(0::r:List Int))).map fun x=>(0::r)++[x])).map NY) ⟨rfl,rfl⟩ (fun _ _ _ _=>trivial) (fun n w a h' hw I=>?_) fun a h' I=>?_
   ·obtain⟨eh,rfl⟩:=I
    subst eh
    rw[ED] at hw
    obtain⟨y,hy,rfl⟩:=EH.mp hw
    refine⟨_,rfl,?_⟩
    have ea:Ka (NY (0::r)) (.tup [.int y])=pr (NY (0::r++[y])):=by
     show Ka (.tup (.int 0::r.map W.int)) (.tup [.int y])=_
     rw[addT _ _ _ (by rw[El];show r.length+1<=100;omega)]
     unfold NY
     rw[Et,Er];rfl
    have en:cx (.int y) (NY (0::r))=pr (.bl (!decide (y∈(0::r:List Int)))):=kL y (0::r)
    simp! only[List.replicate,E9,Fd,aa,en]
    rw[aP hy,HR]
    by_cases z:y∈(0::r:List Int)
    ·refine ah (.inl ⟨by simp only[decide_eq_true z,Fj],rfl,?_⟩)
     rw[show ([y].filter fun x=>!decide (x∈(0::r:List Int)))=[] by rw[Gf,List.filter_nil,decide_eq_true z];rfl,EX]
    ·refine ah (.inr ⟨by simp only[decide_eq_false z,Bool.not_false],?_⟩)
     simp! only[aa,OL]
     rw[ea]
     refine ah ⟨rfl,?_⟩
     rw[show ([y].filter fun x=>!decide (x∈(0::r:List Int)))=[y] by rw[Gf,List.filter_nil,decide_eq_false z];rfl,Et,Et]
     rfl
   ·obtain⟨eh,rfl⟩:=I
    subst eh
    rw[El,EN]
    have ee:(((OP (m - 1)).filter fun x=>!decide (x∈(0::r:List Int))).map fun x=>(0::r)++[x])=KO m (0::r):=by rw[qV m1];rfl
    rw[ee]
    have l1:=nO (c:=6) ((itr m i [[0]]).take k) fun x _=>EG (lh m x) m2
    rw[E5] at l1
    have l2:=lh m (0::r)
    simp! only[aa,f9 _ _ (show ((((itr m i [[0]]).take k).flatMap (KO m)).map NY).length+((KO m (0::r)).map NY).length<=sizeLine by rw[El,El];exact sz (by omega))]
    refine ah ⟨_,rfl,some (NY (0::r)),?_,rfl⟩
    rw[aP hs,GM,Et,show [(0::r:List Int)].flatMap (KO m)=KO m (0::r) by simp]
  ·obtain⟨c,rfl,eh⟩:=I
   subst eh
   rw[El,EN,<-iZ]
   simp!
   exact ah ⟨_,rfl,_,_,_,rfl,rfl⟩
 ·obtain⟨a,b,c,rfl,eh⟩:=I
  subst eh
  rw[cF,eN]
  simp!
  exact ah ⟨rfl,rfl⟩
end
section
open Wd
theorem mr: ∀a b:List Int,Jt.eqvAll (a.map Jt.int) (b.map Jt.int)=decide (a=b)
 |[],[]=>by rw[EV,Jt.eqvAll];rfl
 |[],_::_=>by rw[EV,Er,Jt.eqvAll];rfl
 |_::_,[]=>by rw[EV,Er,Jt.eqvAll];rfl
 |x::a,y::b=>by
  rw[Er,Er,Jt.eqvAll,mr a b,Jt.eqv]
  by_cases e:x=y
  ·subst e
   by_cases f:a=b
   ·subst f;simp
   ·simp [f]
  ·simp [e]
theorem eqT (a b:List Int):eqW (.tup (a.map W.int)) (.tup (b.map W.int))=pr (.bl (decide (a=b))):=xm fun h=>by
 have o: ∀l:List Int,MV (Kx h 49) (l.map W.int)=some (l.map Jt.int):=fun l=>gR (f:=Kx h 49) (g:=W.int) (k:=Jt.int) (fun a=>rfl) l
 have ca: ∀l:List Int,Jt.canLayAll0 (l.map Jt.int)=true:=fun l=>xC l fun z hz=>by rw[Jt.canLay0]
 rw[xo (o a) (o b) (ca a) (ca b),mr]
theorem qf: ∀ (l:List Int) (j:Nat) (a:Int),l.Nodup->l[j]?=some a->l[j+1]?=none->aft l a=none
 |[],j,a,_,h,_=>rfl
 |[x],j,a,_,h,_=>rfl
 |x::y::r,0,a,_,h,h2=>by simp at h2
 |x::y::r,j+1,a,nd,h,h2=>by
  obtain⟨h1,h3⟩:=E8.mp nd
  rw[FG] at h h2
  unfold aft
  rw[if_neg (fun z=>h1 (by rw[z];exact EO h))]
  exact qf (y::r) j a h3 h h2
theorem zX {o:List Int}{j:Nat}{a b:Int}(nd:o.Nodup)(h:o[j]?=some a):(o.drop (j+1)).take 1=[b]↔aft o a=some b:=by
 cases e:o[j+1]? with
 |none=>
  rw[qf o j a nd h e,GF (List.getElem?_eq_none_iff.mp e)]
  simp
 |some c=>
  have hl:=(Ev.mp e).1
  rw[xT o j a c nd h (by rw[List.getElem?_tail];exact e),F8 hl]
  have:o[j+1]=c:=(Ev.mp e).2
  rw[this]
  simp
theorem xZ {o:List Int}{a:Int}(h:a∈o): ∃j:Nat,o[j]?=some a/\OJ (.tup (o.map W.int)) [.int a]=pr (.int (j:Int)):=by
 cases e:o.findIdx? (fun x=>decide (x=a)) with
 |none=>
  rw[HJ] at e
  have:=e a h
  simp at this
 |some j=>
  refine⟨j,?_,?_⟩
  ·rw[GD] at e
   obtain⟨h1,h2,_⟩:=e
   rw[EL h1]
   exact congrArg some (of_decide_eq_true h2)
  ·show (match MV iOf (o.map W.int) with
    |some ns=>match ns.findIdx? (fun x=>decide (x=a)) with
     |some j=>pr (W.int (j:Int))
     |none=>no
    |none=>no)=_
   rw[K6]
   simp only[e]
theorem yh {l:List W}{j:Nat}(h:j<l.length):slW (.tup l) (some ((j:Int)+1)) (some ((j:Int)+2))=pr (.tup ((l.drop (j+1)).take 1)):=by
 have s1: ∀d,HT.sIx l.length d (some ((j:Int)+1))=min (j+1) l.length:=fun d=>by rw[show ((j:Int)+1)=((j+1:Nat):Int) by omega];exact HT.sIx_nat ..
 have s2: ∀d,HT.sIx l.length d (some ((j:Int)+2))=min (j+2) l.length:=fun d=>by rw[show ((j:Int)+2)=((j+2:Nat):Int) by omega];exact HT.sIx_nat ..
 show gd (¬(HT.sIx l.length 0 (some ((j:Int)+1))=0/\HT.sIx l.length l.length (some ((j:Int)+2))=l.length)) (pr (W.tup (Kv l (some ((j:Int)+1)) (some ((j:Int)+2)))))=_
 rw[ag (by rw[s1];omega)]
 unfold Kv
 rw[s1,s2,GJ (show j+1<=l.length by omega)]
 by_cases e:j+2<=l.length
 ·rw[GJ e,show j+2 - (j+1)=1 by omega]
 ·rw[Nat.min_eq_right (by omega),show l.length - (j+1)=0 by omega,GF (show l.length<=j+1 by omega)];rfl
def b23 (ns:List Str)(b:Bt):B23:=⟨b.nm,b.ss.map Rr.form,b.e.en ns⟩
theorem yi {z:Str}(h:aK z=true):Jt.strOk z=true:=by
 unfold aK at h
 simp only[ES,Fk] at h
 unfold Jt.strOk
 rw[Array.all_eq_true_iff_forall_mem]
 intro c hc
 have:=Lj.mp (h.2.1 c (by simpa using hc))
 exact decide_eq_true (by omega)
theorem DY {most:Nat}{bx:List (Str×Str)}{bl:List Bt}{N:Int}(hN:N=(bl.length:Int))(G:TxG most bx bl): ∀b∈bl.map (b23 (bl.map Bt.nm)),BG N b:=fun b hb=>by
 obtain⟨c,hc,rfl⟩:=EB.mp hb
 have g:=(G.b c hc).g
 have d:=(G.b c hc).d
 refine BG.mk' (zK (by rw[El];exact hN) g.e.1 g.e.2.1 g.e.2.2.1 d.2 g.e.2.2.2) (yi g.nm) (by rw[El];exact g.l) fun x hx=>?_
 obtain⟨r,hr,rfl⟩:=EB.mp hx
 obtain⟨r1,r2,r3⟩:=g.s r hr
 obtain⟨_,_,_,_,p⟩:=AB r1 r2 r3 (d.1 r hr)
 exact p
def bD:JR->M Fl:=(sIf (mB (m2 eqW (LY (arW 3 cJ) (L0 (Me 1) (L0 (Me 4) (L0 (Me 7) L7)))) (Me 5))) (NJ (NK 8 (L5 Lm OJ (Me 7) (L0 (m2 ixW (Me 3) (mC (.int 0))) L7))) (sIf (mB (m2 eqW (m3 slW (Me 7) (L9 (m2 Ka (Me 8) (mC (.int 1)))) (L9 (m2 Ka (Me 8) (mC (.int 2))))) (Md (L0 (m2 ixW (Me 3) (mC (.int 2))) L7)))) (NH (mC (.bl true))) NG)) NG)
theorem ju:dS=(NJ (NK 4 (LY (arW 2 cX) (L0 (Me 0) (L0 (Me 1) L7)))) (NJ (NK 5 (LY (KM Ml) (L0 (mTl (LZ [] (Mb (Me 2) On) (tgN 0) Mh (LY (arW 3 cJ) (L0 (Me 3) (L0 (Me 6) (L0 (Me 0) L7)))) 2)) L7))) (NJ (NK 6 (LY (arW 2 gJ) (L0 (Me 0) (L0 (Me 1) L7)))) (NJ (sIf (mB (m2 neW (LY (arW 3 iA) (L0 (Me 0) (L0 (Me 6) (L0 (Me 1) L7)))) (Me 5))) (NH (mC .non)) NG) (NJ (NF (Mb (Me 2) On) (tgN 7) bD) (NH (mC (.bl false)))))))):=rfl
theorem u0 {h:List Ob}{bx:W}{bs:List B23}{cs:List Int}{w:Way}{m:Nat}{x:Int}(m1:1<=m)(m2:m<=6)(lb:bs.length=m)(hb: ∀b∈bs,b.e.tos.length<=6)(hc:(OX (KF bs)).length=cs.length)(F:TF (KF bs) cs w m)(y:Wy bs m w)(ht:OF (KF bs) w.1=false)(x0:0<=x):
  Ok (cL [pgW bx bs,.tl ((N7 (KF bs) cs w x).map W.int),.tl ((itr m (m - 1) [[0]]).map NY),OV w]) h fun r h'=>r=.bl (decide (OM (KF bs) cs w m<=x))/\Nw h h':=by
 have e0:cL [pgW bx bs,.tl ((N7 (KF bs) cs w x).map W.int),.tl ((itr m (m - 1) [[0]]).map NY),OV w]=bd (dS [some (pgW bx bs),some (.tl ((N7 (KF bs) cs w x).map W.int)),some (.tl ((itr m (m - 1) [[0]]).map NY)),some (OV w),none,none,none,none,none]) KR:=rfl
 have hp:ixW (pgW bx bs) (.int 1)=pr (.tl (bs.map B23.w)):=ix1 ..
 have un:(OP (m - 1)).Nodup:=(E8.mp (cW m)).2
 have eo:itr m (m - 1) [[0]]=(prm (m - 1) (OP (m - 1))).map (0:: ·):=by
  rw[sI m (m - 1) [0] (by rw[kI m1,cQ]),kI m1];rfl
 have nd: ∀t:List Int,t.Perm (OP (m - 1))->(0::t).Nodup:=fun t p=>(p.cons 0).nodup_iff.mpr (cW m)
 have om: ∀o∈itr m (m - 1) [[0]],∃t,o=0::t/\t.Perm (OP (m - 1)):=fun o ho=>by
  rw[eo] at ho
  obtain⟨t,ht,rfl⟩:=EB.mp ho
  exact⟨t,rfl,kD un (cQ _) ht⟩
 have mo: ∀t:List Int,t.Perm (OP (m - 1))->0::t∈itr m (m - 1) [[0]]:=fun t p=>by
  rw[eo]
  exact EB.mpr ⟨t,ng un (cQ _) p,rfl⟩
 have hcx:=eT (es:=KF bs) (cs:=cs) (w:=w) (v:=x) hc
 have co:=fun (h:List Ob) {t:List Int} (p:t.Perm (OP (m - 1)))=>sX (h:=h) (P:=pgW bx bs) (x:=.tl (bs.map B23.w)) (os:=0::t) (cs:=N7 (KF bs) cs w x) hp (.inl rfl) (by omega) hb hcx (by rw[Es];omega) (by rw[Es,p.length_eq,cQ];omega) (nd t p)
 have bo: ∀h:List Ob,Ok (gJ [pgW bx bs,.tl ((N7 (KF bs) cs w x).map W.int)]) h fun w' h'=>w'=.tup ((0::(tT (Gx (KF bs) cs w x) 0 (OP (m - 1))).2).map W.int)/\Nw h h':=fun h=>tq (h:=h) (P:=pgW bx bs) (X:=.tl (bs.map B23.w)) (cs:=N7 (KF bs) cs w x) hp (.inl rfl) lb m1 (by omega) hb hcx
 have lg: ∀h:List Ob,Ok (cX [pgW bx bs,.tl ((N7 (KF bs) cs w x).map W.int)]) h fun w' h'=> ∃j ks ws,w'=.loc j/\Nd h h' j (.dit ks ws)/\GL ks ws (Gx (KF bs) cs w x):=fun h=>uC (h:=h) (P:=pgW bx bs) (x:=.tl (bs.map B23.w)) (cs:=N7 (KF bs) cs w x) hp (.inl rfl) (by omega) hb hcx
 have bp:=mK (Gx (KF bs) cs w x) (last:=0) un
 have bt:=fun{t:List Int} (p:t.Perm (OP (m - 1)))=>qw (Gx (KF bs) cs w x) (last:=0) un p
 have pe: ∀ {t:List Int},t.Perm (OP (m - 1))->(N7 (KF bs) cs w x).sum - Ng (Gx (KF bs) cs w x) (0::t)=MY (0::t) (zsL (KF bs) (N7 (KF bs) cs w x)):=fun{t} p=>jU (nd t p) hcx
 have ti:=vh m1 F hc y.mem ht x0
 have ol:(itr m (m - 1) [[0]]).length<=7776:=EG (nI m2 (m - 1)) (GN (by decide) (show m - 1<=5 by omega))
 have one:itr m (m - 1) [[0]]≠ []:=fun z=>by have:=mo _ bp;rw[z] at this;exact absurd this EF
 rw[e0,ju]
 generalize Gx (KF bs) cs w x=G at *
 generalize zsL (KF bs) (N7 (KF bs) cs w x)=Z at *
 have lc:=fun (h:List Ob) (j:Nat) (ks:List (List Key)) (ws:List W) (e:h[j]?=some (.dit ks ws)) (g:GL ks ws G) {t:List Int} (p:t.Perm (OP (m - 1)))=>wU (cs:=N7 (KF bs) cs w x) e g (nd t p) (by rw[Es];omega) (by rw[Es,p.length_eq,cQ];omega)
 generalize (N7 (KF bs) cs w x).sum=S at *
 generalize N7 (KF bs) cs w x=D at *
 generalize OM (KF bs) cs w m=T at *
 have gl: ∀ {α:Type} (q:M α),gd (((itr m (m - 1) [[0]]).map NY).length<=sizeLine) q=q:=fun q=>ag (by rw[El];exact sz (by omega))
 generalize itr m (m - 1) [[0]]=O at *
 generalize pgW bx bs=PW at *
 simp!
 refine aD (lg h) fun r h1 qq_=>?_
 obtain⟨j,ks,ws,er,N1,GG⟩:=qq_
 subst er
 simp! only[aa,gP,gl]
 refine gS (I:=fun i a h'=>h'=h1/\a=((O.take i).map fun o=>S - Ng G o).map W.int) ⟨rfl,rfl⟩ jf (fun _ _ _ _=>trivial) (fun i v a h' hv I=>?_) fun a h2 I=>?_
 ·obtain⟨rfl,rfl⟩:=I
  rw[ED] at hv
  obtain⟨o,ho,rfl⟩:=EH.mp hv
  obtain⟨t,rfl,p⟩:=om o (EO ho)
  refine⟨_,rfl,?_⟩
  unfold NY
  simp! only[List.replicate,E9,Fd,aa]
  refine Ok.imp (lc h' j ks ws N1.new GG p) fun r h3 qz=>?_
  obtain⟨er,eh⟩:=qz
  refine⟨eh,?_⟩
  rw[er,aP ho,Et,Et]
  rfl
 ·obtain⟨rfl,rfl⟩:=I
  rw[El,EN]
  have cn:(O.map fun o=>S - Ng G o)≠ []:=fun z=>one (HK.mp z)
  obtain⟨k1,k2⟩:=kO cn
  have mn:=BC _ cn
  have pb:MY (0::(tT G 0 (OP (m - 1))).2) Z=Ml (O.map fun o=>S - Ng G o):=by
   have y1:=k2 _ (EB.mpr ⟨_,mo _ bp,rfl⟩)
   obtain⟨o,ho,eo'⟩:=EB.mp k1
   obtain⟨t,rfl,p⟩:=om o ho
   have y2:=bt p
   have y4:=pe bp
   have eo':S - Ng G (0::t)=Ml (O.map fun o=>S - Ng G o):=eo'
   have y1:Ml (O.map fun o=>S - Ng G o)<=S - Ng G (0::(tT G 0 (OP (m - 1))).2):=y1
   omega
  have opt: ∀t:List Int,t.Perm (OP (m - 1))->(S - Ng G (0::t)=Ml (O.map fun o=>S - Ng G o)↔ ∀u:List Int,u.Perm (OP (m - 1))->Ng G (0::u)<=Ng G (0::t)):=fun t p=>by
   have y4:=pe bp
   constructor
   ·intro z u pu
    have:=bt pu
    omega
   ·intro z
    have:=z _ bp
    have:=bt p
    omega
  generalize hmn:Ml (O.map fun o=>S - Ng G o)=mm at *
  simp! only[aa,mn]
  refine aD (bo _) fun r h3 qq_=>?_
  obtain⟨er,N3⟩:=qq_
  subst er
  simp!
  refine aD (co _ bp) fun r h4 qq_=>?_
  obtain⟨er,N4⟩:=qq_
  subst er
  have N14:=N3.trans N4
  have e4:=N14.get N1.new
  have NA:=N1.nw.trans N14
  simp! only[aa,pb,decide_true]
  refine yP (I:=fun i ρ h'=>(∃a b,ρ=[some PW,some (.tl (D.map W.int)),some (.tl (O.map NY)),some (OV w),some (.loc j),some (.int mm),some (.tup ((0::(tT G 0 (OP (m - 1))).2).map W.int)),a,b])/\h'=h4/\ ∀o∈O.take i,¬(S - Ng G o=mm/\aft o w.1=some w.2.2)) (J:=fun v h'=>v=.bl true/\h'=h4/\ ∃o∈O,S - Ng G o=mm/\aft o w.1=some w.2.2) ⟨⟨_,_,rfl⟩,rfl,fun o ho=>absurd ho (by rw[F6];exact EF)⟩ (fun _ _ _ _=>trivial) (fun i v ρ h6 hv I=>?_) (fun ρ h6 I=>?_) fun v h6 I=>?_
  ·obtain⟨⟨a,b,rfl⟩,eh,hn⟩:=I
   subst eh
   rw[ED] at hv
   obtain⟨o,ho,rfl⟩:=EH.mp hv
   have omm:=EO ho
   obtain⟨t,rfl,p⟩:=om o omm
   have ndt:=nd t p
   have pm:(0::t).Perm (Kb m):=p.cons 0
   have wm:w.1∈(0::t:List Int):=pm.mem_iff.mpr ((xS m1).mpr ⟨y.a0,y.a1⟩)
   obtain⟨j',ej,et⟩:=xZ wm
   have jl:=(Ev.mp ej).1
   have sc:=yh (l:=(0::t:List Int).map W.int) (j:=j') (by rw[El];exact jl)
   have ac:=zX (b:=w.2.2) ndt ej
   have nx: ∀ (e:¬(S - Ng G (0::t)=mm/\aft (0::t) w.1=some w.2.2)) (o:List Int),o∈O.take (i+1)-> ¬(S - Ng G o=mm/\aft o w.1=some w.2.2):=fun e o hm=>by
    rw[aP ho] at hm
    rcases E6.mp hm with hm|hm
    ·exact hn o hm
    ·rw[EC.mp hm];exact e
   have sc':slW (NY (0::t)) (some ((j':Int)+1)) (some ((j':Int)+2))=pr (.tup ((((0::t:List Int).drop (j'+1)).take 1).map W.int)):=by
    unfold NY
    rw[sc,GC,Hd]
   have et':OJ (NY (0::t)) [.int w.1]=pr (.int (j':Int)):=et
   have it:Lm (NY (0::t))=pr (NY (0::t)):=rfl
   have eq1:=eqT (((0::t:List Int).drop (j'+1)).take 1) [w.2.2]
   have eq1:eqW (.tup ((((0::t:List Int).drop (j'+1)).take 1).map W.int)) (.tup [.int w.2.2])=pr (.bl (decide (((0::t:List Int).drop (j'+1)).take 1=[w.2.2]))):=eq1
   have lc':Ok (cJ [.tl (D.map W.int),.loc j,NY (0::t)]) h6 fun w h'=>w=.int (S - Ng G (0::t))/\h'=h6:=lc h6 j ks ws e4 GG p
   generalize NY (0::t)=TW at *
   refine⟨_,rfl,?_⟩
   unfold bD
   simp!
   refine aD lc' fun r h7 qq_=>?_
   obtain⟨er,eh⟩:=qq_
   subst er eh
   by_cases c1:S - Ng G (0::t)=mm
   ·simp! only[aa,decide_eq_true c1,pE,pC,it,et',sc',eq1]
    by_cases c2:((0::t:List Int).drop (j'+1)).take 1=[w.2.2]
    ·simp! only[aa,decide_eq_true c2]
     exact ah (.inr ⟨_,rfl,rfl,rfl,_,omm,c1,ac.mp c2⟩)
    ·simp! only[aa,decide_eq_false c2]
     exact ah (.inl ⟨_,rfl,⟨_,_,rfl⟩,rfl,nx fun z=>c2 (ac.mpr z.2)⟩)
   ·simp! only[aa,decide_eq_false c1]
    exact ah (.inl ⟨_,rfl,⟨_,_,rfl⟩,rfl,nx fun z=>c1 z.1⟩)
  ·obtain⟨⟨a,b,rfl⟩,eh,hn⟩:=I
   subst eh
   rw[El,EN] at hn
   simp!
   refine ah ⟨?_,NA⟩
   rw[decide_eq_false]
   intro z
   obtain⟨t,p,et,top⟩:=ti.mpr z
   exact hn _ (mo t p) ⟨(opt t p).mpr top,et⟩
  ·obtain⟨rfl,eh,o,ho,c1,c2⟩:=I
   subst eh
   obtain⟨t,rfl,p⟩:=om o ho
   simp!
   refine ah ⟨?_,NA⟩
   rw[decide_eq_true (ti.mp ⟨t,p,c2,(opt t p).mp c1⟩)]
theorem uA {h:List Ob}{bx:W}{bs:List B23}{cs:List Int}{w:Way}{m i:Nat}(m1:1<=m)(m2:m<=6)(lb:bs.length=m)(hb: ∀b∈bs,b.e.tos.length<=6)(hc:(OX (KF bs)).length=cs.length)(c0: ∀c∈cs,0<=c)(l60:cs.length<=60)(y:Wy bs m w)(hw:(OX (KF bs))[i]?=some w)(q:Kk (KF bs) w=true):
  Ok (eK [pgW bx bs,.tl (cs.map W.int),.tl ((itr m (m - 1) [[0]]).map NY),.tl ((OX (KF bs)).map OV),.int (0+(i:Int))]) h fun r h'=>r=.bl true:=by
 have e0:eK [pgW bx bs,.tl (cs.map W.int),.tl ((itr m (m - 1) [[0]]).map NY),.tl ((OX (KF bs)).map OV),.int (0+(i:Int))]=bd (eE [some (pgW bx bs),some (.tl (cs.map W.int)),some (.tl ((itr m (m - 1) [[0]]).map NY)),some (.tl ((OX (KF bs)).map OV)),some (.int (0+(i:Int))),none]) KR:=rfl
 have tu:=fun h:List Ob=>j9 (h:=h) (bx:=bx) m1 (by omega) lb hb hc c0 l60 y
 have al:=(Ev.mp hw).1
 have iw:ixW (.tl ((OX (KF bs)).map OV)) (.int (0+(i:Int)))=pr (OV w):=bP (aO (by omega) (by rw[ED,show (0+(i:Int)).toNat=i by omega,hw];rfl))
 have ch: ∀v:Int,Ka (.tl ((cs.map W.int).take i)) (.tl [.int v])=pr (.tl ((cs.map W.int).take i++[.int v]))/\Ka (.tl ((cs.map W.int).take i++[.int v])) (.tl ((cs.map W.int).drop (i+1)))=pr (.tl ((N7 (KF bs) cs w v).map W.int)):=fun v=>by
  refine⟨f9 _ _ (by rw[E5,El];exact sz (by show min i cs.length+1<=100000;omega)),?_⟩
  rw[f9 _ _ (by rw[Ep,E5,Fh,El];exact sz (by show min i cs.length+1+(cs.length - (i+1))<=100000;omega)),vG hc hw,List.set_eq_take_append_cons_drop,if_pos (by omega),Et,Er,<-GC,<-Hd,EQ]
  rfl
 have s1:slW (.tl (cs.map W.int)) none (some (0+(i:Int)))=pr (.tl ((cs.map W.int).take i)):=by rw[slW_tl,pU _ (by omega),show (0+(i:Int)).toNat=i by omega]
 have s2:slW (.tl (cs.map W.int)) (some (0+(i:Int)+1)) none=pr (.tl ((cs.map W.int).drop (i+1))):=by
  rw[slW_tl,show (0+(i:Int)+1)=((i+1:Nat):Int) by omega]
  exact congrArg (fun l=>pr (W.tl l)) (xx _ _ (by rw[El];omega))
 have li:LU (.tl (cs.map W.int))=pr (cs.map W.int):=rfl
 rw[e0]
 unfold eE
 have F:=ke m1 hc c0 y.mem y.a0 y.a1 y.b0 y.b1 q
 have ht:OF (KF bs) w.1=false:=by
  have q':=q
  unfold Kk at q'
  rw[ES] at q'
  have:=q'.1
  simpa using this
 have T0:=vg F
 have be:=fun (h:List Ob) {x:Int} (x0:0<=x)=>u0 (h:=h) (bx:=bx) m1 m2 lb hb hc F y ht x0
 have tw:KB (KF bs) cs w m=.int (OM (KF bs) cs w m):=by unfold KB;rw[if_pos q]
 rw[tw] at tu
 have nb: ∀a b:Bool,Mu (.bl a) (.bl b)=pr (.bl (!(a==b))):=fun a b=>rfl
 have ib: ∀a b:Bool,Ld (.bl a) (.bl b)=pr (.bl (a==b)):=fun a b=>rfl
 generalize OM (KF bs) cs w m=T at *
 generalize pgW bx bs=P at *
 generalize W.tl ((itr m (m - 1) [[0]]).map NY)=OO at *
 generalize W.tl ((OX (KF bs)).map OV)=WW at *
 have d1:decide (T<=T)=true:=decide_eq_true (EW _)
 have d2:decide (T<=T+1)=true:=decide_eq_true (by omega)
 have d3:decide (T<=T - 1)=false:=decide_eq_false (by omega)
 have eCW:W.tl (cs.map W.int)=.tl (cs.map W.int):=rfl
 simp! only[aa,iw,kP]
 refine aD (tu _) fun r h2 qq_=>?_
 obtain⟨er,_⟩:=qq_
 subst er
 have c1:=fun v=>(ch v).1
 have c2:=fun v=>(ch v).2
 generalize hCW:W.tl (cs.map W.int)=CW at *
 simp! only[aa,sJ (i:=T) (c:= "int") (b:=true) (by decide) (by decide),sJ (i:=T) (c:= "bool") (b:=false) (by decide) (by decide),decide_eq_false (show¬T<0 by omega),s1,s2,c1,c2,iw]
 refine aD (be _ T0) fun r h3 qq_=>?_
 obtain⟨er,_⟩:=qq_
 subst er
 simp! only[aa,d1,nb,beq_self_eq_true,s1,s2,c1,c2,iw]
 refine aD (be _ (show 0<=T+1 by omega)) fun r h4 qq_=>?_
 obtain⟨er,_⟩:=qq_
 subst er
 by_cases z:T=0
 ·simp! only[aa,d2,nb,beq_self_eq_true,decide_eq_true z]
  exact ah rfl
 ·simp! only[aa,d2,nb,beq_self_eq_true,decide_eq_false z,s1,s2,c1,c2,iw]
  refine aD (be _ (show 0<=T - 1 by omega)) fun r h5 qq_=>?_
  obtain⟨er,_⟩:=qq_
  subst er
  simp! only[aa,d3,ib,beq_self_eq_true]
  exact ah rfl
theorem w9 (x a:Int):inW (.int x) (.tl [.int 0,.int a])=pr (.bl (decide (x=0)||decide (x=a))):=by
 funext h
 unfold inW
 have e:inB (.int x) (.tl [.int 0,.int a]) h=some (inV (.int x) [.int 0,.int a]):=rfl
 rw[e]
 have:inV (.int x) [.int 0,.int a]=(decide (x=0)||decide (x=a)):=by
  unfold inV
  simp only[Fv,List.any_nil,eqV,GW]
  by_cases c1:x=0
  ·subst c1;simp
  ·by_cases c2:x=a
   ·subst c2;simp
   ·simp [c1,c2,Ne.symm c1,Ne.symm c2]
 rw[this];rfl
theorem zu (ns:List Int)(hh:List Ob):Ok (pP [.cl (ns.map W.int)]) hh fun w _=>w=.bl true:=by
 have e0:pP [.cl (ns.map W.int)]=bd (sP [some (.cl (ns.map W.int)),none,none,none,none,none,none]) KR:=rfl
 rw[e0]
 unfold sP
 obtain⟨bx,bl,G,ht⟩:=ya ns (most:=5) (MM:=5) rfl (by decide) (by decide)
 obtain⟨ys,yl,yo⟩:=rJ ns (A:=8) (by decide)
 obtain⟨N,hN⟩: ∃N:Int,N=(bl.length:Int):=⟨_,rfl⟩
 have gb:=DY hN G
 have lb:(bl.map (b23 (bl.map Bt.nm))).length=bl.length:=El ..
 have eP:W.tup [.tl ((bxV bx).map bqW),.tl (bl.map (Bt.w (bl.map Bt.nm)))]=pgW (.tl ((bxV bx).map bqW)) (bl.map (b23 (bl.map Bt.nm))):=by unfold pgW;rw[E2];rfl
 have m1:=G.g.l1
 have m2:=G.l
 have rp:=fun h:List Ob=>vM (h:=h) G.g
 rw[eP] at rp
 simp!
 refine aD (ht hh) fun w h1 qq_=>?_
 obtain⟨ew,_⟩:=qq_
 subst ew
 simp!
 refine aD (rp _) fun w h2 qq_=>?_
 obtain⟨ew,_⟩:=qq_
 subst ew
 generalize W.tl ((bxV bx).map bqW)=XW at *
 generalize bl.map (b23 (bl.map Bt.nm))=bs at *
 generalize bl.length=m at *
 have h6: ∀b∈bs,b.e.tos.length<=6:=fun b hb=>(gb b hb).six
 have hp:ixW (pgW XW bs) (.int 1)=pr (.tl (bs.map B23.w)):=ix1 ..
 have eB:LP [.tl (bs.map B23.w)]=pr (.int N):=by rw[lenW_tl,El,lb,hN]
 have lw:(OX (KF bs)).length<=60:=by
  have h6': ∀e∈KF bs,e.tos.length<=6:=fun e he=>by
   obtain⟨b,hb',rfl⟩:=EB.mp he
   exact h6 b hb'
  have l2:(KF bs).length=bs.length:=by unfold KF;rw[El]
  have:=gu (KF bs) h6' (KF bs).length (Em _)
  rw[EN] at this
  omega
 simp!
 refine nE hp (.inl rfl) (by omega) h6 fun h3 N3=>?_
 obtain⟨L,hL⟩: ∃L:Int,L=((OX (KF bs)).length:Int):=⟨_,rfl⟩
 have eW:LP [.tl ((OX (KF bs)).map OV)]=pr (.int L):=by rw[lenW_tl,El,hL]
 have eL:L.toNat=(OX (KF bs)).length:=by omega
 have yo':=yo h3 ((OX (KF bs)).map OV) (by rw[El];omega)
 rw[El] at yo'
 have cl:=pX ys (OX (KF bs)).length
 have c0:=xz (ys:=ys) (n:=(OX (KF bs)).length)
 generalize Kr ys (OX (KF bs)).length=cs at *
 obtain⟨WW,hWW⟩: ∃WW,WW=W.tl ((OX (KF bs)).map OV):=⟨_,rfl⟩
 obtain⟨OO,hOO⟩: ∃OO,OO=W.tl ((itr m (m - 1) [[0]]).map NY):=⟨_,rfl⟩
 obtain⟨CW,hCW⟩: ∃CW,CW=W.tl (cs.map W.int):=⟨_,rfl⟩
 have ixw: ∀ (i:Nat) (w:Way),(OX (KF bs))[i]?=some w->ixW WW (.int (0+(i:Int)))=pr (OV w):=fun i w hw=>by
  rw[hWW]
  exact bP (aO (by omega) (by rw[ED,show (0+(i:Int)).toNat=i by omega,hw];rfl))
 have rr:=fun (h:List Ob) (i:Nat) (w:Way) (y:Wy bs m w) (hw:(OX (KF bs))[i]?=some w) (q:Kk (KF bs) w=true)=>uA (h:=h) (bx:=XW) m1 (by omega) lb h6 cl.symm c0 (by omega) y hw q
 have tu:=fun (h:List Ob) (w:Way) (y:Wy bs m w)=>j9 (h:=h) (bx:=XW) m1 (by omega) lb h6 cl.symm c0 (by omega) y
 have lstC:LU CW=pr (cs.map W.int):=by rw[hCW];rfl
 have ixb:=fun (w:Way) (b:B23) (a0:0<=w.1) (hb:bs[w.1.toNat]?=some b)=>pG a0 hb
 have oo:=fun h:List Ob=>ug (h:=h) hN m1 (by omega)
 rw[<-hWW,<-hCW,<-hOO] at rr
 rw[<-hWW] at eW yo'
 rw[<-hCW] at yo'
 rw[<-hOO] at oo
 rw[<-hWW]
 generalize W.tl (bs.map B23.w)=BW at *
 simp!
 refine aD yo' fun w h4 qq_=>?_
 obtain⟨ew,_⟩:=qq_
 rw[ew]
 simp! only[aa,hp,eB]
 refine aD (oo _) fun w h5 qq_=>?_
 obtain⟨ew,_⟩:=qq_
 rw[ew]
 simp! only[aa,eW,gz (show (-(2 ^ 62):Int)<=L by omega) (show L<2 ^ 62 by omega)]
 refine cP (I:=fun i ρ h'=> ∃a b,ρ=[some (.cl (ns.map W.int)),some (pgW XW bs),some WW,some CW,some OO,a,b]) ⟨_,_,rfl⟩ (fun _ _ _ _=>trivial) (fun i w ρ h6' hw I=>?_) fun ρ h6' I=>?_
 ·obtain⟨a,b,rfl⟩:=I
  obtain⟨rfl,hi⟩:=cG _ _ _ _ hw
  rw[eL] at hi
  obtain⟨w,ew⟩: ∃w,(OX (KF bs))[i]?=some w:=⟨_,EL hi⟩
  have y:=CL hN lb gb (EO ew)
  obtain⟨b',hb',et⟩:=y.blk
  have iw:=ixw i w ew
  have ib:=ixb w b' y.a0 hb'
  refine⟨_,rfl,?_⟩
  have cb:Kk (KF bs) w=!(b'.e.tab||(decide (w.2.2=0)||decide (w.2.2=w.1))):=by
   unfold Kk
   rw[et]
   cases b'.e.tab<;>cases decide (w.2.2=w.1)<;>cases decide (w.2.2=0)<;>rfl
  have tu':=tu h6' w y
  simp! only[aa,hp,iw,pE,pC,ib,nH,jX,kR]
  have nn:Mv .non .non=pr (.bl false):=rfl
  cases q:Kk (KF bs) w with
  |true=>
   rw[q] at cb
   have cb:(b'.e.tab||(decide (w.2.2=0)||decide (w.2.2=w.1)))=false:=by
    cases z:(b'.e.tab||(decide (w.2.2=0)||decide (w.2.2=w.1))) with
    |false=>rfl
    |true=>rw[z] at cb;cases cb
   rw[Gu,Gu] at cb
   simp! only[aa,cb.1,iw,pE,pC,w9,cb.2.1,cb.2.2,GW,G3]
   refine aD (rr _ i w y ew q) fun r h7 er=>?_
   subst er
   simp!
   exact ah ⟨_,rfl,_,_,rfl⟩
  |false=>
   rw[q] at cb
   have dw:KB (KF bs) cs w m=.non:=by unfold KB;rw[if_neg (by rw[q];exact EE)]
   rw[dw] at tu'
   have cb:(b'.e.tab||(decide (w.2.2=0)||decide (w.2.2=w.1)))=true:=by
    cases z:(b'.e.tab||(decide (w.2.2=0)||decide (w.2.2=w.1))) with
    |true=>rfl
    |false=>rw[z] at cb;cases cb
   cases tb:b'.e.tab with
   |true=>
    rw[hCW]
    simp! only[aa,iw,kP]
    refine aD tu' fun r h7 qq_=>?_
    obtain⟨er,_⟩:=qq_
    subst er
    simp! only[aa,nn]
    exact ah ⟨_,rfl,_,_,rfl⟩
   |false=>
    rw[tb,G3] at cb
    rw[hCW]
    simp! only[aa,iw,pE,pC,w9,cb,kP]
    refine aD tu' fun r h7 qq_=>?_
    obtain⟨er,_⟩:=qq_
    subst er
    simp! only[aa,nn]
    exact ah ⟨_,rfl,_,_,rfl⟩
 ·obtain⟨a,b,rfl⟩:=I
  simp!
  exact ah rfl
theorem LM (ns:List Int)(hh:List Ob): ∃h',pP [.cl (ns.map W.int)] hh=.ok (.bl true) h':=by
 obtain⟨w,h',e,rfl⟩:=zu ns hh
 exact⟨h',e⟩
end
end Q
namespace L2
open PySem PySem.Spec PyProof.Rows
theorem ln1 {α:Type}: ∀ {us:List α},us.length=1-> ∃a,us=[a]
 |[a],_=>⟨a,rfl⟩
theorem ln2 {α:Type}: ∀ {us:List α},us.length=2-> ∃a b,us=[a,b]
 |[a,b],_=>⟨a,b,rfl⟩
theorem ln3 {α:Type}: ∀ {us:List α},us.length=3-> ∃a b c,us=[a,b,c]
 |[a,b,c],_=>⟨a,b,c,rfl⟩
theorem ln4 {α:Type}: ∀ {us:List α},us.length=4-> ∃a b c d,us=[a,b,c,d]
 |[a,b,c,d],_=>⟨a,b,c,d,rfl⟩
theorem ln5 {α:Type}: ∀ {us:List α},us.length=5-> ∃a b c d e,us=[a,b,c,d,e]
 |[a,b,c,d,e],_=>⟨a,b,c,d,e,rfl⟩
section
variable (K:PySem.W.Frag)(mg:Str->Option H0)(x:Str)(C:Ig)
noncomputable def Dq (st:IK):Prop:= ∃f fd,Fun K x x st f fd/\mg x=some (.ref f)
noncomputable def Dqm (q:Str)(st:IK):Prop:= ∃f fd,Fun K x q st f fd/\JY K C x f
def Gt (zs:List Str):Prop:= ∃a,mg x=some (.ref a)/\ ∀H,SqT K H a (zs.map V.str)
noncomputable def Gi (i:Int):Prop:= ∃t,mg x=some (.int i t)
noncomputable def Gs (i:Str):Prop:= ∃t,mg x=some (.str i t)
end
section
variable {P:Ib}{w:Ic}{K:PySem.W.Frag}{mg:Str->Option H0}{base:Ie}{x q:Str}{st:IK}{C f:Ig}{fd:Je}{k:Nat}{fn:List W->M W}{g:JR->M Fl}{oc:H0}{od an:Option Ig}{osl:Array (Option H0)}{kV doc pm cdv ct:H0}{h:Ie}
theorem dq (X:K.In h)(G:h.Ns IC mg)(a:HZ K IC x=some (some (.ref f)))(l:K.lookup f=some ⟨oc,od,.func (fnOf x x (cT st) (bC st) (ae st) .none kV doc pm an cdv ct),osl⟩)(c:codeIn K cdv x=true)(k:HX K (.ref f)=true):Dq K mg x st:=⟨_,_,xi l c k,mg_of X G a⟩
theorem dqm (a:HV K (.ref C) x=some (some (.ref f)))(i:PySem.W.isFn K (.ref f)=true)(l:K.lookup f=some ⟨oc,od,.func (fnOf x q (cT st) (bC st) (ae st) .none kV doc pm an cdv ct),osl⟩)(c:codeIn K cdv q=true)(k:HX K (.ref f)=true):Dqm K x C q st:=⟨_,_,xi l c k,a,i,k⟩
theorem gi {i:Int}{t:Tok}(X:K.In h)(G:h.Ns IC mg)(a:HZ K IC x=some (some (.int i t))):Gi mg x i:=⟨_,mg_of X G a⟩
theorem gs {i:Str}{t:Tok}(X:K.In h)(G:h.Ns IC mg)(a:HZ K IC x=some (some (.str i t))):Gs mg x i:=⟨_,mg_of X G a⟩
theorem gn (X:K.In h)(G:h.Ns IC mg)(a:HZ K IC x=some none):mg x=none:=PySem.W.mg_none_of X G a
noncomputable def stx:List H0->List Str
 |.str z _::r=>z::stx r
 |_=>[]
theorem vt: ∀ {us:List H0},(stx us).length=us.length->Vals ((stx us).map V.str) us
 |[],_=>.nil
 |.str z t::r,e=>.cons ⟨_,rfl⟩ (vt (Fs.inj e))
theorem gt {zs:List Str}{its:Array H0}{n:Nat}(X:K.In h)(G:h.Ns IC mg)(a:HZ K IC x=some (some (.ref f)))(l:K.lookup f=some ⟨.type "tuple",od,.seq its n,osl⟩)(e:zs=stx its.toList/\(stx its.toList).length=its.toList.length/\its.toList.length<=64):Gt K mg x zs:=by
 obtain⟨rfl,e,e2⟩:=e
 exact⟨f,mg_of X G a,fun H=>.inr ⟨_,_,_,l,rfl,rfl,EG (by simpa using e2) (by unfold sizeLine;decide),vt e⟩⟩
end
section
variable {P:Ib}{w:Ic}{K:PySem.W.Frag}{mg:Str->Option H0}{base:Ie}{x q:Str}{st:IK}{C f:Ig}{fd:Je}{k:Nat}{fn:List W->M W}{g:JR->M Fl}
theorem okf (N:List Str)(m:Nat)(F:Fun K x x st f fd)(Mf:mg x=some (.ref f))
  (hb: ∀ (cdv:H0) (A:Ik) (outer:List Env) (s:Ii) (H:Hp) (E:XK),Room k (A.deeper (Jj x (ae st) s.heap.objs.size f cdv))->(A.deeper (Jj x (ae st) s.heap.objs.size f cdv)).units+1<Il->(A.deeper (Jj x (ae st) s.heap.objs.size f cdv)).units+64<Il->N.Nodup->JSs (Kw CX0 P w K mg base N x (ae st) f cdv A outer s H E).nox E0 (bC st) g)
  (S:JU N (N.take m) (ae st):=by exact⟨rfl,rfl,rfl,by decide+kernel,rfl,by decide+kernel,by decide+kernel⟩)(hm:(N.take m).length=m:=by rfl)(hf:fn=Nt N.length g:=by rfl)
  (hi: ∀ (kV doc pm:H0) (an:Option Ig) (cdv ct:H0) (us:List H0),us.length=(N.take m).length->bindArgs (fnOf x x (cT st) (bC st) (ae st) .none kV doc pm an cdv ct) ⟨us,[]⟩=pure ((N.take m).zip us):=by intro _ _ _ _ _ _ us hl;first|(obtain⟨_,rfl⟩:=ln1 hl;rfl)|(obtain⟨_,_,rfl⟩:=ln2 hl;rfl)|(obtain⟨_,_,_,rfl⟩:=ln3 hl;rfl)|(obtain⟨_,_,_,_,rfl⟩:=ln4 hl;rfl)|(obtain⟨_,_,_,_,_,rfl⟩:=ln5 hl;rfl)):
  CG P w K mg base (k+1) x f fd (N.take m) m fn:=
 ⟨Aj (g:=g) F S rfl hm hf fun cdv A outer s H E hr=>hb cdv A outer s H E hr (Ah hr) hr.units S.nd,F.binds hi,F.kp,Mf⟩
theorem okz (N:List Str)(m:Nat)(F:Fun K x x st f fd)(Mf:mg x=some (.ref f))(h:∀ws h,fn ws h=.bad)
 (hi: ∀ (kV doc pm:H0) (an:Option Ig) (cdv ct:H0) (us:List H0),us.length=(N.take m).length->bindArgs (fnOf x x (cT st) (bC st) (ae st) .none kV doc pm an cdv ct) ⟨us,[]⟩=pure ((N.take m).zip us):=by intro _ _ _ _ _ _ us hl;first|(obtain⟨_,rfl⟩:=ln1 hl;rfl)|(obtain⟨_,_,rfl⟩:=ln2 hl;rfl)|(obtain⟨_,_,_,rfl⟩:=ln3 hl;rfl)):
 CG P w K mg base k x f fd (N.take m) m fn:=⟨Cn h,F.binds hi,F.kp,Mf⟩
theorem okm (N:List Str)(m:Nat)(F:Fun K x q st f fd)(Mf:JY K C x f)
  (hb: ∀ (cdv:H0) (A:Ik) (outer:List Env) (s:Ii) (H:Hp) (E:XK),Room k (A.deeper (Jj q (ae st) s.heap.objs.size f cdv))->(A.deeper (Jj q (ae st) s.heap.objs.size f cdv)).units+1<Il->(A.deeper (Jj q (ae st) s.heap.objs.size f cdv)).units+64<Il->N.Nodup->JSs (Kw CX0 P w K mg base N q (ae st) f cdv A outer s H E).nox E0 (bC st) g)
  (S:JU N (N.take m) (ae st):=by exact⟨rfl,rfl,rfl,by decide+kernel,rfl,by decide+kernel,by decide+kernel⟩)(hm:(N.take m).length=m:=by rfl)(hf:fn=Nt N.length g:=by rfl)
  (hi: ∀ (kV doc pm:H0) (an:Option Ig) (cdv ct:H0) (us:List H0),us.length=(N.take m).length->bindArgs (fnOf x q (cT st) (bC st) (ae st) .none kV doc pm an cdv ct) ⟨us,[]⟩=pure ((N.take m).zip us):=by intro _ _ _ _ _ _ us hl;first|(obtain⟨_,rfl⟩:=ln1 hl;rfl)|(obtain⟨_,_,rfl⟩:=ln2 hl;rfl)|(obtain⟨_,_,_,rfl⟩:=ln3 hl;rfl)):
  CGm P w K mg base (k+1) C x f fd (N.take m) m fn:=
 ⟨Aj (g:=g) F S rfl hm hf fun cdv A outer s H E hr=>hb cdv A outer s H E hr (Ah hr) hr.units S.nd,F.binds hi,Mf⟩
end
section
variable {X:Cx}{E:XK}{p p0 pos apos:IH}{zs:List Str}{x:Str}
noncomputable def nst:Expr->Bool
 |.Starred ..=>false
 |_=>true
theorem ym {e:Expr}{es:List Expr}{env:Env}(h:nst e=true):IJ (e::es) env=(false,IG e env)::IJ es env:=by
 cases e<;>first|rfl|cases h
noncomputable def nsl:Expr->Bool
 |.Slice ..=>false
 |_=>true
theorem C0 {b:Expr}(h:nsl b=true):j3 b:=by
 cases b<;>first|exact fun _ _=>rfl|cases h
theorem Ed {a b:Expr}{fa fb:JR->M W}(h:nsl b=true)(hu:X.A.units+1<Il)(ha:JE X E a fa)(hb:JE X E b fb):JE X E (.Subscript a b pos) (m2 ixW fa fb):=Dx hu ha hb (C0 h)
theorem Dy {a b:Expr}{fa fb:JR->M W}(h:nsl b=true)(hu:X.A.units+64<Il)(ha:JE X E a fa)(hb:JE X E b fb):JE X E (.Subscript a b pos) (m2 Lr fa fb):=BX hu ha hb (C0 h)
theorem Eg {e:Expr}{es:List Expr}{u:JR->M W}{l:JR->M (List W)}(h:nst e=true)(ha:JE X E e u)(hr:JA X E es l):JA X E (e::es) (L0 u l):=zp ha hr (ym h)
theorem Dk {es:List Expr}{env:Env}(h:es.all nst=true):(II pos (IJ es env)).any (·.1)=false:=by
 induction es with
 |nil=>exact Bq
 |cons e r ih=>rw[F4,ES] at h;exact yT (ym h.1) (ih h.2)
def Cm (X:Cx)(E:XK)(op:CmpOp)(f:W->W->M W):Prop:= ∃r,OpM X E r f/\OpR X (IM op) r
theorem Eb {a b:Expr}{op:CmpOp}{f:W->W->M W}{fa fb:JR->M W}(h:Cm X E op f)(ha:JE X E a fa)(hb:JE X E b fb)(hm:IN op b=false):JT X E (.Compare a [op] [b] pos) (mB (m2 f fa fb)):=h.elim fun _ h=>Bw h.2 h.1 ha hb hm
theorem Ef {a b:Expr}{op:CmpOp}{f:W->W->M W}{fa fb:JR->M W}(h:Cm X E op f)(ha:JE X E a fa)(hb:JE X E b fb)(hm:IN op b=false):JE X E (.Compare a [op] [b] pos) (m2 f fa fb):=h.elim fun _ h=>B2 h.2 h.1 ha hb hm
theorem Dm {a b c:Expr}{op op':CmpOp}{f g:W->W->M W}{fa fb fc:JR->M W}(h:Cm X E op f)(h':Cm X E op' g)(ha:JE X E a fa)(hb:JE X E b fb)(hc:JE X E c fc)(hm:lastMarks [op,op'] [b,c]=false:=by with_unfolding_all rfl):JT X E (.Compare a [op,op'] [b,c] pos) (mB (aU f g fa fb fc)):=h.elim fun _ h=>h'.elim fun _ h'=>wD h.2 h.1 h'.2 h'.1 ha hb hc hm
def Cr (X:Cx)(x:Str)(m:Nat)(f:List W->M W):Prop:= ∃k a d ps,CG X.prog X.w X.K X.mg X.base k x a d ps m f/\Room k X.A
theorem Ee {e:Expr}{es:List Expr}{l:JR->M (List W)}{m:Nat}{f:List W->M W}(h:Cr X x m f)(ha:JA X E0 (e::es) l)(hg:Gl X x:=by rfl)
  (hdb:(x==("__debug__":Str))=false:=by decide)(he:(e::es).all nst=true):
  JE X E0 (.Call (.Name x p) (e::es) [] pos) (LY (arW m f) l):=by
 obtain⟨_,_,_,_,h,hr⟩:=h
 rw[F4,ES] at he
 exact DD h hr ha hg hdb (ym he.1) (Dk he.2)
def Cs (X:Cx)(c x:Str)(m:Nat)(f:List W->M W):Prop:= ∃C k a d ps,HZ X.K IC c=some (some (.ref C))/\Cls X.K C/\CGm X.prog X.w X.K X.mg X.base k C x a d ps m f/\Room k X.A
theorem Ec {c:Str}{o e:Expr}{es:List Expr}{fo:JR->M W}{l:JR->M (List W)}{m:Nat}{f:List W->M W}{pl:Sem Bool}(h:Cs X c x m f)(ho:JE X E0 o fo)(ha:JA X E0 (e::es) l)
  (hst:IJ (e::es) X.env=(false,IG e X.env)::IJ es X.env:=by rfl)(hpl:(II pos (IJ es X.env)).any (·.1)=false:=by rfl)
  (ht:IG (.Call (.Attribute o x apos) (e::es) [] pos) X.env=(do
   let ov<-IG o X.env
   IP apos.atName
   let (f,first)<-IQ [ov] (Ja ov x pl)
   callWith pos f first (II pos (IJ (e::es) X.env)) (Jc pos (Jd [] X.env))):=by rfl):
  JE X E0 (.Call (.Attribute o x apos) (e::es) [] pos) (L4 c x m f fo l):=by
 obtain⟨_,_,_,_,_,n,k,F,hr⟩:=h
 exact BU n k F hr ho ha hst hpl ht
theorem Dv {c:Str}{o:Expr}{fo:JR->M W}{m:Nat}{f:List W->M W}{pl:Sem Bool}(h:Cs X c x m f)(ho:JE X E0 o fo)
  (ht:IG (.Call (.Attribute o x apos) [] [] pos) X.env=(do
   let ov<-IG o X.env
   IP apos.atName
   let (f,first)<-IQ [ov] (Ja ov x pl)
   callWith pos f first (II pos (IJ [] X.env)) (Jc pos (Jd [] X.env))):=by rfl):
  JE X E0 (.Call (.Attribute o x apos) [] [] pos) (L4 c x m f fo L7):=by
 obtain⟨_,_,_,_,_,n,k,F,hr⟩:=h
 exact zj n k F hr ho ht
def Fq (X:Cx)(c x:Str):Prop:= ∃C,HZ X.K IC c=some (some (.ref C))/\Cls X.K C/\NoAttr X.K C x
theorem DC {c:Str}{o:Expr}{fo:JR->M W}(h:Fq X c x)(ho:JE X E o fo)(hb:Jb o x X.env (IG o X.env)=IG o X.env:=by rfl):JE X E (.Attribute o x pos) (m1 (KU c x) fo):=by
 obtain⟨_,n,k,a⟩:=h
 exact B1 n k a ho hb
theorem Do {c:Str}{o value:Expr}{pos':IH}{fo fv:JR->M W}(h:Fq X c x)(ho:JE X E o fo)(hv:JE X E value fv)(hs:swapsWith value (some (.Attribute o x pos')) pos.line X.env=pure false:=by rfl):JS X E (.Assign [.Attribute o x pos'] value pos) (NE c x fo fv):=by
 obtain⟨_,n,k,a⟩:=h
 exact BA n k a ho hv hs
def Tq (X:Cx)(tg:Expr)(t:W->JR->Option JR):Prop:= ∃m gT,J6 X.K m gT t/\PG X tg gT
theorem Dr {tg iter:Expr}{body:List IK}{src:JR->M Sr}{t:W->JR->Option JR}{g:JR->M Fl}(h:Tq X tg t)(hp:IT (Io X.prog X.w) X.A X.env X.xe)(hc:X.calm=true)(hi:JI X E tg iter src)(hb:JSs X E body g)
  (hs: ∀x,IZ iter X.env x=pure x:=by intro _;rfl):JS X E (.For tg iter body [] pos) (NF src t g):=by
 obtain⟨_,_,ht,hg⟩:=h
 exact Bz hp hc hi hg ht hb hs
theorem DW (hu:X.A.units+64<Il):Cm X E .Eq eqW:=⟨_,Ba hu,Da⟩
theorem DP (hu:X.A.units+64<Il):Cm X E .NotEq neW:=⟨_,A2 hu,C4⟩
theorem DR:Cm X E .Lt ltW:=⟨_,A4,C5⟩
theorem DS:Cm X E .LtE leW:=⟨_,A5,C6⟩
theorem DU:Cm X E .Gt gtW:=⟨_,A8,C8⟩
theorem DV:Cm X E .GtE geW:=⟨_,A9,C9⟩
theorem DT (hu:X.A.units+1<Il):Cm X E .In inW:=⟨_,A7,C7 hu⟩
theorem DO (hu:X.A.units+1<Il):Cm X E .NotIn cx:=⟨_,uh,v5 hu⟩
theorem Ct:Cm X E .Is Lk:=⟨_,yG,Bg⟩
theorem zQ:Cm X E .IsNot Mv:=⟨_,v6,yJ⟩
theorem Cu:Cm X E .Is Ld:=⟨_,yH,Bh⟩
theorem zR:Cm X E .IsNot Mu:=⟨_,v7,yK⟩
theorem DB {i:Int}(hm:Gi X.mg x i)(hg:Gl X x:=by rfl)(hd:(x==("__debug__":Str))=false:=by decide):JE X E (.Name x pos) (mC (.int i)):=hm.elim fun _ hm=>nA (w:=.int i) (v:=.int i) hg hm ⟨_,rfl⟩ (fun o=>Nx.mpr rfl) hd
theorem DA {i:Str}(hm:Gs X.mg x i)(hg:Gl X x:=by rfl)(hd:(x==("__debug__":Str))=false:=by decide):JE X E (.Name x pos) (mC (.str i)):=hm.elim fun _ hm=>nA (w:=.str i) (v:=.str i) hg hm ⟨_,rfl⟩ (fun o=>Nz.mpr rfl) hd
theorem Dz (h:Gt X.K X.mg x zs)(hg:Gl X x:=by rfl)(hd:(x==("__debug__":Str))=false:=by decide):JE X E (.Name x pos) (mC (.tup (zs.map W.str))):=by
 obtain⟨a,hm,hq⟩:=h
 exact wM hm hq hg hd
end
section
variable (P:Ib)(w:Ic)(K:PySem.W.Frag)(mg:Str->Option H0)(base:Ie)(k:Nat)(C:Ig)(x:Str)(m:Nat)(fn:List W->M W)
def Cq:Prop:= ∃a d ps,CG P w K mg base k x a d ps m fn
def Cqm:Prop:= ∃a d ps,CGm P w K mg base k C x a d ps m fn
end
section
variable {P:Ib}{w:Ic}{K:PySem.W.Frag}{mg:Str->Option H0}{base:Ie}{x q:Str}{st:IK}{C:Ig}{k:Nat}{fn:List W->M W}{g:JR->M Fl}
theorem okq (N:List Str)(m:Nat)(D:Dq K mg x st)(hb: ∀ (f:Ig) (cdv:H0) (A:Ik) (outer:List Env) (s:Ii) (H:Hp) (E:XK),Room k (A.deeper (Jj x (ae st) s.heap.objs.size f cdv))->(A.deeper (Jj x (ae st) s.heap.objs.size f cdv)).units+1<Il->(A.deeper (Jj x (ae st) s.heap.objs.size f cdv)).units+64<Il->N.Nodup->JSs (Kw CX0 P w K mg base N x (ae st) f cdv A outer s H E).nox E0 (bC st) g)
  (S:JU N (N.take m) (ae st):=by exact⟨rfl,rfl,rfl,by decide+kernel,rfl,by decide+kernel,by decide+kernel⟩)(hm:(N.take m).length=m:=by rfl)(hf:fn=Nt N.length g:=by rfl)(hi: ∀ (kV doc pm:H0) (an:Option Ig) (cdv ct:H0) (us:List H0),us.length=(N.take m).length->bindArgs (fnOf x x (cT st) (bC st) (ae st) .none kV doc pm an cdv ct) ⟨us,[]⟩=pure ((N.take m).zip us):=by intro _ _ _ _ _ _ us hl;first|(obtain⟨_,rfl⟩:=ln1 hl;rfl)|(obtain⟨_,_,rfl⟩:=ln2 hl;rfl)|(obtain⟨_,_,_,rfl⟩:=ln3 hl;rfl)|(obtain⟨_,_,_,_,rfl⟩:=ln4 hl;rfl)|(obtain⟨_,_,_,_,_,rfl⟩:=ln5 hl;rfl)):Cq P w K mg base (k+1) x m fn:=by
 obtain⟨f,_,F,M⟩:=D
 exact⟨_,_,_,okf N m F M (hb f) S hm hf hi⟩
theorem Mz (N:List Str)(m:Nat)(D:Dqm K x C q st)(hb: ∀ (f:Ig) (cdv:H0) (A:Ik) (outer:List Env) (s:Ii) (H:Hp) (E:XK),Room k (A.deeper (Jj q (ae st) s.heap.objs.size f cdv))->(A.deeper (Jj q (ae st) s.heap.objs.size f cdv)).units+1<Il->(A.deeper (Jj q (ae st) s.heap.objs.size f cdv)).units+64<Il->N.Nodup->JSs (Kw CX0 P w K mg base N q (ae st) f cdv A outer s H E).nox E0 (bC st) g)
  (S:JU N (N.take m) (ae st):=by exact⟨rfl,rfl,rfl,by decide+kernel,rfl,by decide+kernel,by decide+kernel⟩)(hm:(N.take m).length=m:=by rfl)(hf:fn=Nt N.length g:=by rfl)(hi: ∀ (kV doc pm:H0) (an:Option Ig) (cdv ct:H0) (us:List H0),us.length=(N.take m).length->bindArgs (fnOf x q (cT st) (bC st) (ae st) .none kV doc pm an cdv ct) ⟨us,[]⟩=pure ((N.take m).zip us):=by intro _ _ _ _ _ _ us hl;first|(obtain⟨_,rfl⟩:=ln1 hl;rfl)|(obtain⟨_,_,rfl⟩:=ln2 hl;rfl)|(obtain⟨_,_,_,rfl⟩:=ln3 hl;rfl)|(obtain⟨_,_,_,_,rfl⟩:=ln4 hl;rfl)|(obtain⟨_,_,_,_,_,rfl⟩:=ln5 hl;rfl)):Cqm P w K mg base (k+1) C x m fn:=by
 obtain⟨f,_,F,M⟩:=D
 exact⟨_,_,_,okm N m F M (hb f) S hm hf hi⟩
theorem okqz (N:List Str)(m:Nat)(D:Dq K mg x st)(h:∀ws h,fn ws h=.bad)(hi: ∀ (kV doc pm:H0) (an:Option Ig) (cdv ct:H0) (us:List H0),us.length=(N.take m).length->bindArgs (fnOf x x (cT st) (bC st) (ae st) .none kV doc pm an cdv ct) ⟨us,[]⟩=pure ((N.take m).zip us):=by intro _ _ _ _ _ _ us hl;first|(obtain⟨_,rfl⟩:=ln1 hl;rfl)|(obtain⟨_,_,rfl⟩:=ln2 hl;rfl)|(obtain⟨_,_,_,rfl⟩:=ln3 hl;rfl)|(obtain⟨_,_,_,_,rfl⟩:=ln4 hl;rfl)|(obtain⟨_,_,_,_,_,rfl⟩:=ln5 hl;rfl)):Cq P w K mg base k x m fn:=by
 obtain⟨_,_,F,M⟩:=D
 exact⟨_,_,_,okz N m F M h hi⟩
end
section
variable {X:Cx}{x c:Str}{C:Ig}{k m:Nat}{f:List W->M W}{p pos:IH}
theorem cr (h:Cq X.prog X.w X.K X.mg X.base k x m f)(r:Room k X.A):Cr X x m f:=h.elim fun a ⟨d,ps,h⟩=>⟨k,a,d,ps,h,r⟩
theorem cs (h:Cqm X.prog X.w X.K X.mg X.base k C x m f)(n:HZ X.K IC c=some (some (.ref C)))(l:Cls X.K C)(r:Room k X.A):Cs X c x m f:=h.elim fun a ⟨d,ps,h⟩=>⟨C,k,a,d,ps,n,l,h,r⟩
theorem Du (h:Cqm X.prog X.w X.K X.mg X.base k C "__init__" m f)(hn:HZ X.K IC c=some (some (.ref C)))(hk:makesIn X.K C=true)(kc:HX X.K (.ref C)=true)(hm:X.mg c=some (.ref C))(hr:Room (k+1) X.A)(hg:Gl X c:=by rfl)(hdb:(c==("__debug__":Str))=false:=by decide):JE X E0 (.Call (.Name c p) [] [] pos) (L3 c m f L7):=by
 obtain⟨_,_,_,h⟩:=h
 exact wK ⟨hk,h.me.at_,h.me.fn,kc⟩ hn h.ok h.bi hr hm hg hdb
end
section
variable {X:Cx}{E:XK}{e a b:Expr}{es:List Expr}{s:IK}{ss:List IK}{o:Option Expr}{op:Operator}{kw:List Jh}{c:Const}{k:Nat}{x:Str}{pos:IH}{f:JR->M W}{u:JR->M Bool}{l:JR->M (List W)}{g:JR->M Fl}{r:JR->M Sr}{q:JR->M (Option Int)}
theorem gNm (h:JE X E (.Name x pos) f):JE X E (.Name x pos) f:=h
theorem gCo {j:Nat}(h:JE X E (.Constant c j pos) f):JE X E (.Constant c j pos) f:=h
theorem gCl (h:JE X E (.Call e es kw pos) f):JE X E (.Call e es kw pos) f:=h
theorem gBi (h:JE X E (.BinOp a op b pos) f):JE X E (.BinOp a op b pos) f:=h
theorem gSu (h:JE X E (.Subscript a b pos) f):JE X E (.Subscript a b pos) f:=h
theorem gJE (h:JE X E e f):JE X E e f:=h
theorem gJT (h:JT X E e u):JT X E e u:=h
theorem gJW (h:JW X E e u):JW X E e u:=h
theorem gJA (h:JA X E es l):JA X E es l:=h
theorem gJF (h:JF X E e l):JF X E e l:=h
theorem gJS (h:JS X E s g):JS X E s g:=h
theorem gJZ (h:JSs X E ss g):JSs X E ss g:=h
theorem gJI (h:JI X E a b r):JI X E a b r:=h
theorem gJO (h:JO X E o q):JO X E o q:=h
end
end L2
namespace Q
open PySem L2 Wd
set_option hygiene false in
local macro_rules | `(tactic| and_intros) => `(tactic| repeat' first
 |(apply gNm;first|exact BI _|(apply DB<;>first|assumption|rfl)|(apply DA<;>first|assumption|rfl)|(apply Dz<;>first|assumption|rfl)|apply Ds)
 |(apply gCo;first|exact BZ|exact BM|exact DE|exact BQ)
 |(apply gJA;first|exact B6|apply Eg)
 |(apply gJZ;first|exact yZ|apply wE|apply yY)
 |(apply gJS;first|apply By|apply Bx hN|apply Dn|apply y6|apply Do|apply wF hu|apply uv hu6|apply Dr|exact BB)
 |(apply gJT;first|apply Eb|apply Bv|apply Dm|refine Ag (wz ?_ ?_)|refine Ag (Ae ?_ ?_)|apply Bu)
 |(apply gJW;first|apply wz|apply yU|apply Ae|apply Bs)
 |(apply gCl;first|apply wI|apply q9|apply rf|apply BV|apply Ee|apply uz|apply zk|apply wJ|apply zh|apply wH|apply zm|apply zg|apply B5|apply BY|apply BK|apply zi|apply uy|apply zf|apply Ec|apply Dv|apply zn hu|exact Du (by assumption) (by assumption) (by assumption) (by assumption) (by assumption) (hr.mono (by omega)))
 |(apply gBi;first|apply wI|apply q9|apply rf|apply B4|apply BT|apply zo|apply BL|apply BS|apply BO)
 |(apply gSu;first|apply Ed|apply Dy|apply BN|apply Dt)
 |(apply gJE;first|apply wI|apply q9|apply rf|apply BJ|apply Ef|apply B3|apply BP|apply wL|apply BR|apply Dw|apply DC|exact wN|exact wO _)
 |(apply gJF;first|apply BF|apply BH|apply ze)
 |(apply gJI;first|apply zc|apply BE|apply ux|apply uw|apply BD _ _|apply zb _ _|apply zd|apply wG)
 |(apply gJO;first|apply y7|exact y8)
 |apply qS
 |apply gA
 |apply y9
 |exact nk
 |exact za
 |exact ym rfl
 |exact Dk rfl
 |exact hu
 |exact hu6
 |assumption
 |exact d5 _
 |rfl
 |exact DW hu6
 |exact DP hu6
 |exact DR
 |exact DS
 |exact DU
 |exact DV
 |exact DT hu
 |exact DO hu
 |exact Ct
 |exact zQ
 |exact Cu
 |exact zR
 |exact cr (by assumption) (hr.mono (by omega))
 |exact cs (by assumption) (by assumption) (by assumption) (hr.mono (by omega))
 |exact⟨_,by assumption,by assumption,by assumption⟩
 |exact⟨99,_,d9 99 _ (by decide),bY hN rfl (by first|exact Or.inl rfl|exact Or.inr rfl)⟩
 |exact⟨99,_,qt 99 _ (by decide),by and_intros⟩
 |exact bY hN rfl (by first|exact Or.inl rfl|exact Or.inr rfl)
 |exact IT.never
 |exact PyProof.Rows.boot_int
 |exact PyProof.Rows.boot_bool
 |exact Or.inl rfl
 |exact Or.inr rfl
 |exact fun _=>rfl
 |exact⟨rfl,rfl,rfl,rfl⟩
 |with_unfolding_all rfl
 |decide)
set_option hygiene false in
local macro_rules | `(tactic| ac_rfl) => `(tactic| (intro _ _ _ _ _ _ _ hr hu hu6 hN; and_intros))
def Og (K:PySem.W.Frag):Sp:=fun vs H Q _=> ∃ (a:Ig) (ns:List Int),vs=[.ref a]/\SqL K H a (ns.map V.int)/\ns.length<=63/\ ∀H',Q (.bl true) H'
theorem oQ {K:PySem.W.Frag}{o:Wo}: ∀ns:List Int,Rvs K o (ns.map W.int) (ns.map V.int)
 |[]=>Rvs.nil
 |n::r=>Rvs.cons (Nx.mpr rfl) (oQ r)
theorem LL {P:Ib}{w:Ic}{K:PySem.W.Frag}{mg:Str->Option H0}{base:Ie}{f:Ig}{fd:Je}(C:CG P w K mg base 68 "law" f fd ["script"] 1 pP):FnOk P w K mg base CX0 68 f fd ["script"] (Og K):=
 C.ok.imp fun vs H Q E h=>by
  obtain⟨a,ns,rfl,sq,hn,q⟩:=h
  have nl: ¬Lv ⟨fun _=>0,[],H⟩ a:=fun⟨k,b,hk,_⟩=>by simp at hk
  refine⟨⟨fun _=>0,[],H⟩,[.cl (ns.map W.int)],rfl,rfl,⟨fun k b hk=>by simp at hk,fun j k b c hj=>by simp at hj⟩,Rvs.cons ?_ Rvs.nil,?_⟩
  ·unfold Rv
   exact⟨a,_,rfl,sq.imp (fun r=>⟨r,nl⟩) id,oQ ns⟩
  ·obtain⟨h',e⟩:=LM ns []
   show Ps _ _ _ (pP [.cl (ns.map W.int)] []) Q
   rw[e]
   intro p b _ _ _ rb
   rw[Nv.mp rb]
   exact q _
structure Fa (K:PySem.W.Frag)(mg:Str->Option H0)(CS CN c_Reading:Ig):Prop where
 n_Reading:HZ K IC "Reading"=some (some (.ref c_Reading))
 D_names_in:Dq K mg "names_in" qD
 D_name_of:Dq K mg "name_of" t4
 D_number_of:Dq K mg "number_of" oK
 D_condition_of:Dq K mg "condition_of" kr
 D_form_of:Dq K mg "form_of" lX
 D_boxes_named:Dq K mg "boxes_named" lH
 D_place_of:Dq K mg "place_of" qC
 D_end_by_places:Dq K mg "end_by_places" gf
 D_Reading___init__:Dqm K "__init__" c_Reading "Reading.__init__" io
 D_Reading_in_block:Dqm K "in_block" c_Reading "Reading.in_block" im
 D_Reading_box_names:Dqm K "box_names" c_Reading "Reading.box_names" dM
 D_Reading_check_place:Dqm K "check_place" c_Reading "Reading.check_place" gj
 D_Reading_check_twice:Dqm K "check_twice" c_Reading "Reading.check_twice" gh
 D_Reading_check_room:Dqm K "check_room" c_Reading "Reading.check_room" gv
 D_Reading_check_boxes:Dqm K "check_boxes" c_Reading "Reading.check_boxes" gm
 D_Reading_put_down:Dqm K "put_down" c_Reading "Reading.put_down" ij
 D_Reading_take:Dqm K "take" c_Reading "Reading.take" ku
 D_Reading_told_program:Dqm K "told_program" c_Reading "Reading.told_program" ft
 D_read:Dq K mg "read" AH
 D_sides_of:Dq K mg "sides_of" qB
 D_ways:Dq K mg "ways" AG
 D_gains:Dq K mg "gains" yp
 D_cost:Dq K mg "cost" vJ
 D_block_sets:Dq K mg "block_sets" iM
 D_without:Dq K mg "without" lW
 D_best_tail:Dq K mg "best_tail" oP
 D_best:Dq K mg "best" AI
 D_can_be_neighbours:Dq K mg "can_be_neighbours" hV
 D_with_count:Dq K mg "with_count" iJ
 D_turning:Dq K mg "turning" tZ
 D_law_cell_at:Dq K mg "_law_cell_at" lG
 D_law_numbers:Dq K mg "_law_numbers" lE
 D_law_names:Dq K mg "_law_names" oN
 D_law_word:Dq K mg "_law_word" qE
 D_law_statement:Dq K mg "_law_statement" jK
 D_law_end:Dq K mg "_law_end" t7
 D_law_text:Dq K mg "_law_text" qF
 D_law_orders:Dq K mg "_law_orders" iK
 D_law_gains:Dq K mg "_law_gains" oO
 D_law_cost:Dq K mg "_law_cost" qG
 D_law_counted:Dq K mg "_law_counted" lF
 D_law_beside:Dq K mg "_law_beside" iL
 D_law_right:Dq K mg "_law_right" oM
 D_law:Dq K mg "law" CY
 cl_Reading:Cls K c_Reading
 mk_Reading:makesIn K c_Reading=true
 kc_Reading:HX K (.ref c_Reading)=true
 na_Reading_block_names:HV K (.ref c_Reading) "block_names"=some none
 na_Reading_boxes:HV K (.ref c_Reading) "boxes"=some none
 na_Reading_ended_blocks:HV K (.ref c_Reading) "ended_blocks"=some none
 na_Reading_statements:HV K (.ref c_Reading) "statements"=some none
 kp:iI K=true
 g_CONDITION_SIGNS:Gt K mg "CONDITION_SIGNS" ["<", "="]
 g_STATEMENTS:Gt K mg "STATEMENTS" ["put", "say", "ask"]
 h_MOST_BLOCKS:Gi mg "MOST_BLOCKS" 10
 h_MOST_BOXES:Gi mg "MOST_BOXES" 4
 h_MOST_IN_TABLE:Gi mg "MOST_IN_TABLE" 6
 h_MOST_ROWS:Gi mg "MOST_ROWS" 120
 h_MOST_STATEMENTS:Gi mg "MOST_STATEMENTS" 8
 aS:HZ K IC "Signs"=some (some (.ref CS))
 aN:HZ K IC "NoRow"=some (some (.ref CN))
 xN:PySem.W.excIn K CN Kd "ValueError.__new__"=true
 aL:Gs mg "LETTERS" "abcdefghijklmnopqrstuvwxyz"
 aF:Gs mg "FIGURES" "0123456789"
 aW:Gt K mg "TAKEN_WORDS" ["box", "block", "put", "say", "ask", "go", "if", "else", "table", "stop"]
 n0:Gi mg "LONGEST_NAME" 8
 n1:Gi mg "LONGEST_NUMBER" 3
 n2:Gi mg "LONGEST_EXPRESSION" 60
 n3:Gi mg "DEEPEST_BRACKET" 5
 W_Sinit:Dqm K "__init__" CS "Signs.__init__" qI
 W_Sis_done:Dqm K "is_done" CS "Signs.is_done" qJ
 W_Sstands_one_of:Dqm K "stands_one_of" CS "Signs.stands_one_of" ky
 W_Stake_sign:Dqm K "take_sign" CS "Signs.take_sign" qH
 W_Srun_of:Dqm K "run_of" CS "Signs.run_of" NI
 W_is_name:Dq K mg "is_name" jR
 W_is_number:Dq K mg "is_number" mV
 W_expression:Dq K mg "expression" ND
 W_read_terms:Dq K mg "read_terms" mU
 W_read_factors:Dq K mg "read_factors" iN
 W_read_factor:Dq K mg "read_factor" jS
 W_read_bracket:Dq K mg "read_bracket" gx
 wc:Cls K CS
 wmk:makesIn K CS=true
 wkc:HX K (.ref CS)=true
 nW:HV K (.ref CS) "word"=some none
 nP:HV K (.ref CS) "place"=some none
 y_abs:mg "abs"=none
 y_all:mg "all"=none
 y_bool:mg "bool"=none
 y_enumerate:mg "enumerate"=none
 y_int:mg "int"=none
 y_isinstance:mg "isinstance"=none
 y_len:mg "len"=none
 y_list:mg "list"=none
 y_min:mg "min"=none
 y_range:mg "range"=none
 y_str:mg "str"=none
 y_sum:mg "sum"=none
 y_tuple:mg "tuple"=none
 y_zip:mg "zip"=none
 m_Reading:mg "Reading"=some (.ref c_Reading)
structure Wf (P:Ib)(w:Ic)(K:PySem.W.Frag)(mg:Str->Option H0)(base:Ie):Prop where
 w1:Cq P w K mg base 1 "is_name" 1 j2
 w2:Cq P w K mg base 1 "is_number" 1 nQ
 w3:Cq P w K mg base 28 "expression" 1 gK
section
variable {P:Ib}{w:Ic}{K:PySem.W.Frag}{mg:Str->Option H0}{base:Ie}{CS CN c_Reading:Ig}(S:Fa K mg CS CN c_Reading)(V:Wf P w K mg base)
include S V
theorem lx: ∀n:Nat,Cq P w K mg base (1+n) "names_in" 1 (aM n)
 |0=>okqz ["e"] 1 S.D_names_in fun _ _=>rfl
 |n+1=>by
  have:=lx n
  cases S;cases V
  exact okq (k:=1+n) (g:=cH (aM n)) ["e"] 1 (by assumption) (by intro _ _ _ _ _ _ _ hr hu hu6 hN;have hr:Room (1+n) _:=hr;and_intros)
theorem my:Cq P w K mg base 2 "name_of" 1 bM:=by
 cases S;cases V
 exact okq (g:=gY) ["word"] 1 (by assumption) (by ac_rfl)
theorem p5:Cq P w K mg base 2 "number_of" 1 eJ:=by
 cases S;cases V
 exact okq (g:=eD) ["word"] 1 (by assumption) (by ac_rfl)
theorem lA:Cq P w K mg base 29 "condition_of" 1 df:=by
 have:=my S V;cases S;cases V
 exact okq (g:=db) ["words", "sign", "left", "right"] 1 (by assumption) (by ac_rfl)
theorem uZ:Cq P w K mg base 30 "form_of" 1 g8:=by
 have:=p5 S V;have:=my S V;have:=lA S V;cases S;cases V
 exact okq (g:=g0) ["row", "words", "head", "many"] 1 (by assumption) (by ac_rfl;(have nd:((["word", ".0"]:List Str)++(["row", "words", "head", "many"]:List Str).map (hid ["word", ".0"])).Nodup:=by decide+kernel);exact dP rfl (ls:=["word", ".0"]) (.of (ae lX)) (by and_intros) (fun _ _ _ _=>(bY (i:=0) nd rfl (Or.inl rfl) (.inr rfl))) (d9 2 0 (by decide)) (fun _ _ _ _=>by and_intros) (fun _ _ _ _=>by and_intros) trivial)
theorem lM:Cq P w K mg base 64 "boxes_named" 1 aI:=by
 have:=lx S V 62;cases S;cases V
 exact okq (g:=aj) ["form"] 1 (by assumption) (by ac_rfl)
theorem rN:Cq P w K mg base 1 "place_of" 2 cV:=by
 cases S;cases V
 exact okq (g:=fQ) ["name", "block_names"] 2 (by assumption) (by ac_rfl)
theorem jN:Cq P w K mg base 2 "end_by_places" 2 bq:=by
 have:=rN S V;cases S;cases V
 exact okq (g:=aH) ["end", "block_names"] 2 (by assumption) (by ac_rfl;(have nd:((["name", ".0"]:List Str)++(["end", "block_names"]:List Str).map (hid ["name", ".0"])).Nodup:=by decide+kernel);exact dP rfl (ls:=["name", ".0"]) (.of (ae gf)) (by and_intros) (fun _ _ _ _=>(bY (i:=0) nd rfl (Or.inl rfl) (.inr rfl))) (d9 2 0 (by decide)) (fun _ _ _ _=>by and_intros) (fun _ _ _ _=>by and_intros) trivial)
theorem iC:Cqm P w K mg base 1 c_Reading "__init__" 1 ck:=by
 cases S;cases V
 exact Mz (g:=cj) ["self"] 1 (by assumption) (by ac_rfl)
theorem d7:Cqm P w K mg base 1 c_Reading "in_block" 1 bb:=by
 cases S;cases V
 exact Mz (g:=ci) ["self"] 1 (by assumption) (by ac_rfl)
theorem dO:Cqm P w K mg base 1 c_Reading "box_names" 1 br:=by
 cases S;cases V
 exact Mz (g:=bU) ["self"] 1 (by assumption) (by ac_rfl;(have nd:((["name", "first", ".0"]:List Str)++(["self"]:List Str).map (hid ["name", "first", ".0"])).Nodup:=by decide+kernel);exact dP rfl (ls:=["name", "first", ".0"]) (.of (ae dM)) (by and_intros) (fun _ _ _ _=>(qS rfl (gA (bY (i:=0) nd rfl (Or.inl rfl) (.inr rfl)) (gA (bY (i:=1) nd rfl (Or.inl rfl) (.inr rfl)) nk)))) (qt 3 [0,1] (by decide)) (fun _ _ _ _=>by and_intros) (fun _ _ _ _=>by and_intros) trivial)
theorem gq:Cqm P w K mg base 2 c_Reading "check_place" 2 av:=by
 have:=d7 S V;cases S;cases V
 exact Mz (g:=aB) ["self", "head"] 2 (by assumption) (by ac_rfl)
theorem gp:Cqm P w K mg base 2 c_Reading "check_twice" 2 au:=by
 have:=dO S V;cases S;cases V
 exact Mz (g:=aA) ["self", "form"] 2 (by assumption) (by ac_rfl)
theorem gM:Cqm P w K mg base 1 c_Reading "check_room" 2 ay:=by
 cases S;cases V
 exact Mz (g:=aC) ["self", "head"] 2 (by assumption) (by ac_rfl)
theorem gr:Cqm P w K mg base 65 c_Reading "check_boxes" 2 aY:=by
 have:=dO S V;have:=lM S V;cases S;cases V
 exact Mz (g:=bN) ["self", "form", "known", "name"] 2 (by assumption) (by ac_rfl)
theorem iB:Cqm P w K mg base 1 c_Reading "put_down" 2 ar:=by
 cases S;cases V
 exact Mz (g:=az) ["self", "form"] 2 (by assumption) (by ac_rfl)
theorem lB:Cqm P w K mg base 66 c_Reading "take" 2 dg:=by
 have:=gq S V;have:=gp S V;have:=gM S V;have:=gr S V;have:=iB S V;cases S;cases V
 exact Mz (g:=dc) ["self", "form"] 2 (by assumption) (by ac_rfl)
theorem f7:Cqm P w K mg base 3 c_Reading "told_program" 1 bz:=by
 have:=d7 S V;have:=jN S V;cases S;cases V
 exact Mz (g:=bw) ["self", "blocks", "name", "statements", "end"] 1 (by assumption) (by ac_rfl)
theorem Cy:Cq P w K mg base 67 "read" 1 lf:=by
 have:=lB S V;have:=uZ S V;have:=f7 S V;have:=iC S V;cases S;cases V
 exact okq (g:=nL) ["text", "rows", "reading", "row"] 1 (by assumption) (by ac_rfl)
theorem rM:Cq P w K mg base 1 "sides_of" 1 fY:=by
 cases S;cases V
 exact okq (g:=fL) ["end"] 1 (by assumption) (by ac_rfl)
theorem n6:Cq P w K mg base 2 "ways" 1 iz:=by
 have:=rM S V;cases S;cases V
 exact okq (g:=nK) ["program", "told", "place", "block", "side", "behind"] 1 (by assumption) (by ac_rfl)
theorem tm:Cq P w K mg base 3 "gains" 2 i6:=by
 have:=n6 S V;cases S;cases V
 exact okq (g:=jZ) ["program", "counted", "gained", "way", "count", "end", "neighbours"] 2 (by assumption) (by ac_rfl)
theorem xF:Cq P w K mg base 4 "cost" 3 iA:=by
 have:=tm S V;cases S;cases V
 exact okq (g:=nM) ["program", "order", "counted", "gained"] 3 (by assumption) (by ac_rfl;(have nd:((["neighbours", ".0"]:List Str)++(["program", "order", "counted", "gained"]:List Str).map (hid ["neighbours", ".0"])).Nodup:=by decide+kernel);exact dP rfl (ls:=["neighbours", ".0"]) (.of (ae vJ)) (by and_intros) (fun _ _ _ _=>(bY (i:=0) nd rfl (Or.inl rfl) (.inr rfl))) (d9 2 0 (by decide)) (fun _ _ _ _=>by and_intros) (fun _ _ _ _=>by and_intros) trivial)
theorem oh:Cq P w K mg base 1 "block_sets" 1 dX:=by
 cases S;cases V
 exact okq (g:=dU) ["many", "told", "place"] 1 (by assumption) (by ac_rfl;(have nd:((["blocks", ".0"]:List Str)++(["many", "told", "place"]:List Str).map (hid ["blocks", ".0"])).Nodup:=by decide+kernel);exact dP rfl (ls:=["blocks", ".0"]) (.of (ae iM)) (by and_intros) (fun _ _ _ _=>(bY (i:=0) nd rfl (Or.inl rfl) (.inr rfl))) (d9 2 0 (by decide)) (fun _ _ _ _=>by and_intros) (fun _ _ _ _=>by and_intros) trivial)
theorem uX:Cq P w K mg base 1 "without" 2 g7:=by
 cases S;cases V
 exact okq (g:=gW) ["blocks", "place"] 2 (by assumption) (by ac_rfl;(have nd:((["block", ".0"]:List Str)++(["blocks", "place"]:List Str).map (hid ["block", ".0"])).Nodup:=by decide+kernel);exact dP rfl (ls:=["block", ".0"]) (.of (ae lW)) (by and_intros) (fun _ _ _ _=>(bY (i:=0) nd rfl (Or.inl rfl) (.inr rfl))) (d9 2 0 (by decide)) (fun _ _ _ _=>by and_intros) (fun _ _ _ _=>by and_intros) trivial)
theorem p9:Cq P w K mg base 2 "best_tail" 4 eM:=by
 have:=uX S V;cases S;cases V
 exact okq (g:=eI) ["last", "rest", "gained", "tails", "found", "place", "tail", "gain"] 4 (by assumption) (by ac_rfl)
theorem xG:Cq P w K mg base 4 "best" 2 gJ:=by
 have:=tm S V;have:=oh S V;have:=p9 S V;cases S;cases V
 exact okq (g:=nN) ["program", "counted", "many", "gained", "tails", "blocks", "rest", "last"] 2 (by assumption) (by ac_rfl)
theorem hW:Cq P w K mg base 1 "can_be_neighbours" 2 bV:=by
 cases S;cases V
 exact okq (g:=bS) ["program", "way", "end"] 2 (by assumption) (by ac_rfl)
theorem nZ:Cq P w K mg base 3 "with_count" 4 de:=by
 have:=n6 S V;cases S;cases V
 exact okq (g:=dQ) ["program", "counted", "way", "count"] 4 (by assumption) (by ac_rfl;(have nd:((["other", "old", ".0"]:List Str)++(["program", "counted", "way", "count"]:List Str).map (hid ["other", "old", ".0"])).Nodup:=by decide+kernel);exact dP rfl (ls:=["other", "old", ".0"]) (.of (ae iJ)) (by and_intros) (fun _ _ _ _=>(qS rfl (gA (bY (i:=0) nd rfl (Or.inl rfl) (.inr rfl)) (gA (bY (i:=1) nd rfl (Or.inl rfl) (.inr rfl)) nk)))) (qt 3 [0,1] (by decide)) (fun _ _ _ _=>by and_intros) (fun _ _ _ _=>by and_intros) trivial)
theorem mw:Cq P w K mg base 5 "turning" 3 fg:=by
 have:=hW S V;have:=nZ S V;have:=xG S V;have:=xF S V;cases S;cases V
 exact okq (g:=gX) ["program", "counted", "way", "at_nought", "at_most", "neighbours"] 3 (by assumption) (by ac_rfl)
theorem ig:Cq P w K mg base 1 "_law_cell_at" 2 bL:=by
 cases S;cases V
 exact okq (g:=dA) ["script", "k"] 2 (by assumption) (by ac_rfl)
theorem hZ:Cq P w K mg base 1 "_law_numbers" 2 bK:=by
 cases S;cases V
 exact okq (g:=dy) ["cell", "many", "found", "rest", "k", "one"] 2 (by assumption) (by ac_rfl)
theorem p7:Cq P w K mg base 1 "_law_names" 1 dE:=by
 cases S;cases V
 exact okq (g:=eF) ["head", "some", "more"] 1 (by assumption) (by ac_rfl)
theorem ly:Cq P w K mg base 1 "_law_word" 1 cI:=by
 cases S;cases V
 exact okq (g:=fU) ["numbers", "one", "more", "some"] 1 (by assumption) (by ac_rfl)
theorem jM:Cq P w K mg base 2 "_law_statement" 1 bj:=by
 have:=ly S V;cases S;cases V
 exact okq (g:=cR) ["numbers", "kind"] 1 (by assumption) (by ac_rfl)
theorem uY:Cq P w K mg base 2 "_law_end" 2 fj:=by
 have:=ly S V;cases S;cases V
 exact okq (g:=gZ) ["numbers", "names", "one", "other", "kind", "word", "sign", "test"] 2 (by assumption) (by ac_rfl)
theorem rO:Cq P w K mg base 3 "_law_text" 2 fZ:=by
 have:=hZ S V;have:=ig S V;have:=p7 S V;have:=jM S V;have:=uY S V;cases S;cases V
 exact okq (g:=fV) ["script", "most", "head", "names", "rows", "k", "numbers"] 2 (by assumption) (by ac_rfl)
theorem n9:Cq P w K mg base 1 "_law_orders" 1 dW:=by
 cases S;cases V
 exact okq (g:=dR) ["many", "found", "k", "wider", "one"] 1 (by assumption) (by ac_rfl;(have nd:((["place", ".0"]:List Str)++(["many", "found", "k", "wider", "one"]:List Str).map (hid ["place", ".0"])).Nodup:=by decide+kernel);exact dP rfl (ls:=["place", ".0"]) (.of (ae iK)) (by and_intros) (fun _ _ _ _=>(bY (i:=0) nd rfl (Or.inl rfl) (.inr rfl))) (d9 2 0 (by decide)) (fun _ _ _ _=>by and_intros) (fun _ _ _ _=>by and_intros) trivial)
theorem p8:Cq P w K mg base 3 "_law_gains" 2 cX:=by
 have:=n6 S V;cases S;cases V
 exact okq (g:=eG) ["program", "counted", "gains_v", "way", "count"] 2 (by assumption) (by ac_rfl)
theorem rP:Cq P w K mg base 1 "_law_cost" 3 cJ:=by
 cases S;cases V
 exact okq (g:=fX) ["counted", "gains_v", "order", "saved", "k"] 3 (by assumption) (by ac_rfl)
theorem lK:Cq P w K mg base 2 "_law_counted" 3 dB:=by
 have:=hZ S V;have:=ig S V;cases S;cases V
 exact okq (g:=dz) ["script", "at", "some", "numbers", "found", "k"] 3 (by assumption) (by ac_rfl)
theorem og:Cq P w K mg base 5 "_law_beside" 4 cL:=by
 have:=p8 S V;have:=rP S V;have:=xG S V;have:=xF S V;cases S;cases V
 exact okq (g:=dS) ["program", "counted", "orders", "way", "gains_v", "least", "found", "order", "at"] 4 (by assumption) (by ac_rfl;(have nd:((["order", ".0"]:List Str)++(["program", "counted", "orders", "way", "gains_v", "least", "found", "order", "at"]:List Str).map (hid ["order", ".0"])).Nodup:=by decide+kernel);exact dP rfl (ls:=["order", ".0"]) (.of (ae iL)) (by and_intros) (fun _ _ _ _=>(bY (i:=0) nd rfl (Or.inl rfl) (.inr rfl))) (d9 2 0 (by decide)) (fun _ _ _ _=>by and_intros) (fun _ _ _ _=>by and_intros) trivial)
theorem p6:Cq P w K mg base 6 "_law_right" 5 eK:=by
 have:=mw S V;have:=og S V;cases S;cases V
 exact okq (g:=eE) ["program", "counted", "orders", "some", "k", "told"] 5 (by assumption) (by ac_rfl)
end
theorem all_mk {l:PySem.W.OpenLaw}{w:Ic}{K:PySem.W.Frag}{h:Ie}{mg:Str->Option H0}{fa CS CN c_Reading:Ig}(X:K.In h)(G:h.Ns IC mg)(hfa:mg "law"=some (.ref fa))(S:Fa K mg CS CN c_Reading):
  ∃fd:Je,(∀ (s:Ii) (v:H0),BindsTo s fd ⟨[v],[]⟩ [("script",v)])/\ ∀base:Ie,K.In base->base.Ns IC mg->FnOk l.prog w K mg base CX0 68 fa fd ["script"] (Og K):=by
 obtain⟨_,d,FL,ML⟩:=S.D_law
 cases hfa.symm.trans ML
 have T:Txt K mg CS CN:=⟨S.wc,S.nW,S.nP,mg_of X G S.aS,mg_of X G S.aN,S.xN,S.y_len,S.y_all,S.y_int,S.aL,S.aF,S.aW,S.n0,S.n1,S.n2,S.n3⟩
 obtain⟨_,_,F_Sinit,M_Sinit⟩:=S.W_Sinit
 have B_Sinit:=F_Sinit.binds (ps:=["self", "word"]) fun _ _ _ _ _ _ us hl=>by obtain⟨_,_,rfl⟩:=ln2 hl;rfl
 obtain⟨_,_,F_Sis_done,M_Sis_done⟩:=S.W_Sis_done
 have B_Sis_done:=F_Sis_done.binds (ps:=["self"]) fun _ _ _ _ _ _ us hl=>by obtain⟨_,rfl⟩:=ln1 hl;rfl
 obtain⟨_,_,F_Sstands_one_of,M_Sstands_one_of⟩:=S.W_Sstands_one_of
 have B_Sstands_one_of:=F_Sstands_one_of.binds (ps:=["self", "wanted"]) fun _ _ _ _ _ _ us hl=>by obtain⟨_,_,rfl⟩:=ln2 hl;rfl
 obtain⟨_,_,F_Stake_sign,M_Stake_sign⟩:=S.W_Stake_sign
 have B_Stake_sign:=F_Stake_sign.binds (ps:=["self"]) fun _ _ _ _ _ _ us hl=>by obtain⟨_,rfl⟩:=ln1 hl;rfl
 obtain⟨_,_,F_Srun_of,M_Srun_of⟩:=S.W_Srun_of
 have B_Srun_of:=F_Srun_of.binds (ps:=["self", "wanted"]) fun _ _ _ _ _ _ us hl=>by obtain⟨_,_,rfl⟩:=ln2 hl;rfl
 obtain⟨_,_,F_is_name,M_is_name⟩:=S.W_is_name
 have B_is_name:=F_is_name.binds (ps:=["word"]) fun _ _ _ _ _ _ us hl=>by obtain⟨_,rfl⟩:=ln1 hl;rfl
 obtain⟨_,_,F_is_number,M_is_number⟩:=S.W_is_number
 have B_is_number:=F_is_number.binds (ps:=["word"]) fun _ _ _ _ _ _ us hl=>by obtain⟨_,rfl⟩:=ln1 hl;rfl
 obtain⟨_,_,F_expression,M_expression⟩:=S.W_expression
 have B_expression:=F_expression.binds (ps:=["word"]) fun _ _ _ _ _ _ us hl=>by obtain⟨_,rfl⟩:=ln1 hl;rfl
 obtain⟨_,_,F_read_terms,M_read_terms⟩:=S.W_read_terms
 have B_read_terms:=F_read_terms.binds (ps:=["signs", "depth"]) fun _ _ _ _ _ _ us hl=>by obtain⟨_,_,rfl⟩:=ln2 hl;rfl
 obtain⟨_,_,F_read_factors,M_read_factors⟩:=S.W_read_factors
 have B_read_factors:=F_read_factors.binds (ps:=["signs", "depth"]) fun _ _ _ _ _ _ us hl=>by obtain⟨_,_,rfl⟩:=ln2 hl;rfl
 obtain⟨_,_,F_read_factor,M_read_factor⟩:=S.W_read_factor
 have B_read_factor:=F_read_factor.binds (ps:=["signs", "depth"]) fun _ _ _ _ _ _ us hl=>by obtain⟨_,_,rfl⟩:=ln2 hl;rfl
 obtain⟨_,_,F_read_bracket,M_read_bracket⟩:=S.W_read_bracket
 have B_read_bracket:=F_read_bracket.binds (ps:=["signs", "depth"]) fun _ _ _ _ _ _ us hl=>by obtain⟨_,_,rfl⟩:=ln2 hl;rfl
 obtain⟨oc,od,kV,doc,pm,an,cdv,ct,osl,ed,lk,hcd⟩:=FL.ex
 refine⟨d,fun s v=>by rw[ed];exact .of_eq rfl,fun base _ _=>?_⟩
 have MD:CM l.prog w K mg base CX0 1 CS "is_done" _ _ ["self"] (mQ CS):=⟨yR F_Sis_done T,B_Sis_done,M_Sis_done⟩
 have MS:CM l.prog w K mg base CX0 2 CS "stands_one_of" _ _ ["self", "wanted"] (dC CS):=⟨uj F_Sstands_one_of T MD,B_Sstands_one_of,M_Sstands_one_of⟩
 have MT:CM l.prog w K mg base CX0 1 CS "take_sign" _ _ ["self"] (jm CS):=⟨yL F_Stake_sign T,B_Stake_sign,M_Stake_sign⟩
 have MR:CM l.prog w K mg base CX0 3 CS "run_of" _ _ ["self", "wanted"] (Oj CS):=⟨Bl F_Srun_of T MS,B_Srun_of,M_Srun_of⟩
 have CNm:CF l.prog w K mg base CX0 1 "is_name" _ _ ["word"] km:=⟨yN F_is_name T,B_is_name,F_is_name.kp,M_is_name⟩
 have CNu:CF l.prog w K mg base CX0 1 "is_number" _ _ ["word"] Oi:=⟨Bm F_is_number T,B_is_number,F_is_number.kp,M_is_number⟩
 have RT:=sf T F_read_terms B_read_terms M_read_terms F_read_factors B_read_factors M_read_factors F_read_factor B_read_factor M_read_factor F_read_bracket B_read_bracket M_read_bracket MS MT MR CNm CNu 5 (by decide)
 have CE:CF l.prog w K mg base (CXx l.prog w) 28 "expression" _ _ ["word"] (qA CN):=⟨yQ (by decide) F_expression T RT ⟨S.wmk,M_Sinit.at_,M_Sinit.fn,S.wkc⟩ (wf F_Sinit T) B_Sinit MD,B_expression,F_expression.kp,M_expression⟩
 have V:Wf l.prog w K mg base:=⟨⟨_,_,_,uU CNm⟩,⟨_,_,_,xA CNu⟩,⟨_,_,_,zS CE⟩⟩
 clear T MD MS MT MR CNm CNu RT CE
 have:=Cy S V;have:=rO S V;have:=n6 S V;have:=lK S V;have:=n9 S V;have:=mw S V;have:=p6 S V;cases S;cases V
 exact LL (okf (g:=sP) ["script", "program", "some", "counted", "orders", "k", "end"] 1 FL ML (by intro _ _ _ _ _ _ hr hu hu6 hN;and_intros))
theorem walk {l:PySem.W.OpenLaw}{q:Ib}{loose:List Str}{XP:(Str->Option H0)->Ie->Prop}{YP:Ic->Ie->Prop}{d:DefRec}{K:Params->PySem.W.Frag}(hn:l.most=some 63)(hdf:d.params.defaults=[])
  (hY: ∀ (w:Ic) (h:Ie),YP w h->(K w.params).In h)
  (F:∀ (w:Ic) (mg:Str->Option H0) (fa:Ig) (h:Ie),(K w.params).In h->h.Ns IC mg->mg d.name=some (.ref fa)->
    ∃fd:Je,(∀ (s:Ii) (u:H0),BindsTo s fd ⟨[u],[]⟩ [("script",u)])/\ ∀base:Ie,(K w.params).In base->base.Ns IC mg->FnOk l.prog w (K w.params) mg base CX0 68 fa fd ["script"] (Og (K w.params))):
  PySem.W.WalkO q loose XP YP l.row.toRowW d [] (fun f vs=>PySem.call f vs):=
 L2.walk_of (n:=63) (k:=68) (x:= "script") (CX:=fun _=>CX0) (sp:=fun w=>Og (K w.params)) hn (by decide) hdf ⟨rfl,by decide,by decide⟩ hY F (fun _ _ a ns hl _ hS=>⟨a,ns,rfl,hS,hl,fun _=>rfl⟩) fun _ _ _ _ _ z=>z
theorem walk_x {q:Ib}{loose:List Str}{XP:(Str->Option H0)->Ie->Prop}{K:Params->PySem.W.Frag}{as:List Ig}{n t:Nat}{r:PySem.W.RowW}{d:DefRec}{kwd:List (Str×Expr)}{run:H0->List H0->Sem H0}(e:∀P,as=(K P).map (·.1))
  (W:PySem.W.WalkO q loose XP (fun w h=>(K w.params).In h) r d kwd run):PySem.W.WalkX q loose XP (PySem.W.X.obsZ as) (PySem.W.X.valZ K n t) r d kwd run:=
 fun w s₀ s₁ mg mb G y a o pm cd doc dV kV ho hd hcd hD hmg hg args vals bs L hpre hlay hrd hwl hlo=>
  W w s₀ s₁ mg mb G (PySem.W.InK.keeps w _ _ (PySem.W.X.z_facts e y).2.1 L.keeps) a o pm cd doc dV kV ho hd hcd hD hmg hg args vals bs hpre hlay hrd hwl hlo
end Q
def PySem.W.Fast.tw9833422853049117433:=0
def PySem.W.Fast.tw9556622211022812548:=0
def PySem.W.Fast.tw9074683354293770252:=0
def PySem.W.Fast.tw3276177813571378361:=0
def PySem.W.Fast.tw3352697164168942032:=0
def PySem.W.Fast.tw7771978353299066678:=0
def PySem.W.Fast.tw13888110701475143982:=0
def PySem.W.Fast.tw17328311421610580275:=0
def PySem.W.Fast.tw10060496770171090089:=0
def PySem.W.Fast.tw11618674281719549649:=0
def PySem.W.Fast.tw14747786282675261383:=0
def PySem.W.Fast.tw8904943272700666420:=0
def PySem.W.Fast.tw13635584591721549754:=0
def PySem.W.Fast.tw1107060265936611018:=0
def PySem.W.Fast.tw12968789594445044817:=0
def PySem.W.Fast.tw2758200778434615151:=0
def PySem.W.Fast.tw9991592670702572812:=0
def PySem.W.Fast.tw8648120871848711033:=0
def PySem.W.Fast.tw16695118684813588040:=0
def PySem.W.Fast.tw7326267677790888898:=0
def PySem.W.Fast.tw12172325594303902887:=0
def PySem.W.Fast.tw4297461740663973179:=0
def PySem.W.Fast.tw6339499786242593789:=0
def PySem.W.Fast.tw13244122134063006659:=0
def PySem.W.Fast.tw10168823232769517074:=0
def PySem.W.Fast.tw12837756107890333763:=0
def PySem.W.Fast.tw275534012638073766:=0
def PySem.W.Fast.tw9124021086945039534:=0
def PySem.W.Fast.tw1133004530908180912:=0
def PySem.W.Fast.tw14652049988772669844:=0
def PySem.W.Fast.tw17353387869430105333:=0
def PySem.W.Fast.tw11393402318837425092:=0
def PySem.W.Fast.tw134151270234882477:=0
def PySem.W.Fast.tw13854071919600395094:=0
def PySem.W.Fast.tw15436630763650068615:=0
def PySem.W.Fast.tw5655807465691071905:=0
def PySem.W.Fast.tw1723807314342363724:=0
def PySem.W.Fast.tw4294696124938861072:=0
def PySem.W.Fast.tw6197246312431418669:=0
def PySem.W.Fast.tw15412201801002428874:=0
def PySem.W.Fast.tw17178780264833914450:=0
def PySem.W.Fast.tw10105731011118367987:=0
def PySem.W.Fast.tw4233883253475226382:=0
def PySem.W.Fast.tw2815738668647210510:=0
def PySem.W.Fast.tw2385860193998295644:=0
def PySem.W.Fast.tw7363295803771614044:=0
def PySem.W.Fast.tw12228207914515695930:=0
def PySem.W.Fast.tw18008181769027219379:=0
def PySem.W.Fast.tw16780312846417017980:=0
def PySem.W.Fast.tw5131180570694245085:=0
def PySem.W.Fast.tw9170954092963966800:=0
def PySem.W.Fast.tw12768581219413507350:=0
def PySem.W.Fast.tw17624375914803876142:=0
def PySem.W.Fast.tw7877735280155095152:=0
def PySem.W.Fast.tw10384296615084017838:=0
def PySem.W.Fast.tw1336911846106330834:=0
def PySem.W.Fast.tw5592205195955632693:=0
def PySem.W.Fast.tw5472262286373070783:=0
def PySem.W.Fast.tw5514534651992980910:=0
def PySem.W.Fast.tw10221325342727137999:=0
def PySem.W.Fast.tw2118824039568234058:=0
def PySem.W.Fast.tw5060499770719066773:=0
def PySem.W.Fast.tw2747377550698018145:=0
def PySem.W.Fast.tw8240208813939769462:=0
def PySem.W.Fast.tw14060470178264167429:=0
def PySem.W.Fast.tw2443246291698604338:=0
def PySem.W.Fast.tw11049271338889614051:=0
def PySem.W.Fast.tw15637817755717476077:=0
def PySem.W.Fast.tw17026385653863669812:=0
def PySem.W.Fast.tw9608045329523377829:=0
def PySem.W.Fast.tw3975901422504750781:=0
def PySem.W.Fast.tw11729422425163852162:=0
def PySem.W.Fast.tw13042685392733773969:=0
def PySem.W.Fast.tw11226897199787972617:=0
def PySem.W.Fast.tw15400168818659736159:=0
def PySem.W.Fast.tw10221066544990212159:=0
def PySem.W.Fast.tw6871935836559992934:=0
def PySem.W.Fast.tw6929066541312026941:=0
def PySem.W.Fast.tw12608600812676307111:=0
def PySem.W.Fast.tw12665791426134261273:=0
def PySem.W.Fast.tw14349578632252446084:=0
def PySem.W.Fast.tw1013246166194272512:=0
def PySem.W.Fast.tw15492586337650635318:=0
def PySem.W.Fast.tw7705085889454715506:=0
def PySem.W.Fast.tw5985334511593332722:=0
def PySem.W.Fast.tw332290682811188787:=0
def PySem.W.Fast.tw8322685558479957151:=0
def PySem.W.Fast.tw8299780603751722598:=0
def PySem.W.Fast.tw15046949941319223800:=0
def PySem.W.Fast.tw4775402139444525616:=0
def PySem.W.Fast.tw11572220017890845796:=0
def PySem.W.Fast.tw8523093730064535795:=0
def PySem.W.Fast.tw10757873623810114299:=0
def PySem.W.Fast.tw4052645364109805044:=0
def PySem.W.Fast.tw2751425445993631473:=0
def PySem.W.Fast.tw5692741856567022468:=0
def PySem.W.Fast.tw12827288198902286254:=0
def PySem.W.Fast.tw5246214975695423176:=0
def PySem.W.Fast.tw2787684495312961321:=0
def PySem.W.Fast.tw6318348438657759472:=0
def PySem.W.Fast.tw3755984371741645716:=0
def PySem.W.Fast.tw4730085621298412507:=0
def PySem.W.Fast.tw16718790690738561899:=0
def PySem.W.Fast.tw14803169573756413420:=0
def PySem.W.Fast.tw9725381893822546304:=0
def PySem.W.Fast.tw6616212956798903288:=0
def PySem.W.Fast.tw14896725240602875756:=0
def PySem.W.Fast.tw8354233568025851590:=0
def PySem.W.Fast.tw15567169841610370854:=0
def PySem.W.Fast.tw6440619625121219077:=0
open PySem PySem.W PyProof.Rows
set_option maxRecDepth 100000 in
set_option maxHeartbeats 0 in
theorem PySem.Challenge.cw_blockfall_k49_whole_turning_counts_holds : PySem.Challenge.rw_blockfall_k49_whole_turning_counts.Holds := by
 w_on;o_law;z_head;(case hw=>w_witness2)
 k_fill
 refine Q.walk_x (fun _=>by kernel_rfl) (Q.walk (l:=PySem.Challenge.rw_blockfall_k49_whole_turning_counts) rfl rfl (fun w h Y=>Y) ?F)
 case F=>
  intro w mg fa h KX G hmg
  apply Q.all_mk KX G hmg
  constructor
  all_goals try first|(apply L2.dq KX G<;>k_is)|(apply L2.dqm<;>k_is)|(apply L2.gi KX G;k_is)|(apply L2.gs KX G;k_is)|(apply L2.gn KX G;k_is)|(apply L2.gt KX G<;>first|k_is|exact⟨rfl,rfl,by decide⟩)|(apply L2.Cls.mk<;>k_is)|(apply mg_of KX G;k_is)|k_is|k_exc|rfl|kernel_rfl|decide+kernel
#print axioms PySem.Challenge.cw_blockfall_k49_whole_turning_counts_holds
