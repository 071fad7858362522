import PyProof.Rows.All
import Wide.All
import OpenK.AllK
import Wide.FinOn
import Lean
import PyProof.EqAt
import PyProof.EqKinds
import PyProof.TupleCall
import PyProof.ZipIter
import PySem.Challenge.RW_blockfall_k07_rows_of_no_form
set_option bootstrap.genMatcherCode false
set_option genSizeOf false
set_option genSizeOfSpec false
set_option Elab.async false
set_option linter.all false
set_option maxRecDepth 100000
set_option maxHeartbeats 4000000
noncomputable section
open PySem.W (makesIn fnOf codeIn excIn kitOne)
open List renaming length_map->Dh,length_cons->Di,map_cons->Dj,length_append->Dk,map_nil->Dm,getElem?_set_ne->Do,mem_cons->Dp,map_append->Dr,mem_cons_self->Dt,size_toArray->Du,mem_cons_of_mem->Dz,getElem?_map->DA,all_eq_true->DC,mem_append->DE,length_take->DH,mem_singleton->DI,getElem?_eq_some_iff->DK,append_assoc->DL,append_nil->DM,length_set->DN,not_mem_nil->DO,length_singleton->DP,getElem?_eq_getElem->DR,getElem?_append_left->DS,length_drop->DT,nil_append->DU,mem_map->DV,mem_append_right->DW,cons_append->DY,mem_of_getElem?->Ea,mem_of_mem_take->Eb,take_length->Ed,take_succ->Ee,filterMap_cons->Ef,lookup_cons->Eg,map_take->Eh,getElem?_append_right->Ei,length_replicate->Ej,drop_zero->Ek,map_map->El,getElem?_set_self->Eo,lookup->Er,all_cons->Es,mem_append_left->Eu,replicate_succ->Ev,length_nil->Ew,sum_cons->Ey,getElem?_cons_succ->Ez,mem_of_mem_drop->EA,flatten_cons->EB,find?_cons->EC,take_of_length_le->ED,drop_eq_nil_iff->EH,head?->EI,head?_drop->EJ,head?_cons->EK,tail_drop->EL,mem_filter->EM,nodup_cons->ES,any_cons->EU,drop_eq_getElem_cons->EX,getD_eq_getElem?_getD->EY,set_cons_zero->E2,set_cons_succ->E3,getElem?_cons_zero->E4,length_pos_iff->E8,map_drop->E9,of_mem_zip->Ff,getElem?_replicate->Fg,take_sublist->Fh,getElem?_drop->Fi,filter_cons_of_pos->Fk,filter_cons_of_neg->Fm,mem_range'_1->Fs,takeWhile_cons->Ft,foldl_append->Fu,filter_eq_self->Fv,nodup_append->Fw,getElem_mem->Fx,filter_nil->Fy,getElem?_eq_none_iff->Fz,mem_filterMap->FE,foldl->FH,foldl_cons->FI,take_zero->FQ,map_congr_left->FR,any_eq_true->FS,findIdx?_eq_some_iff_getElem->FU,all_map->FV,suffix_refl->FW,all_append->FZ,take_append_drop->F4,length_filterMap_le->F9,getElem?_toArray->Gb,drop_set_of_lt->Gf,getElem_toArray->Gh,drop_of_length_le->Gj,dropWhile_suffix->Gk,drop_eq_nil_of_le->Gm,takeWhile_append_dropWhile->Gn,dropWhile_cons->Gp,all_eq_false->Gq,flatMap_cons->Gr,filter_append->Gu
open Nat renaming le_refl->Dl,lt_of_lt_of_le->Dv,ne_of_lt->Dw,le_trans->Dy,zero_le->DB,lt_of_le_of_lt->Ec,lt_irrefl->Em,le_of_lt->EN,le_of_eq->ER,sub_self->EV,not_lt_zero->EZ,lt_succ_self->Fc,le_succ->Fe,log2_lt->Fj,ne_of_gt->FD,add_comm->FJ,mul_succ->FY,pow_le_pow_right->F2
open PySem.Heap renaming lt_size->Dn,get?_push_of_some->DF,get?_push_size->D0,SameBut->En,FlyingW->EE,get?_update_other->ET,size_push->Fb,MadeExcOf->FO,get?_update_self->F8
open Bool renaming false_ne_true->Ds,and_eq_true->Dx,and_false->DZ,eq_iff_iff->Ep,eq_false_iff->Et,false_and->EQ,or_eq_false_iff->EW,false_eq_true->E5,not_true->E6,not_false->E7,true_and->FX,not_eq_true'->Ga
open Int renaming emod_nonneg->DG,emod_lt_of_pos->DJ,fdiv_eq_ediv_of_nonneg->F6,toNat_of_nonneg->Gv
open Option renaming map_eq_some_iff->DX,getD_none->FG,isSome_map->FK,getD_some->FP,isSome_iff_exists->F7
open Array renaming length_toList->EO,getElem?_eq_some_iff->Fp,append_assoc->FC,size_append->Gd,toList_append->Gg
open PySem.W renaming instObj->Gw,emptyDict->Gy,keepIn->Gz,nsIn->GA,mg_of->GB
open PySem renaming Value->GC,Builtin->GD,Program->GE,World->GF,Heap->GG,Addr->GH,Shared->GJ,Obj->GK,Around->GL,cLine->GM,wpAny->GN,model->GO,wpAny_bind->GP,wpAny_pure->GQ,wpAny_holding->GR,wpAny_truthy_bool->GT,sysModules->GU,tupleKind->GV,mainGlobals->GW,bootBuiltins->GX,Scope->GY,eval->G0,Pos->G1,backTo->G3,starEach->G4,Stmt->G5,wpAny_mono->G6,compareOp->G7,behindInMarks->G8,standAt->G9,holding->Ha,wpAny_execs_nil->Hb,assignEach->Hc,PassesOwn->Hd,wpAny_passesOwn->He,letOwnedTupleGo->Hf,rawInt->Hg,foldedSetIterable->Hh,binaryOp->Hi,getMethod->Hj,attributeBase->Hk,backToKw->Hl,keywordEach->Hm,FuncData->Hn,codeAny_mono->Ho,wpAny_Call_Name_kw->Hq,Keyword->Hr,NameKind->Hs,wpAny_field->Hu,wpAny_newObj_type->Hv,typeIs_str->Hw,sliceBounds->Hy,call_meets->Hz,atKey->HA,tupleKind_room_in1->HB,relabel->HC,PyData->HD,strIterType->HE
open PyProof.Rows renaming AllBare->GZ,envOfC->Ht
namespace L2
open PySem
noncomputable abbrev PKy:=Int×List Int
noncomputable def C2 (b:Bool)(v u:GC):List GC:=match b with
 |false=>[v,u]
 |true=>[u,v]
noncomputable def uA (ks:List Int):Int:=reduceHash (GD.Tuple.tupleHashOf (ks.map hashInt))
def zY (b:Bool)(k:PKy):Int:=match b with
 |false=>reduceHash (GD.Tuple.tupleHashOf [hashInt k.1,uA k.2])
 |true=>reduceHash (GD.Tuple.tupleHashOf [uA k.2,hashInt k.1])
section
variable {prog:GE}{w:GF}
variable {A:GL}{E:GC->GJ->Prop}{s:GJ}
end
end L2
namespace L2
open PySem PySem.Spec PyProof.Rows
noncomputable abbrev Key:=Sum Int Str
def Kd:Key->GC->Bool
 |.inl k,v=>GC.isInt k v
 |.inr x,v=>GC.isStrOf x v
def keyH (w:GF):Key->Int
 |.inl k=>hashInt k
 |.inr x=>hashStr w x
theorem bV: ∀ {k:Key}{v:GC},Kd k v=true->(∃i t,k=Sum.inl i/\v=GC.int i t)\/(∃x t,k=Sum.inr x/\v=GC.str x t)
 |.inl i,v,h=>by
  obtain⟨t,e⟩:=GC.isInt_shape (k:=i) (v:=v) h
  exact .inl ⟨i,t,rfl,e⟩
 |.inr x,v,h=>by
  obtain⟨t,e⟩:=GC.isStrOf_shape (x:=x) (v:=v) h
  exact .inr ⟨x,t,rfl,e⟩
theorem uc (i:Int)(t:Tok):Kd (.inl i) (.int i t)=true:=by simp [Kd,GC.isInt]
theorem ub (x:Str)(t:Tok):Kd (.inr x) (.str x t)=true:=by simp [Kd,GC.isStrOf]
theorem Bf (a b:Int):decide ((Sum.inl a:Key)=Sum.inl b)=(a==b):=by
 by_cases e:a=b
 ·subst e;simp
 ·have h: ¬(Sum.inl a:Key)=Sum.inl b:=fun q=>e (Sum.inl.inj q)
  rw[decide_eq_false h]
  exact (beq_eq_false_iff_ne.mpr e).symm
theorem Bc (a b:Str):decide ((Sum.inr a:Key)=Sum.inr b)=decide (a=b):=by
 by_cases e:a=b
 ·subst e;simp
 ·have h: ¬(Sum.inr a:Key)=Sum.inr b:=fun q=>e (Sum.inr.inj q)
  rw[decide_eq_false h,decide_eq_false e]
theorem Be (a:Int)(b:Str):decide ((Sum.inl a:Key)=Sum.inr b)=false:=decide_eq_false (fun q=>nomatch q)
theorem Bd (a:Str)(b:Int):decide ((Sum.inr a:Key)=Sum.inl b)=false:=decide_eq_false (fun q=>nomatch q)
def cR (prog:GE)(w:GF):PySem.KeyKind prog w Key where
 is:=Kd
 hash:=keyH w
 inj:=fun v a b ha hb=>by
  rcases bV ha with⟨i,t,rfl,rfl⟩|⟨x,t,rfl,rfl⟩
  ·rcases bV hb with⟨j,u,rfl,e⟩|⟨y,u,rfl,e⟩
   ·injection e with e1 _;rw[e1]
   ·exact nomatch e
  ·rcases bV hb with⟨j,u,rfl,e⟩|⟨y,u,rfl,e⟩
   ·exact nomatch e
   ·injection e with e1 _;rw[e1]
 byValue:=fun k v h=>by
  rcases bV h with⟨i,t,rfl,rfl⟩|⟨x,t,rfl,rfl⟩<;>rfl
 pyHash:=fun hv h=>by
  rcases bV hv with⟨i,t,rfl,rfl⟩|⟨x,t,rfl,rfl⟩
  ·exact wpAny_pyHash_int h
  ·exact wpAny_pyHash_str h
 eqBool:=fun hu hv h=>by
  rcases bV hu with⟨i,t,rfl,rfl⟩|⟨x,t,rfl,rfl⟩
  ·rcases bV hv with⟨j,u,rfl,rfl⟩|⟨y,u,rfl,rfl⟩
   ·rw[Bf] at h;exact wpAny_eqBool_int h
   ·rw[Be] at h;exact SeqAt.EqAt.int_str i t y u _ _ _ _ h
  ·rcases bV hv with⟨j,u,rfl,rfl⟩|⟨y,u,rfl,rfl⟩
   ·rw[Bd] at h;exact SeqAt.EqAt.str_int x t j u _ _ _ _ h
   ·rw[Bc] at h;exact wpAny_eqBool_str h
 «strs»:=fun k x t v h=>by
  rcases bV h with⟨i,u,rfl,e⟩|⟨y,u,rfl,e⟩
  ·exact nomatch e
  ·injection e with e1 _
   subst e1
   cases v<;>rfl
theorem pH (prog:GE)(w:GF)(i:Int)(t:Tok):(cR prog w).is (.inl i) (.int i t)=true:=uc i t
theorem pG (prog:GE)(w:GF)(x:Str)(t:Tok):(cR prog w).is (.inr x) (.str x t)=true:=ub x t
section
inductive V where
 |non|bl (b:Bool)|int (i:Int)|str (x:Str)|byt (b:Array UInt8)|flt (b:UInt64)|ref (a:GH)|ty (n:String)
 deriving DecidableEq
noncomputable def RelV:V->GC->Prop
 |.non,u=>u=GC.none
 |.bl b,u=>u=GC.bool b
 |.int i,u=> ∃t,u=GC.int i t
 |.str x,u=> ∃t,u=GC.str x t
 |.byt b,u=> ∃t,u=GC.bytes b t
 |.flt b,u=> ∃t,u=GC.float b t
 |.ref a,u=>u=GC.ref a
 |.ty n,u=>u=GC.type n
noncomputable abbrev Vals:List V->List GC->Prop:=Paired RelV
theorem Vals.length {xs:List V}{us:List GC}(r:Vals xs us):xs.length=us.length:=Paired.length r
theorem Vals.get: ∀ {xs:List V}{us:List GC}{i:Nat}{x:V},Vals xs us->xs[i]?=some x-> ∃u,us[i]?=some u/\RelV x u
 |_,_,_,_,.nil,e=>by simp at e
 |_,_,0,_,.cons r _,e=>by simp at e;subst e;exact⟨_,rfl,r⟩
 |_,_,i+1,x,.cons _ t,e=>by
  obtain⟨u,h1,h2⟩:=Vals.get (i:=i) (x:=x) t (by simpa using e)
  exact⟨u,by simpa using h1,h2⟩
theorem Vals.set {x:V}{u:GC}(r:RelV x u): ∀ {xs:List V}{us:List GC} (i:Nat),Vals xs us->Vals (xs.set i x) (us.set i u)
 |_,_,_,.nil=>.nil
 |_,_,0,.cons _ t=>.cons r t
 |_,_,i+1,.cons q t=>.cons q (Vals.set r i t)
theorem Vals.append: ∀ {xs ys:List V}{us ws:List GC},Vals xs us->Vals ys ws->Vals (xs++ys) (us++ws)
 |_,_,_,_,.nil,s=>s
 |_,_,_,_,.cons r t,s=>.cons r (Vals.append t s)
theorem Vals.take: ∀ {xs:List V}{us:List GC} (n:Nat),Vals xs us->Vals (xs.take n) (us.take n)
 |_,_,0,_=>.nil
 |_,_,_+1,.nil=>.nil
 |_,_,n+1,.cons r t=>.cons r (Vals.take n t)
theorem Vals.drop: ∀ {xs:List V}{us:List GC} (n:Nat),Vals xs us->Vals (xs.drop n) (us.drop n)
 |_,_,0,r=>r
 |_,_,_+1,.nil=>.nil
 |_,_,n+1,.cons _ t=>Vals.drop n t
theorem Vals.none_of: ∀ {xs:List V}{us:List GC}{i:Nat},Vals xs us->xs[i]?=none->us[i]?=none:=fun{xs us i} r e=>by
 have h1:=r.length
 have h2:xs.length<=i:=Fz.mp e
 exact Fz.mpr (by omega)
def RelO:Option V->Option GC->Prop
 |some v,some u=>RelV v u
 |none,none=>True
 |_,_=>False
def KV {κ:Type}:List (κ×V)->List (κ×GC)->Prop:=Paired fun (p:κ×V) (q:κ×GC)=>p.1=q.1/\RelV p.2 q.2
def kV:Key->V
 |.inl i=>.int i
 |.inr x=>.str x
inductive HO where
 |lst (xs:List V)
 |tup (xs:List V)
 |dK (kvs:List (Key×V))|dT (kvs:List (List Key×V))|dN (b:Bool)(xs:List (PKy×GH×V))(ep:Nat)
 |set (S:Int->Bool)(n:Nat)
 |ins (C dx:GH)(fs:List (Str×V))
 |own (x:GH)
 |xd (fs:List (Str×V))
 |met (f x:GH)
 |rng (lo hi:Int)
 |frz (o:GK)(u:HO)
 |tbl (ps:Array GC)
 |ext (φ:GG->Prop)
noncomputable abbrev Hp:=GH->Option HO
def upd (H:Hp)(a:GH)(o:HO):Hp:=fun b=>if b=a then some o else H b
theorem aC {H:Hp}{a:GH}{o:HO}:upd H a o a=some o:=by unfold upd;rw[if_pos rfl]
theorem ap {H:Hp}{a b:GH}{o:HO}(h:b≠a):upd H a o b=H b:=by unfold upd;rw[if_neg h]
theorem B5 {H:Hp}{a b:GH}{o u:HO}(h:H a=some o)(h':H b=some u)(d:o≠u):a≠b:=by
 intro e;subst e;rw[h] at h';exact d (Option.some.inj h')
theorem bg {H:Hp}{a b:GH}{o:HO}(h:H a=some o)(h':H b=none):a≠b:=by
 intro e;subst e;rw[h] at h';cases h'
noncomputable def IsTupD (h:GG)(a:GH)(its:Array GC):Prop:=IsTup h a its/\ ∃o,h.get? a=some o/\o.dict=none
theorem IsTupD.new (h:GG)(its:Array GC):IsTupD (h.push {cls:=.type "tuple",data:=.seq its}) h.objs.size its:=⟨IsTup.new _ _,_,D0 _ rfl,rfl⟩
section
variable (P:GE)(w:GF)
def ObjOk (H:Hp)(h:GG)(a:GH):HO->Prop
 |.lst xs=>xs.length<=sizeLine/\ ∃ (its:List GC) (n:Nat),Vals xs its/\h.get? a=some {cls:=.type "list",data:=.seq its.toArray n}
 |.tup xs=>xs.length<=sizeLine/\ ∃its:List GC,Vals xs its/\IsTupD h a its.toArray
 |.dK kvs=>kvs.length<=sizeLine/\(a==GU)=false/\ ∃vs,KV kvs vs/\h.DictOf (cR P w) a vs
 |.dT kvs=>kvs.length<=sizeLine/\(a==GU)=false/\ ∃xs:List (List Key×GH×GC),
  Paired (fun (p:List Key×V) (q:List Key×GH×GC)=>p.1=q.1/\H q.2.1=some (.tup (p.1.map kV))/\RelV p.2 q.2.2) kvs xs/\
  ∃o es ep,h.get? a=some o/\o.ExactDict/\o.data=.dict es ep/\es.toList=xs.map (entryOfKey (GV (cR P w)))/\(xs.map (·.1)).Nodup
 |.dN b xs ep=>xs.length<=sizeLine/\(a==GU)=false/\ ∃ys:List (PKy×GH×GC),Paired (fun (p:PKy×GH×V) (q:PKy×GH×GC)=>p.1=q.1/\p.2.1=q.2.1/\RelV p.2.2 q.2.2) xs ys/\
  ∃o es,h.get? a=some o/\o.ExactDict/\o.data=.dict es ep/\es.toList=ys.map (fun y=>(⟨zY b y.1,.ref y.2.1,y.2.2⟩:DictEntry))/\(ys.map (·.1)).Nodup
 |.set S n=>h.SetOf (intKind P w) a S n
 |.ins C dx fs=>H dx=some (.own a)/\fs.length<=1000/\dx≠a/\h.get? a=some (Gw C dx)/\
  ∃mA,h.Ns1 dx mA/\(∀f,RelO (fs.lookup f) (mA f))/\PySem.Within mA (fs.map (·.1))
 |.own _=> ∃o,h.get? a=some o
 |.xd fs=> ∃mA,h.Ns1 a mA/\ ∀f,RelO (fs.lookup f) (mA f)
 |.rng lo hi=> ∃t u v,h.get? a=some {cls:=.type "range",data:=.fields #[.int lo t,.int hi u,.int 1 v]}
 |.frz o u=>h.get? a=some o/\ObjOk H h a u
 |.tbl ps=>h.get? a=some {cls:=.none,data:=.fields ps}
 |.met f x=>h.get? a=some (PySem.W.methodObj (.ref f) (.ref x))
 |.ext φ=>φ h/\(∃o,h.get? a=some o)/\ ∀h1 h2:GG,φ h1->(∀o,h1.get? a=some o->h2.get? a=some o)->φ h2
def HOk (H:Hp)(h:GG):Prop:= ∀a o,H a=some o->ObjOk P w H h a o
end
section
variable {P:GE}{w:GF}{H H':Hp}{h h':GG}{a:GH}{o:HO}
theorem ObjOk.lt (x:ObjOk P w H h a o):a<h.objs.size:=by
 cases o with
 |lst xs=>obtain⟨_,_,_,_,e⟩:=x;exact Dn e
 |tup xs=>obtain⟨_,_,_,p⟩:=x;exact p.1.lt
 |dK kvs=>obtain⟨_,_,_,_,o,_,_,e,_⟩:=x;exact Dn e
 |dT kvs=>obtain⟨_,_,_,_,o,_,_,e,_⟩:=x;exact Dn e
 |dN b xs ep=>obtain⟨_,_,_,_,o,_,e,_⟩:=x;exact Dn e
 |set S n=>obtain⟨o,_,_,_,e,_⟩:=x;exact Dn e
 |ins C dx fs=>obtain⟨_,_,_,e,_⟩:=x;exact Dn e
 |own y=>obtain⟨_,e⟩:=x;exact Dn e
 |xd fs=>obtain⟨_,⟨_,_,_,e,_⟩,_⟩:=x;exact Dn e
 |rng lo hi=>obtain⟨_,_,_,e⟩:=x;exact Dn e
 |frz ob u=>obtain⟨e,_⟩:=x;exact Dn e
 |tbl ps=>exact Dn (show h.get? a=some _ from x)
 |met f y=>exact Dn (show h.get? a=some _ from x)
 |ext φ=>obtain⟨_,⟨_,e⟩,_⟩:=x;exact Dn e
theorem Paired.mapP {α β:Type}{F G:α->β->Prop}: ∀ {l₁:List α}{l₂:List β},Paired F l₁ l₂->(∀a b,F a b->G a b)->Paired G l₁ l₂
 |_,_,.nil,_=>.nil
 |_,_,.cons r t,f=>.cons (f _ _ r) (Paired.mapP t f)
theorem ObjOk.stay (x:ObjOk P w H h a o)(k:∀b u,(b=a\/H b=some (.own a))->h.get? b=some u->h'.get? b=some u)
  (ho: ∀b,H b=some (.own a)->H' b=some (.own a))(ht: ∀b xs,H b=some (.tup xs)->H' b=some (.tup xs)):ObjOk P w H' h' a o:=by
 induction o with
 |lst xs=>obtain⟨z,its,n,r,e⟩:=x;exact⟨z,its,n,r,k _ _ (.inl rfl) e⟩
 |tup xs=>obtain⟨z,its,r,⟨ob,e,c⟩,o2,e2,c2⟩:=x;exact⟨z,its,r,⟨ob,k _ _ (.inl rfl) e,c⟩,o2,k _ _ (.inl rfl) e2,c2⟩
 |dK kvs=>obtain⟨z,y,vs,r,ob,es,ep,e,c⟩:=x;exact⟨z,y,vs,r,ob,es,ep,k _ _ (.inl rfl) e,c⟩
 |dT kvs=>
  obtain⟨z,y,xs,r,ob,es,ep,e,c⟩:=x
  exact⟨z,y,xs,Paired.mapP r fun p q z=>⟨z.1,ht _ _ z.2.1,z.2.2⟩,ob,es,ep,k _ _ (.inl rfl) e,c⟩
 |dN b xs ep=>obtain⟨z,y,ys,r,ob,es,e,c⟩:=x;exact⟨z,y,ys,r,ob,es,k _ _ (.inl rfl) e,c⟩
 |set S n=>obtain⟨ob,es,ep,t,e,c⟩:=x;exact⟨ob,es,ep,t,k _ _ (.inl rfl) e,c⟩
 |ins C dx fs=>
  obtain⟨d,z,ne,e,mA,⟨od,es,ep,e2,c⟩,r⟩:=x
  exact⟨ho _ d,z,ne,k _ _ (.inl rfl) e,mA,⟨od,es,ep,k _ _ (.inr d) e2,c⟩,r⟩
 |own y=>obtain⟨ob,e⟩:=x;exact⟨ob,k _ _ (.inl rfl) e⟩
 |xd fs=>obtain⟨mA,⟨od,es,ep,e,c⟩,r⟩:=x;exact⟨mA,⟨od,es,ep,k _ _ (.inl rfl) e,c⟩,r⟩
 |rng lo hi=>obtain⟨t,u,v,e⟩:=x;exact⟨t,u,v,k _ _ (.inl rfl) e⟩
 |frz ob u ih=>obtain⟨e,q⟩:=x;exact⟨k _ _ (.inl rfl) e,ih q⟩
 |tbl ps=>
  have e:h.get? a=some {cls:=.none,data:=.fields ps}:=x
  show h'.get? a=some {cls:=.none,data:=.fields ps}
  exact k a _ (.inl rfl) e
 |met f y=>
  have e:h.get? a=some (PySem.W.methodObj (.ref f) (.ref y)):=x
  show h'.get? a=some (PySem.W.methodObj (.ref f) (.ref y))
  exact k a _ (.inl rfl) e
 |ext φ=>obtain⟨p,⟨o,e⟩,st⟩:=x;exact⟨st _ _ p fun o q=>k _ _ (.inl rfl) q,⟨o,k _ _ (.inl rfl) e⟩,st⟩
theorem HOk.lt (x:HOk P w H h)(e:H a=some o):a<h.objs.size:=(x a o e).lt
theorem HOk.fresh (x:HOk P w H h)(e:h.objs.size<=a):H a=none:=by
 cases q:H a with
 |none=>rfl
 |some u=>exact absurd (Dv (x.lt q) e) (Em _)
theorem HOk.kept (x:HOk P w H h)(k:∀b u,h.get? b=some u->h'.get? b=some u):HOk P w H h':=fun a o e=>
 (x a o e).stay (fun b u _ q=>k b u q) (fun _ q=>q) fun _ _ q=>q
theorem HOk.laid (x:HOk P w H h)(k:∀b u,h.get? b=some u->h'.get? b=some u)(hp:h.objs.size<=a)(new:ObjOk P w (upd H a o) h' a o):HOk P w (upd H a o) h':=fun b u e=>by
 have hn:=x.fresh hp
 by_cases hb:b=a
 ·subst hb;rw[aC] at e;cases e;exact new
 ·rw[ap hb] at e
  exact (x b u e).stay (fun c v _ q=>k c v q) (fun c q=>by rw[ap (bg q hn)];exact q) fun c xs q=>by rw[ap (bg q hn)];exact q
end
def Rd (H:Hp)(a:GH)(u:HO):Prop:=H a=some u\/ ∃o,H a=some (.frz o u)
theorem Rd.ok {P:GE}{w:GF}{H:Hp}{h:GG}{a:GH}{u:HO}(r:Rd H a u)(x:HOk P w H h):ObjOk P w H h a u:=by
 rcases r with r|⟨o,r⟩
 ·exact x a u r
 ·obtain⟨_,q⟩:=x a _ r
  exact q
noncomputable def Mut:Option HO->Prop
 |some (.lst _)=>True
 |some (.dK _)=>True
 |some (.dT _)=>True
 |some (.dN _ _ _)=>True
 |some (.set _ _)=>True
 |some (.ins _ _ _)=>True
 |some (.ext _)=>True
 |_=>False
section
variable {P:GE}{w:GF}{H:Hp}{h h':GG}{x e:GH}{o':HO}
theorem HOk.write (ok:HOk P w H h)(mu:Mut (H x))(he:e=x\/H e=some (.own x))(k:∀b u,b≠e->h.get? b=some u->h'.get? b=some u)(heo: ∃u,h'.get? e=some u)
  (new:ObjOk P w (upd H x o') h' x o'):HOk P w (upd H x o') h':=fun b u q=>by
 have nown: ∀c y,H c=some (.own y)->c≠x:=fun c y r z=>by subst z;rw[r] at mu;exact mu
 have ntup: ∀c xs,H c=some (.tup xs)->c≠x:=fun c xs r z=>by subst z;rw[r] at mu;exact mu
 by_cases hb:b=x
 ·subst hb;rw[aC] at q;cases q;exact new
 ·rw[ap hb] at q
  by_cases hbe:b=e
  ·have q':H b=some (.own x):=by
    rcases he with z|z
    ·exact absurd (hbe.trans z) hb
    ·rw[hbe];exact z
   rw[q] at q';cases q'
   obtain⟨v,hv⟩:=heo
   exact⟨v,by rw[hbe];exact hv⟩
  ·refine (ok b u q).stay (fun c v hc r=>k c v ?_ r) (fun c r=>by rw[ap (nown c b r)];exact r) fun c xs r=>by rw[ap (ntup c xs r)];exact r
   rcases hc with rfl|hc
   ·exact hbe
   ·rintro rfl
    rcases he with z|z
    ·exact nown c b hc z
    ·rw[hc] at z;cases z;exact hb rfl
end
structure Un (fs ex:List GH)(H H':Hp)(h h':GG):Prop where
 keep: ∀b o,h.get? b=some o->H b=none->b ∉ fs->b ∉ ex->h'.get? b=some o
 slot: ∀b o,h.get? b=some o->H b=none->b∈fs->b ∉ ex-> ∃sl,h'.get? b=some {o with slots:=sl}
 free: ∀b o,h.get? b=some o->H b=none->b ∉ ex->H' b=none
 there: ∀b o,h.get? b=some o->b ∉ ex-> ∃o',h'.get? b=some o'
 tups: ∀b xs,H b=some (.tup xs)->H' b=some (.tup xs)
 frzs: ∀b o u,H b=some (.frz o u)->H' b=some (.frz o u)
 tbls: ∀b ps,H b=some (.tbl ps)-> ∃more,H' b=some (.tbl (ps++more))
section
variable {fs fs' ex ex':List GH}{H H1 H2:Hp}{h h1 h2 h':GG}{a x e:GH}{o:HO}
theorem Un.any (u:Un fs ex H H1 h h1){b:GH}{ob:GK}(q:h.get? b=some ob)(n:H b=none)(hx:b ∉ ex): ∃sl,h1.get? b=some {ob with slots:=sl}:=by
 by_cases hb:b∈fs
 ·exact u.slot b ob q n hb hx
 ·exact⟨ob.slots,u.keep b ob q n hb hx⟩
theorem Un.kept (k:∀b u,h.get? b=some u->h'.get? b=some u):Un fs ex H H h h':=
 ⟨fun b ob q _ _ _=>k b ob q,fun b ob q _ _ _=>⟨ob.slots,k b ob q⟩,fun _ _ _ n _=>n,fun b ob q _=>⟨ob,k b ob q⟩,fun _ _ q=>q,fun _ _ _ q=>q,fun _ ps q=>⟨#[],by rw[q];simp⟩⟩
theorem Un.refl:Un fs ex H H h h:=Un.kept fun _ _ q=>q
theorem Un.laid (k:∀b u,h.get? b=some u->h'.get? b=some u)(hp:h.objs.size<=a)(hn:H a=none):Un fs ex H (upd H a o) h h' where
 keep:=fun b u q _ _ _=>k b u q
 slot:=fun b u q _ _ _=>⟨u.slots,k b u q⟩
 free:=fun b u q n _=>by rw[ap (Dw (Dv (Dn q) hp))];exact n
 there:=fun b u q _=>⟨u,k b u q⟩
 tups:=fun b xs q=>by rw[ap (bg q hn)];exact q
 frzs:=fun b u xs q=>by rw[ap (bg q hn)];exact q
 tbls:=fun b ps q=>⟨#[],by rw[ap (bg q hn),q];simp⟩
theorem Un.write (mu:Mut (H x))(he:e=x\/H e=some (.own x))(k:∀b u,b≠e->h.get? b=some u->h'.get? b=some u)(heo: ∃u,h'.get? e=some u):Un fs ex H (upd H x o) h h':=by
 have hx: ∀b,H b=none->b≠x:=fun b n z=>by subst z;rw[n] at mu;exact mu
 have hb: ∀b,H b=none->b≠e:=fun b n z=>by
  subst z
  rcases he with r|r
  ·exact hx b n r
  ·rw[n] at r;cases r
 have hm: ∀b u,H b=some u-> ¬Mut (some u)->b≠x:=fun b u q nm z=>by subst z;rw[q] at mu;exact nm mu
 refine⟨fun b u q n _ _=>k b u (hb b n) q,fun b u q n _ _=>⟨u.slots,k b u (hb b n) q⟩,fun b u q n _=>by rw[ap (hx b n)];exact n,fun b u q _=>?_,
  fun b xs q=>by rw[ap (hm b _ q fun z=>z)];exact q,fun b u xs q=>by rw[ap (hm b _ q fun z=>z)];exact q,fun b ps q=>⟨#[],by rw[ap (hm b _ q fun z=>z),q];simp⟩⟩
 by_cases hbe:b=e
 ·subst hbe;exact heo
 ·exact⟨u,k b u hbe q⟩
end
def trk (h:GG)(H:Hp):List GH:=(List.range h.objs.size).filter fun a=>(H a).isSome
def JH (h:GG)(H:Hp):GG:=PySem.W.hideAll h (trk h H)
theorem ui (h:GG)(H:Hp):(JH h H).objs.size=h.objs.size:=PySem.W.hideAll_size _ _
theorem wg {h:GG}{H:Hp}{b:GH}{o:GK}(e:h.get? b=some o)(n:H b=none):(JH h H).get? b=some o:=
 PySem.W.hideAll_get _ e fun hm=>by
  have q:(H b).isSome=true:=(EM.mp hm).2
  rw[n] at q;simp at q
theorem xV {h:GG}{H:Hp}{b:GH}{o:GK}(e:(JH h H).get? b=some o):h.get? b=some o/\H b=none:=by
 have e':h.get? b=some o:=PySem.W.of_hideAll (trk h H) e
 refine⟨e',?_⟩
 cases q:H b with
 |none=>rfl
 |some x=>
  have hm:b∈trk h H:=EM.mpr ⟨List.mem_range.mpr (Dn e'),by simp [q]⟩
  have z:(JH h H).get? b=none:=PySem.W.hideAll_none (trk h H) hm
  rw[z] at e;cases e
noncomputable def yV (g h:GG)(L:GH):List (GH×GK):=(List.range h.objs.size).filterMap fun a=>if a=L\/(g.get? a).isSome=true then none else (h.get? a).map fun o=>(a,o)
def LH (g h:GG)(L d:GH):List (GH×GK):=(yV g h L).filter fun p=>decide (p.1≠d)
end
section
structure Mod (K:PySem.W.Frag)(mg:Str->Option GC)(base:GG):Prop where
 kin:K.In base
 glob:base.Ns GW mg
 blt: ∃mb,base.Ns builtinsNs mb/\ ∀x:Str,x≠ "__name__"->mb x=GX x
 nolimit:base.NoLimit
structure Cx where
 prog:GE
 w:GF
 K:PySem.W.Frag
 mg:Str->Option GC
 base:GG
 A:GL
 N:List Str
 s₀:GJ
 H₀:Hp
 env:Env
 outer:List Env
 stack:List Env
 ex:List GH
 fn:Str->Bool
 calm:Bool
 pn:List (GH×GK)
 xe:GC->GJ->Prop
noncomputable def frs (l:List Env):List GH:=l.filterMap (·.frame)
noncomputable abbrev Cx.fs (X:Cx):List GH:=frs X.outer
noncomputable def Vis (sc:GY)(x:Str):Prop:=sc.names.lookup x=some .local \/sc.names.lookup x=some .cell\/sc.names.lookup x=some .free
noncomputable def Loc (sc:GY)(x:Str):Prop:=sc.names.lookup x=some .local \/sc.names.lookup x=some .cell
noncomputable def Look (env:Env)(h:GG)(m:Str->Option GC)(x:Str)(u:GC):Prop:=
 (env.kindOf x=some .local /\m x=some u)\/((env.kindOf x=some .cell\/env.kindOf x=some .free)/\ ∃c,env.cells.lookup x=some c/\h.IsCell c (some u))
structure Cx.Ok (X:Cx):Prop where
 mod:Mod X.K X.mg X.base
 kind:X.env.scope.kind=.function
 glob:X.env.globals=GW
 blt:X.env.builtins=builtinsNs
 above:X.s₀.heap.objs.size<=X.env.locals
 inj: ∀x y c,X.env.cells.lookup x=some c->X.env.cells.lookup y=some c->x=y
 has: ∀x,(X.env.kindOf x=some .cell\/X.env.kindOf x=some .free)-> ∃c,X.env.cells.lookup x=some c
 cab: ∀x c,X.fn x=true->X.env.cells.lookup x=some c->X.s₀.heap.objs.size<=c
 hd:X.calm=true->X.A.handled=none
 frames:X.A.frames=some X.stack
 stk:X.stack=X.outer\/(X.stack=X.env::X.outer/\X.env.frame=some X.env.locals)
 exf: ∀b∈X.ex,b≠X.env.locals/\ ∀x c,X.env.cells.lookup x=some c->c≠b
 bs: ∀b o,X.base.get? b=some o->X.s₀.heap.get? b=some o/\X.H₀ b=none
 bsz:X.base.objs.size<=X.s₀.heap.objs.size
 noex: ∀b o,X.base.get? b=some o->b ∉ X.ex
 exfs: ∀b∈X.ex,b ∉ X.fs
 funs:X.s₀.heap.FunFrames X.base X.outer
 frf: ∀b∈X.fs,X.H₀ b=none
structure Inv (X:Cx)(pins:List (GH×GK))(σ:List (Option V))(H:Hp)(s:GJ):Prop where
 ok:X.Ok
 os:s.os=X.s₀.os
 bare:GZ s.gens
 base:Un X.fs X.ex X.H₀ H X.s₀.heap s.heap
 loc: ∃m,s.heap.Ns X.env.locals m/\ ∀ (i:Nat) (x:Str) (v:V),X.N[i]?=some x->σ[i]?=some (some v)->Vis X.env.scope x-> ∃u,RelV v u/\Look X.env s.heap m x u
 cell: ∀x c,X.env.cells.lookup x=some c-> ∃v,s.heap.IsCell c v
 free:H X.env.locals=none
 freeC: ∀x c,X.env.cells.lookup x=some c->H c=none
 pin: ∀p∈X.pn++pins,s.heap.get? p.1=some p.2/\H p.1=none/\p.1≠X.env.locals/\p.1 ∉ X.fs/\ ∀v,p.2.data≠.cell v
 hok:HOk X.prog X.w H s.heap
 len:σ.length=X.N.length
section
variable {X:Cx}{pins:List (GH×GK)}{σ:List (Option V)}{H H':Hp}{s:GJ}{h':GG}
theorem Cx.Ok.nofr (ok:X.Ok){b:GH}{o:GK}(e:X.base.get? b=some o):b ∉ X.fs:=fun hb=>by
 have:=(ok.funs.mem hb).1
 rw[e] at this;cases this
theorem Inv.bs (I:Inv X pins σ H s): ∀b o,X.base.get? b=some o->s.heap.get? b=some o/\H b=none:=fun b o e=>
 ⟨I.base.keep b o (I.ok.bs b o e).1 (I.ok.bs b o e).2 (I.ok.nofr e) (I.ok.noex b o e),I.base.free b o (I.ok.bs b o e).1 (I.ok.bs b o e).2 (I.ok.noex b o e)⟩
theorem Inv.bk (I:Inv X pins σ H s): ∀b o,X.base.get? b=some o->s.heap.get? b=some o:=fun b o e=>(I.bs b o e).1
theorem Inv.mod (I:Inv X pins σ H s):Mod X.K X.mg X.base:=I.ok.mod
theorem Inv.kIn (I:Inv X pins σ H s):X.K.In s.heap:=I.ok.mod.kin.keeps I.bk
theorem Inv.fr (I:Inv X pins σ H s): ∃m,Fr X.base X.env.locals s.heap m:=
 let ⟨m,hn,_⟩:=I.loc
 ⟨m,hn,I.bk,Dy I.ok.bsz I.ok.above⟩
theorem Inv.lt (I:Inv X pins σ H s):X.env.locals<s.heap.objs.size:=let ⟨_,hn,_⟩:=I.loc;hn.lt
theorem Inv.sz (I:Inv X pins σ H s):X.s₀.heap.objs.size<=s.heap.objs.size:=Dy I.ok.above (EN I.lt)
theorem Inv.nofs (I:Inv X pins σ H s){a:GH}(h:s.heap.objs.size<=a):a ∉ X.fs:=fun hb=>by
 obtain⟨_,o,ho,_⟩:=I.ok.funs.mem hb
 exact absurd (Dv (Dn ho) (Dy I.sz h)) (Em _)
theorem Inv.cne (I:Inv X pins σ H s): ∀x c,X.env.cells.lookup x=some c->c≠X.env.locals:=fun x c e z=>by
 obtain⟨v,o,ho,hd⟩:=I.cell x c e
 obtain⟨m,⟨o',es,ep,ho',hd',_⟩,_⟩:=I.loc
 rw[z,ho'] at ho;cases ho;rw[hd'] at hd;cases hd
theorem Inv.funs (I:Inv X pins σ H s):s.heap.FunFrames X.base X.outer:=by
 have all: ∀ (l:List Env),(∀b∈frs l,b∈X.fs)->X.s₀.heap.FunFrames X.base l->s.heap.FunFrames X.base l:=by
  intro l
  induction l with
  |nil=>intro _ _;trivial
  |cons env r ih=>
   intro hs hl
   obtain⟨hk,⟨L,o,hf,hn,ho,hd⟩,hr⟩:=hl
   have hL:L∈X.fs:=hs L (by unfold frs;rw[Ef,hf];exact Dt)
   obtain⟨sl,e⟩:=I.base.slot L o ho (I.ok.frf L hL) hL fun z=>I.ok.exfs L z hL
   exact⟨hk,⟨L,_,hf,hn,e,hd⟩,ih (fun b hb=>hs b (by unfold frs;rw[Ef,hf];exact Dz _ hb)) hr⟩
 exact all X.outer (fun _ hb=>hb) I.ok.funs
theorem Inv.stack (I:Inv X pins σ H s):s.heap.FunFrames X.base X.stack:=by
 rcases I.ok.stk with e|⟨e,hf⟩
 ·rw[e];exact I.funs
 ·rw[e]
  obtain⟨m,hn,_⟩:=I.loc
  refine .cons (by rw[I.ok.kind];decide) hf hn ?_ I.funs
  exact GG.get?_none_of_le (Dy I.ok.bsz I.ok.above)
theorem Inv.stkSub (I:Inv X pins σ H s): ∀b∈frs X.stack,b∈X.env.locals::X.fs:=fun b hb=>by
 rcases I.ok.stk with e|⟨e,hf⟩
 ·rw[e] at hb;exact Dz _ hb
 ·rw[e] at hb
  unfold frs at hb
  rw[Ef,hf] at hb
  exact hb
theorem Inv.stkFree (I:Inv X pins σ H s): ∀b∈frs X.stack,H b=none:=fun b hb=>by
 rcases Dp.mp (I.stkSub b hb) with e|hb
 ·rw[e];exact I.free
 ·obtain⟨_,o,ho,_⟩:=I.ok.funs.mem hb
  exact I.base.free b o ho (I.ok.frf b hb) fun z=>I.ok.exfs b z hb
theorem Inv.step {g':Array GenState}{t':Nat}{d':Drawn}{ch:List GH}(I:Inv X pins σ H s)
  (hch: ∀b∈ch,(b∈X.ex\/X.s₀.heap.objs.size<=b)/\b≠X.env.locals/\(∀x c,X.env.cells.lookup x=some c->c≠b)/\ ∀p∈X.pn++pins,p.1≠b)
  (keep: ∀b o,b≠X.env.locals->b ∉ X.fs->b ∉ ch->s.heap.get? b=some o->H b=none->h'.get? b=some o)
  (slot: ∀b o,b≠X.env.locals->b∈X.fs->b ∉ ch->s.heap.get? b=some o->H b=none-> ∃sl,h'.get? b=some {o with slots:=sl})(free: ∀b o,b ∉ ch->s.heap.get? b=some o->H b=none->H' b=none)
  (there: ∀b o,b ∉ ch->s.heap.get? b=some o-> ∃o',h'.get? b=some o')
  (tups: ∀b xs,H b=some (.tup xs)->H' b=some (.tup xs))(frzs: ∀b o u,H b=some (.frz o u)->H' b=some (.frz o u))(tbls: ∀b ps,H b=some (.tbl ps)-> ∃more,H' b=some (.tbl (ps++more)))
  (ns: ∀m,s.heap.Ns X.env.locals m->h'.Ns X.env.locals m)(hok:HOk X.prog X.w H' h')(hg:GZ g'):
  Inv X pins σ H' {s with heap:=h',gens:=g',drawn:=d',toks:=t'}:=by
 have neL: ∀b o,X.s₀.heap.get? b=some o->b≠X.env.locals:=fun b o e=>Dw (Dv (Dn e) I.ok.above)
 have neC: ∀b o,X.s₀.heap.get? b=some o->b ∉ X.ex->b ∉ ch:=fun b o e hx hb=>by
  rcases (hch b hb).1 with z|z
  ·exact hx z
  ·exact absurd (Dv (Dn e) z) (Em _)
 have cellK: ∀x c,X.env.cells.lookup x=some c-> ∀v,s.heap.IsCell c v->h'.IsCell c v:=fun x c e v ⟨o,ho,hd⟩=>by
  have nch:c ∉ ch:=fun z=>(hch c z).2.2.1 x c e rfl
  by_cases hc:c∈X.fs
  ·obtain⟨sl,q⟩:=slot c o (I.cne x c e) hc nch ho (I.freeC x c e)
   exact⟨_,q,hd⟩
  ·exact⟨o,keep c o (I.cne x c e) hc nch ho (I.freeC x c e),hd⟩
 refine⟨I.ok,I.os,hg,⟨fun b o e n hb hx=>?_,fun b o e n hb hx=>?_,fun b o e n hx=>?_,fun b o e hx=>?_,fun b xs e=>tups b xs (I.base.tups b xs e),fun b o xs e=>frzs b o xs (I.base.frzs b o xs e),fun b ps e=>?_⟩,?_,fun x c e=>?_,?_,fun x c e=>?_,fun p hp=>?_,hok,I.len⟩
 ·exact keep b o (neL b o e) hb (neC b o e hx) (I.base.keep b o e n hb hx) (I.base.free b o e n hx)
 ·obtain⟨sl,e1⟩:=I.base.slot b o e n hb hx
  obtain⟨sl',e2⟩:=slot b _ (neL b o e) hb (neC b o e hx) e1 (I.base.free b o e n hx)
  exact⟨sl',e2⟩
 ·obtain⟨o',e1⟩:=I.base.there b o e hx
  exact free b o' (neC b o e hx) e1 (I.base.free b o e n hx)
 ·obtain⟨o',e1⟩:=I.base.there b o e hx
  exact there b o' (neC b o e hx) e1
 ·obtain⟨m1,e1⟩:=I.base.tbls b ps e
  obtain⟨m2,e2⟩:=tbls b _ e1
  exact⟨m1++m2,by rw[e2,FC]⟩
 ·obtain⟨m,hn,hl⟩:=I.loc
  refine⟨m,ns m hn,fun i x v e1 e2 e3=>?_⟩
  obtain⟨u,r,l⟩:=hl i x v e1 e2 e3
  refine⟨u,r,?_⟩
  rcases l with l|⟨k,c,e,z⟩
  ·exact .inl l
  ·exact .inr ⟨k,c,e,cellK x c e _ z⟩
 ·obtain⟨v,z⟩:=I.cell x c e
  exact⟨v,cellK x c e v z⟩
 ·obtain⟨m,⟨o,_,_,ho,_⟩,_⟩:=I.loc
  exact free _ o (fun z=>(hch _ z).2.1 rfl) ho I.free
 ·obtain⟨v,o,ho,hd⟩:=I.cell x c e
  exact free c o (fun z=>(hch c z).2.2.1 x c e rfl) ho (I.freeC x c e)
 ·obtain⟨e,n,ne,nf,d⟩:=I.pin p hp
  have nch:p.1 ∉ ch:=fun z=>(hch p.1 z).2.2.2 p hp rfl
  exact⟨keep p.1 p.2 ne nf nch e n,free p.1 p.2 nch e n,ne,nf,d⟩
theorem Inv.un {t':Nat}(I:Inv X pins σ H s)(u:Un X.fs [] H H' s.heap h')(hok:HOk X.prog X.w H' h'):Inv X pins σ H' {s with heap:=h',toks:=t'}:=by
 obtain⟨m,⟨o,es,ep,ho,r⟩,_⟩:=id I.loc
 obtain⟨sl,hL⟩:=u.any ho I.free (by simp)
 exact I.step (g':=s.gens) (d':=s.drawn) (ch:=[]) (fun _ z=>nomatch z) (fun b o _ hb _ e n=>u.keep b o e n hb (by simp)) (fun b o _ hb _ e n=>u.slot b o e n hb (by simp)) (fun b o _ e n=>u.free b o e n (by simp)) (fun b o _ e=>u.there b o e (by simp)) u.tups u.frzs u.tbls (fun m' hm=>by
  obtain⟨o',es',ep',ho',r'⟩:=hm
  rw[ho] at ho';cases ho'
  exact⟨_,es',ep',hL,r'⟩) hok I.bare
theorem Inv.call {g':Array GenState}{t':Nat}{d':Drawn}{ch:List GH}(I:Inv X pins σ H s)(u:Un (frs X.stack) ch H H' s.heap h')(hok:HOk X.prog X.w H' h')(hg:GZ g')
  (hch: ∀b∈ch,(b∈X.ex\/X.s₀.heap.objs.size<=b)/\b≠X.env.locals/\(∀x c,X.env.cells.lookup x=some c->c≠b)/\ ∀p∈X.pn++pins,p.1≠b):
  Inv X pins σ H' {s with heap:=h',gens:=g',drawn:=d',toks:=t'}:=by
 obtain⟨m,⟨o,es,ep,ho,r⟩,_⟩:=id I.loc
 obtain⟨sl,hL⟩:=u.any ho I.free fun z=>(hch _ z).2.1 rfl
 exact I.step (ch:=ch) hch (fun b o hL hb hc e n=>u.keep b o e n (fun z=>(Dp.mp (I.stkSub b z)).elim hL hb) hc) (fun b o _ _ hc e n=>u.any e n hc) (fun b o hc e n=>u.free b o e n hc) (fun b o hc e=>u.there b o e hc) u.tups u.frzs u.tbls (fun m' hm=>by
  obtain⟨o',es',ep',ho',r'⟩:=hm
  rw[ho] at ho';cases ho'
  exact⟨_,es',ep',hL,r'⟩) hok hg
theorem Inv.turned {t':Nat}{it:GH}(I:Inv X pins σ H s)(k:∀b o,b≠it->s.heap.get? b=some o->h'.get? b=some o)(hn:H it=none)(hL:it≠X.env.locals)
  (h1:it∈X.ex\/X.s₀.heap.objs.size<=it)(h2: ∀x c,X.env.cells.lookup x=some c->c≠it)(h3: ∀p∈X.pn++pins,p.1≠it):Inv X pins σ H {s with heap:=h',toks:=t'}:=by
 have nit: ∀b u,H b=some u->b≠it:=fun b u e z=>by rw[z,hn] at e;cases e
 refine I.step (g':=s.gens) (d':=s.drawn) (ch:=[it]) (fun b hb=>?_) (fun b o _ _ hc e _=>k b o (fun z=>hc (by simp [z])) e) (fun b o _ _ hc e _=>⟨o.slots,k b o (fun z=>hc (by simp [z])) e⟩) (fun _ _ _ _ n=>n)
  (fun b o hc e=>⟨o,k b o (fun z=>hc (by simp [z])) e⟩) (fun _ _ e=>e) (fun _ _ _ e=>e) (fun b ps e=>⟨#[],by rw[e];simp⟩) (fun m hm=>?_) (fun b u e=>?_) I.bare
 ·have e:b=it:=by simpa using hb
  subst e
  exact⟨h1,hL,h2,h3⟩
 ·obtain⟨o,es,ep,ho,r⟩:=hm
  exact⟨o,es,ep,k _ o (Ne.symm hL) ho,r⟩
 ·refine (I.hok b u e).stay (fun c v hc q=>k c v ?_ q) (fun _ q=>q) fun _ _ q=>q
  rcases hc with z|z
  ·rw[z];exact nit b u e
  ·exact nit c _ z
theorem Inv.tok (I:Inv X pins σ H s)(t:Nat):Inv X pins σ H {s with toks:=t}:=I.un (h':=s.heap) (t':=t) Un.refl I.hok
theorem Inv.kept {t':Nat}(I:Inv X pins σ H s)(k:∀b u,s.heap.get? b=some u->h'.get? b=some u):Inv X pins σ H {s with heap:=h',toks:=t'}:=I.un (Un.kept k) (I.hok.kept k)
theorem Inv.laid {a:GH}{o:HO}{t':Nat}(I:Inv X pins σ H s)(k:∀b u,s.heap.get? b=some u->h'.get? b=some u)(hp:s.heap.objs.size<=a)(new:ObjOk X.prog X.w (upd H a o) h' a o):
 Inv X pins σ (upd H a o) {s with heap:=h',toks:=t'}:=I.un (Un.laid k hp (I.hok.fresh hp)) (I.hok.laid k hp new)
theorem Inv.write {x e:GH}{o:HO}{t':Nat}(I:Inv X pins σ H s)(mu:Mut (H x))(he:e=x\/H e=some (.own x))(k:∀b u,b≠e->s.heap.get? b=some u->h'.get? b=some u)(heo: ∃u,h'.get? e=some u)
 (new:ObjOk X.prog X.w (upd H x o) h' x o):Inv X pins σ (upd H x o) {s with heap:=h',toks:=t'}:=I.un (Un.write mu he k heo) (I.hok.write mu he k heo new)
theorem Inv.weak {σ':List (Option V)}(I:Inv X pins σ H s)(hl:σ'.length=σ.length)(w:∀ (i:Nat) v,σ'[i]?=some (some v)->σ[i]?=some (some v)):Inv X pins σ' H s:=
 ⟨I.ok,I.os,I.bare,I.base,let ⟨m,hn,hl'⟩:=I.loc;⟨m,hn,fun i x v e1 e2 e3=>hl' i x v e1 (w i v e2) e3⟩,I.cell,I.free,I.freeC,I.pin,I.hok,hl.trans I.len⟩
theorem Inv.pins_of {pins':List (GH×GK)}(I:Inv X pins σ H s)(h:∀p∈pins',s.heap.get? p.1=some p.2/\H p.1=none/\p.1≠X.env.locals/\p.1 ∉ X.fs/\ ∀v,p.2.data≠.cell v):Inv X pins' σ H s:=
 ⟨I.ok,I.os,I.bare,I.base,I.loc,I.cell,I.free,I.freeC,fun p hp=>(DE.mp hp).elim (fun z=>I.pin p (Eu _ z)) (h p),I.hok,I.len⟩
theorem kN {N:List Str}(hN:N.Nodup){i j:Nat}{x:Str}(a:N[i]?=some x)(b:N[j]?=some x):i=j:=by
 obtain⟨h1,e1⟩:=DK.mp a
 obtain⟨h2,e2⟩:=DK.mp b
 exact (List.getElem_inj hN).mp (e1.trans e2.symm)
theorem ms {M:Model}{A:GL}{E:GC->GJ->Prop}{i:Nat}{x:Str}{v:V}{u:GC}{Q:Unit->GJ->Prop}(I:Inv X pins σ H s)(hN:X.N.Nodup)(hi:X.N[i]?=some x)(hx:Loc X.env.scope x)(r:RelV v u)
  (h:∀s',Inv X pins (σ.set i (some v)) H s'->(∃a,En a s.heap s'.heap/\(a=X.env.locals\/X.env.cells.lookup x=some a))->Q () s')(hf:X.fn x=true\/X.env.scope.names.lookup x=some .local :=by first|exact .inl rfl|exact .inr rfl|assumption):GN M A (storeName X.env x u) Q E s:=by
 obtain⟨m,hn,hl⟩:=id I.loc
 have hcls:(X.env.scope.kind==.class||(X.env.scope.kind==.module && X.env.locals !=X.env.globals))=false:=by rw[I.ok.kind];rfl
 have hiσ:i<σ.length:=by rw[I.len];exact (DK.mp hi).1
 have cne:=I.cne
 have tracked: ∀ {a:GH}{h':GG},(∃o,s.heap.get? a=some o/\H a=none)->En a s.heap h'->HOk X.prog X.w H h':=fun{a h'} ha hs b ob e=>by
  obtain⟨_,_,hfree⟩:=ha
  refine (I.hok b ob e).stay (fun c w' hc q=>(hs.2 c ?_).trans q) (fun _ q=>q) fun _ _ q=>q
  rintro rfl
  rcases hc with rfl|hc
  ·rw[hfree] at e;cases e
  ·rw[hfree] at hc;cases hc
 rcases hx with hk|hk
 ·refine wpAny_storeName_local hk hn (fun h' hn' hs=>?_) hcls
  obtain⟨oL,_,_,hoL,_⟩:=id hn
  refine h _ ⟨I.ok,I.os,I.bare,⟨fun b o e n hb hx=>?_,fun b o e n hb hx=>?_,I.base.free,fun b o e hx=>?_,I.base.tups,I.base.frzs,I.base.tbls⟩,⟨_,hn',fun j y v' e1 e2 e3=>?_⟩,fun y c e=>?_,I.free,I.freeC,fun p hp=>?_,tracked ⟨oL,hoL,I.free⟩ hs,by simpa using I.len⟩ ⟨_,hs,.inl rfl⟩
  ·exact (hs.2 b (Dw (Dv (Dn e) I.ok.above))).trans (I.base.keep b o e n hb hx)
  ·obtain⟨sl,e1⟩:=I.base.slot b o e n hb hx
   exact⟨sl,(hs.2 b (Dw (Dv (Dn e) I.ok.above))).trans e1⟩
  ·obtain⟨o',e1⟩:=I.base.there b o e hx
   exact⟨o',(hs.2 b (Dw (Dv (Dn e) I.ok.above))).trans e1⟩
  ·by_cases hj:j=i
   ·subst hj
    rw[hi] at e1;cases e1
    rw[Eo hiσ] at e2
    cases e2
    exact⟨u,r,.inl ⟨hk,by simp⟩⟩
   ·rw[Do (Ne.symm hj)] at e2
    obtain⟨u',r',q⟩:=hl j y v' e1 e2 e3
    refine⟨u',r',?_⟩
    rcases q with⟨k,e⟩|⟨k,c,e,z⟩
    ·refine .inl ⟨k,?_⟩
     have:y≠x:=fun e=>hj (kN hN e1 (e▸hi))
     simp [this,e]
    ·exact .inr ⟨k,c,e,z.sameBut hs (cne y c e)⟩
  ·obtain⟨w',z⟩:=I.cell y c e
   exact⟨w',z.sameBut hs (cne y c e)⟩
  ·obtain⟨e,n,ne,nf,d⟩:=I.pin p hp
   exact⟨(hs.2 p.1 ne).trans e,n,ne,nf,d⟩
 ·have hfn:X.fn x=true:=by
   rcases hf with z|z
   ·exact z
   ·rw[z] at hk;cases hk
  obtain⟨c,hc⟩:=I.ok.has x (.inl hk)
  obtain⟨w',z⟩:=I.cell x c hc
  refine wpAny_storeName_cell I.ok.kind hk hc z (fun h' hc' hs=>?_)
  obtain⟨oc,hoc,hocd⟩:=id z
  refine h {s with heap:=h'} ⟨I.ok,I.os,I.bare,⟨fun b o e n hb hx=>?_,fun b o e n hb hx=>?_,I.base.free,fun b o e hx=>?_,I.base.tups,I.base.frzs,I.base.tbls⟩,⟨m,hn.sameBut hs (Ne.symm (cne x c hc)),fun j y v' e1 e2 e3=>?_⟩,fun y c' e=>?_,I.free,I.freeC,fun p hp=>?_,tracked ⟨oc,hoc,I.freeC x c hc⟩ hs,by simpa using I.len⟩ ⟨c,hs,.inr hc⟩
  ·exact (hs.2 b (Dw (Dv (Dn e) (I.ok.cab x c hfn hc)))).trans (I.base.keep b o e n hb hx)
  ·obtain⟨sl,e1⟩:=I.base.slot b o e n hb hx
   exact⟨sl,(hs.2 b (Dw (Dv (Dn e) (I.ok.cab x c hfn hc)))).trans e1⟩
  ·obtain⟨o',e1⟩:=I.base.there b o e hx
   exact⟨o',(hs.2 b (Dw (Dv (Dn e) (I.ok.cab x c hfn hc)))).trans e1⟩
  ·by_cases hj:j=i
   ·subst hj
    rw[hi] at e1;cases e1
    rw[Eo hiσ] at e2
    cases e2
    exact⟨u,r,.inr ⟨.inl hk,c,hc,hc'⟩⟩
   ·rw[Do (Ne.symm hj)] at e2
    obtain⟨u',r',q⟩:=hl j y v' e1 e2 e3
    refine⟨u',r',?_⟩
    rcases q with q|⟨k,c',e,z'⟩
    ·exact .inl q
    ·refine .inr ⟨k,c',e,z'.sameBut hs ?_⟩
     rintro rfl
     exact hj (kN hN e1 (I.ok.inj _ _ _ e hc▸hi))
  ·by_cases hcc:c'=c
   ·subst hcc;exact⟨_,hc'⟩
   ·obtain⟨w2,z2⟩:=I.cell y c' e
    exact⟨w2,z2.sameBut hs hcc⟩
  ·obtain⟨e,n,ne,nf,d⟩:=I.pin p hp
   refine⟨(hs.2 p.1 ?_).trans e,n,ne,nf,d⟩
   intro q
   rw[q,hoc] at e
   have q':oc=p.2:=Option.some.inj e
   exact d w' (by rw[<-q'];exact hocd)
theorem kl {M:Model}{A:GL}{E:GC->GJ->Prop}{i:Nat}{x:Str}{v:V}{u:GC}{Q:Unit->GJ->Prop}(I:Inv X pins σ H s)(hN:X.N.Nodup)(hi:X.N[i]?=some x)(hx:Loc X.env.scope x)(r:RelV v u)
  (h:∀s',Inv X pins (σ.set i (some v)) H s'->Q () s')(hf:X.fn x=true\/X.env.scope.names.lookup x=some .local :=by first|exact .inl rfl|exact .inr rfl|assumption):GN M A (storeName X.env x u) Q E s:=
 ms I hN hi hx r (fun s' I' _=>h s' I') hf
theorem Inv.call' {s':GJ}{ch:List GH}(I:Inv X pins σ H s)(ho:s'.os=s.os)(u:Un (frs X.stack) ch H H' s.heap s'.heap)(hok:HOk X.prog X.w H' s'.heap)(hg:GZ s'.gens)
  (hch: ∀b∈ch,(b∈X.ex\/X.s₀.heap.objs.size<=b)/\b≠X.env.locals/\(∀x c,X.env.cells.lookup x=some c->c≠b)/\ ∀p∈X.pn++pins,p.1≠b):Inv X pins σ H' s':=by
 obtain⟨h',g',d',t',o'⟩:=s'
 have e:o'=s.os:=ho
 subst e
 exact I.call (g':=g') (t':=t') (d':=d') u hok hg hch
end
noncomputable abbrev XK:=GC->Option GH->Hp->Prop
noncomputable abbrev St:=List (Option V)
noncomputable abbrev VK:=V->Hp->Prop
noncomputable abbrev TE:=St->Hp->VK->Prop
noncomputable abbrev TT:=St->Hp->(Bool->Hp->Prop)->Prop
noncomputable abbrev TA:=St->Hp->(List V->Hp->Prop)->Prop
structure HS where
 nx:St->Hp->Prop
 rt:VK
 bk:St->Hp->Prop:=fun _ _=>False
 ct:St->Hp->Prop:=fun _ _=>False
noncomputable abbrev TS:=HS->St->Hp->Prop
def EP (X:Cx)(pins:List (GH×GK))(σ:St)(Q:VK)(u:GC)(s':GJ):Prop:= ∃v H',Inv X pins σ H' s'/\RelV v u/\Q v H'
def TP (X:Cx)(pins:List (GH×GK))(σ:St)(Q:Bool->Hp->Prop)(b:Bool)(s':GJ):Prop:= ∃H',Inv X pins σ H' s'/\Q b H'
def AP (X:Cx)(pins:List (GH×GK))(σ:St)(Q:List V->Hp->Prop)(us:List GC)(s':GJ):Prop:= ∃vs H',Inv X pins σ H' s'/\Vals vs us/\Q vs H'
def SP (X:Cx)(pins:List (GH×GK))(D:HS)(f:Flow)(s':GJ):Prop:=
 match f with
 |.next=> ∃σ' H',Inv X pins σ' H' s'/\D.nx σ' H'
 |.brk=> ∃σ' H',Inv X pins σ' H' s'/\D.bk σ' H'
 |.cont=> ∃σ' H',Inv X pins σ' H' s'/\D.ct σ' H'
 |.ret u=> ∃v σ' H',Inv X pins σ' H' s'/\RelV v u/\D.rt v H'
def PE (X:Cx)(e:Expr)(t:TE):Prop:=
 ∀ (pins:List (GH×GK)) (s:GJ) (σ:St) (H:Hp) (Q:VK),Inv X pins σ H s->t σ H Q->GN (GO X.prog X.w) X.A (G0 e X.env) (EP X pins σ Q) X.xe s
def PT (X:Cx)(e:Expr)(t:TT):Prop:=
 ∀ (pins:List (GH×GK)) (s:GJ) (σ:St) (H:Hp) (Q:Bool->Hp->Prop),Inv X pins σ H s->t σ H Q->GN (GO X.prog X.w) X.A (isTrue e X.env (G0 e X.env)) (TP X pins σ Q) X.xe s
def PW (X:Cx)(e:Expr)(t:TT):Prop:=
 ∀ (whole:Sem GC) (pins:List (GH×GK)) (s:GJ) (σ:St) (H:Hp) (Q:Bool->Hp->Prop),Inv X pins σ H s->t σ H Q->GN (GO X.prog X.w) X.A (isTrue e X.env whole) (TP X pins σ Q) X.xe s
theorem PW.pt {X:Cx}{e:Expr}{t:TT}(h:PW X e t):PT X e t:=h _
def PA (X:Cx)(es:List Expr)(t:TA):Prop:=
 ∀ (pos:G1) (pins:List (GH×GK)) (s:GJ) (σ:St) (H:Hp) (Q:List V->Hp->Prop),Inv X pins σ H s->t σ H Q->GN (GO X.prog X.w) X.A (spliced (G3 pos (G4 es X.env))) (AP X pins σ Q) X.xe s
def PS (X:Cx)(st:G5)(t:TS):Prop:=
 ∀ (pins:List (GH×GK)) (s:GJ) (σ:St) (H:Hp) (D:HS),Inv X pins σ H s->t D σ H->GN (GO X.prog X.w) X.A (exec st X.env) (SP X pins D) X.xe s
def PSs (X:Cx)(st:List G5)(t:TS):Prop:=
 ∀ (pins:List (GH×GK)) (s:GJ) (σ:St) (H:Hp) (D:HS),Inv X pins σ H s->t D σ H->GN (GO X.prog X.w) X.A (execs st X.env) (SP X pins D) X.xe s
theorem thn {α:Type}{t:Sem α}{Q Q':α->GJ->Prop}{M:Model}{A:GL}{E:GC->GJ->Prop}{s:GJ}(h:GN M A t Q E s)(hQ: ∀a s,Q a s->Q' a s):GN M A t Q' E s:=G6 h hQ fun _ _ x=>x
end
section
section
variable {X:Cx}
theorem bin {a b:Expr}{ta tb:TE}(ha:PE X a ta)(hb:PE X b tb){pins:List (GH×GK)}{s:GJ}{σ:St}{H:Hp}{R:V->V->Hp->Prop}(I:Inv X pins σ H s)(h:ta σ H fun x H1=>tb σ H1 fun y H2=>R x y H2)
  {α:Type}{Q:α->GJ->Prop}{f:GC->GC->Sem α}
  (hf: ∀v u s2 x y H2,Inv X pins σ H2 s2->RelV x v->RelV y u->R x y H2->GN (GO X.prog X.w) X.A (f v u) Q X.xe s2):
  GN (GO X.prog X.w) X.A (G0 a X.env) (fun v s₁=>GN (GO X.prog X.w) X.A (G0 b X.env) (fun u s₂=>GN (GO X.prog X.w) X.A (f v u) Q X.xe s₂) X.xe s₁) X.xe s:=by
 refine thn (ha pins s σ H _ I h) fun v s1 qz=>?_
 obtain⟨x,H1,I1,r1,q1⟩:=qz
 refine thn (hb pins s1 σ H1 _ I1 q1) fun u s2 qz=>?_
 obtain⟨y,H2,I2,r2,q2⟩:=qz
 exact hf v u s2 x y H2 I2 r1 r2 q2
def M1 (i:Nat):TE:=fun σ H Q=> ∃v,σ[i]?=some (some v)/\Q v H
def tC (v:V):TE:=fun _ H Q=>Q v H
theorem z6 {i:Nat}{x:Str}{pos:G1}(hN:X.N[i]?=some x)(hv:Vis X.env.scope x)(hd:(x==("__debug__":Str))=false:=by decide)(hcd:(x==("__classdict__":Str))=false:=by decide):PE X (.Name x pos) (M1 i):=by
 intro pins s σ H Q I h
 obtain⟨v,e,h⟩:=h
 obtain⟨m,hn,hl⟩:=I.loc
 obtain⟨u,r,l⟩:=hl i x v hN e hv
 have fin:EP X pins σ Q u s:=⟨v,H,I,r,h⟩
 rcases l with⟨hk,hm⟩|⟨hk,c,hc,hcell⟩
 ·exact wpAny_Name (wpAny_loadName_local I.ok.kind hk hn hm fin) hd
 ·rcases hk with hk|hk
  ·exact wpAny_Name (wpAny_loadName_cell I.ok.kind hk hc hcell fin) hd
  ·exact wpAny_Name (wpAny_loadName_free I.ok.kind hk hc hcell fin hcd) hd
theorem Lq {i j pos}:PE X (.Constant (.int i) j pos) (tC (.int i)):=fun _ _ _ H _ I h=>wpAny_Constant_int ⟨.int i,H,I.tok _,⟨_,rfl⟩,h⟩
theorem vj {b j pos}:PE X (.Constant (.bool b) j pos) (tC (.bl b)):=fun _ _ _ H _ I h=>Constant_bool ⟨.bl b,H,I,rfl,h⟩
theorem Lr {x j pos}:PE X (.Constant (.str x) j pos) (tC (.str x)):=fun _ _ _ H _ I h=>Calls.Constant_str ⟨.str x,H,I.tok _,⟨_,rfl⟩,h⟩
noncomputable def Gl (X:Cx)(x:Str):Prop:=X.env.kindOf x=some .globalImplicit
theorem gB {E:GC->GJ->Prop}{pins:List (GH×GK)}{s:GJ}{σ:St}{H:Hp}{x:Str}{u:GC}{pos:G1}{Q:GC->GJ->Prop}(I:Inv X pins σ H s)(hg:Gl X x)(hm:X.mg x=some u)(h:Q u s)
  (hd:(x==("__debug__":Str))=false:=by decide):GN (GO X.prog X.w) X.A (G0 (.Name x pos) X.env) Q E s:=
 Calls.Name_function_global I.ok.kind hg (Calls.loadGlobal_global (by rw[I.ok.glob];exact I.mod.glob.keeps I.bk) hm h) hd
theorem kW {E:GC->GJ->Prop}{pins:List (GH×GK)}{s:GJ}{σ:St}{H:Hp}{x:Str}{u:GC}{pos:G1}{Q:GC->GJ->Prop}(I:Inv X pins σ H s)(hg:Gl X x)(hm:X.mg x=none)(hv:GX x=some u)(h:Q u s)
  (hn:x≠ "__name__":=by decide)(hd:(x==("__debug__":Str))=false:=by decide):GN (GO X.prog X.w) X.A (G0 (.Name x pos) X.env) Q E s:=by
 obtain⟨mb,h1,h2⟩:=I.mod.blt
 exact Calls.Name_function_global I.ok.kind hg (Calls.loadGlobal_builtin (by rw[I.ok.glob];exact I.mod.glob.keeps I.bk) hm (by rw[I.ok.blt];exact h1.keeps I.bk) ((h2 x hn).trans hv) h) hd
theorem cZ {x:Str}{v:V}{u:GC}{pos:G1}(hg:Gl X x)(hm:X.mg x=some u)(r:RelV v u)(hd:(x==("__debug__":Str))=false:=by decide):PE X (.Name x pos) (tC v):=
 fun _ _ _ H _ I h=>gB I hg hm ⟨v,H,I,r,h⟩ hd
theorem xK {x:Str}{v:V}{u:GC}{pos:G1}(hg:Gl X x)(hm:X.mg x=none)(hv:GX x=some u)(r:RelV v u)(hn:x≠ "__name__":=by decide)(hd:(x==("__debug__":Str))=false:=by decide):PE X (.Name x pos) (tC v):=
 fun _ _ _ H _ I h=>kW I hg hm hv ⟨v,H,I,r,h⟩ hn hd
variable {a b:Expr}{ta tb:TE}{pos:G1}
def PC (X:Cx)(op:CmpOp)(a b:Expr)(t:TE):Prop:=
 ∀ (pins:List (GH×GK)) (s:GJ) (σ:St) (H:Hp) (Q:VK),Inv X pins σ H s->t σ H Q->
   GN (GO X.prog X.w) X.A (G0 a X.env) (fun v s₁=>GN (GO X.prog X.w) X.A (G0 b X.env) (fun u s₂=>GN (GO X.prog X.w) X.A (G7 op v u) (EP X pins σ Q) X.xe s₂) X.xe s₁) X.xe s
def tB (t:TE):TT:=fun σ H Q=>t σ H fun x H1=> ∃c,x=.bl c/\Q c H1
theorem C7 {op:CmpOp}{t:TE}(h:PC X op a b t)(h1:G8 op b=false:=by first|exact nobehind _ (by decide) (by decide)|rfl):PT X (.Compare a [op] [b] pos) (tB t):=by
 intro pins s σ H Q I hw
 refine wpAny_isTrue_Compare1 (thn (h pins s σ H _ I hw) fun v s1 h1=>thn h1 fun u s2 h2=>thn h2 fun c s3 qz=>?_) h1
 obtain⟨x,H1,I1,r1,q1⟩:=qz
 obtain⟨d,rfl,q⟩:=q1
 cases r1
 exact GT ⟨H1,I1,q⟩
theorem gm {e:Expr}{t:TE}(h:PE X e t)(he: ∀whole,isTrue e X.env whole=(do let v<-whole;G9 e.pos;Ha [v] (truthy v)):=by intro _;rfl):PT X e (tB t):=by
 intro pins s σ H Q I hw
 refine isTrue_plain (thn (h pins s σ H _ I hw) fun v s1 qz=>?_) (he _)
 obtain⟨x,H1,I1,r1,q1⟩:=qz
 obtain⟨d,rfl,q⟩:=q1
 cases r1
 exact GT ⟨H1,I1,q⟩
variable {tA tB':TT}{LH:List Expr}
def tAnd (t u:TT):TT:=fun σ H Q=>t σ H fun c H1=>if c=true then u σ H1 Q else Q false H1
def tOr (t u:TT):TT:=fun σ H Q=>t σ H fun c H1=>if c=true then Q true H1 else u σ H1 Q
def tNot (t:TT):TT:=fun σ H Q=>t σ H fun c H1=>Q (!c) H1
theorem rV (ha:PT X a tA):PW X (.BoolOp .And [a] pos) tA:=by
 intro wh pins s σ H Q I h
 refine isTrue_and (thn (ha pins s σ H Q I h) fun c s1 e=>?_)
 cases c with
 |true=>exact isTrue_and_nil e
 |false=>exact e
theorem qR (ha:PT X a tA):PW X (.BoolOp .Or [a] pos) tA:=by
 intro wh pins s σ H Q I h
 refine isTrue_or (thn (ha pins s σ H Q I h) fun c s1 e=>?_)
 cases c with
 |false=>exact isTrue_or_nil e
 |true=>exact e
theorem uV (ha:PT X a tA)(hb:PW X (.BoolOp .And (b::LH) pos) tB'):PW X (.BoolOp .And (a::b::LH) pos) (tAnd tA tB'):=by
 intro wh pins s σ H Q I h
 refine isTrue_and (thn (ha pins s σ H _ I h) fun c s1 qz=>?_)
 obtain⟨H1,I1,q1⟩:=qz
 cases c with
 |true=>exact hb wh pins s1 σ H1 Q I1 q1
 |false=>exact⟨H1,I1,q1⟩
theorem uU (ha:PT X a tA)(hb:PW X (.BoolOp .Or (b::LH) pos) tB'):PW X (.BoolOp .Or (a::b::LH) pos) (tOr tA tB'):=by
 intro wh pins s σ H Q I h
 refine isTrue_or (thn (ha pins s σ H _ I h) fun c s1 qz=>?_)
 obtain⟨H1,I1,q1⟩:=qz
 cases c with
 |true=>exact⟨H1,I1,q1⟩
 |false=>exact hb wh pins s1 σ H1 Q I1 q1
theorem qS (ha:PT X a tA):PT X (.UnaryOp .Not a pos) (tNot tA):=by
 intro pins s σ H Q I h
 exact isTrue_not (ha pins s σ H (fun c H1=>Q (!c) H1) I h)
def tAndV (ta tb:TE):TE:=fun σ H Q=>ta σ H fun x H1=> ∃c,x=.bl c/\if c=true then tb σ H1 Q else Q (.bl false) H1
def tNotV (ta:TE):TE:=fun σ H Q=>ta σ H fun x H1=> ∃c,x=.bl c/\Q (.bl (!c)) H1
theorem vd {op}{t:TE}(h:PE X a t):PE X (.BoolOp op [a] pos) t:=fun pins s σ H Q I hw=>BoolOp_one (h pins s σ H Q I hw)
theorem vk (ha:PE X a ta)(hb:PE X (.BoolOp .And (b::LH) pos) tb):PE X (.BoolOp .And (a::b::LH) pos) (tAndV ta tb):=by
 intro pins s σ H Q I h
 refine BoolOp_and (thn (ha pins s σ H _ I h) fun v s1 qz=>?_)
 obtain⟨x,H1,I1,r1,q1⟩:=qz
 obtain⟨c,rfl,q1⟩:=q1
 cases r1
 refine GT ?_
 cases c with
 |true=>exact hb pins s1 σ H1 Q I1 q1
 |false=>exact⟨.bl false,H1,I1,rfl,q1⟩
theorem ve (ha:PE X a ta):PE X (.UnaryOp .Not a pos) (tNotV ta):=by
 intro pins s σ H Q I h
 refine UnaryOp_ (thn (ha pins s σ H _ I h) fun v s1 qz=>?_)
 obtain⟨x,H1,I1,r1,q1⟩:=qz
 obtain⟨c,rfl,q1⟩:=q1
 cases r1
 exact not_of (GT ⟨.bl (!c),H1,I1,rfl,q1⟩)
end
end
section
def SqL (K:PySem.W.Frag)(H:Hp)(a:GH)(xs:List V):Prop:=
 Rd H a (.lst xs)\/
  ∃ (o:GK) (its:Array GC) (n:Nat),K.lookup a=some o/\o.cls=.type "list"/\o.dict=none/\o.data=.seq its n/\its.size<=sizeLine/\Vals xs its.toList
def SqT (K:PySem.W.Frag)(H:Hp)(a:GH)(xs:List V):Prop:=
 Rd H a (.tup xs)\/
  ∃ (o:GK) (its:Array GC) (n:Nat),K.lookup a=some o/\o.cls=.type "tuple"/\o.data=.seq its n/\its.size<=sizeLine/\Vals xs its.toList
noncomputable def absV:GC->Option V
 |.none=>some .non
 |.bool b=>some (.bl b)
 |.int i _=>some (.int i)
 |.str x _=>some (.str x)
 |.bytes b _=>some (.byt b)
 |.float b _=>some (.flt b)
 |.ref a=>some (.ref a)
 |.type n=>some (.ty n)
 |_=>none
theorem RelV.abs {x:V}{u:GC}(r:RelV x u):absV u=some x:=by
 cases x with
 |non=>cases r;rfl
 |bl _=>cases r;rfl
 |int _=>obtain⟨t,rfl⟩:=r;rfl
 |str _=>obtain⟨t,rfl⟩:=r;rfl
 |byt _=>obtain⟨t,rfl⟩:=r;rfl
 |flt _=>obtain⟨t,rfl⟩:=r;rfl
 |ref _=>cases r;rfl
 |ty _=>cases r;rfl
theorem RelV.inj {x y:V}{u:GC}(r:RelV x u)(q:RelV y u):x=y:=Option.some.inj (r.abs.symm.trans q.abs)
theorem Vals.inj: ∀ {xs ys:List V}{us:List GC},Vals xs us->Vals ys us->xs=ys
 :=by
 intro xs ys us h
 induction h generalizing ys with
 |nil=>intro g;cases g;rfl
 |cons r t ih=>
  intro g
  cases g with
  |cons r' t'=>rw[r.inj r',ih t']
section
variable {X:Cx}{pins:List (GH×GK)}{σ:St}{H:Hp}{s:GJ}{a:GH}{xs ys:List V}
theorem SqL.of {K:PySem.W.Frag}(h:H a=some (.lst xs)):SqL K H a xs:=.inl (.inl h)
theorem SqT.of {K:PySem.W.Frag}(h:H a=some (.tup xs)):SqT K H a xs:=.inl (.inl h)
theorem Inv.list (I:Inv X pins σ H s)(h:SqL X.K H a xs): ∃its:List GC,Vals xs its/\PlainL s.heap a its.toArray/\xs.length<=sizeLine:=by
 rcases h with h|⟨o,its,n,hk,hc,hd,hs,hz,r⟩
 ·obtain⟨z,its,n,r,e⟩:=h.ok I.hok
  exact⟨its,r,⟨_,n,e,rfl,rfl,rfl⟩,z⟩
 ·refine⟨its.toList,r,⟨o,n,I.kIn a o hk,hc,hd,by simpa using hs⟩,?_⟩
  have e:=r.length
  simp only[EO] at e
  omega
theorem Inv.tuple (I:Inv X pins σ H s)(h:SqT X.K H a xs): ∃its:List GC,Vals xs its/\IsTup s.heap a its.toArray/\xs.length<=sizeLine:=by
 rcases h with h|⟨o,its,n,hk,hc,hs,hz,r⟩
 ·obtain⟨z,its,r,p⟩:=h.ok I.hok
  exact⟨its,r,p.1,z⟩
 ·refine⟨its.toList,r,⟨o,I.kIn a o hk,hc,n,by simpa using hs⟩,?_⟩
  have e:=r.length
  simp only[EO] at e
  omega
theorem Inv.list_inj (I:Inv X pins σ H s)(h:SqL X.K H a xs)(h':SqL X.K H a ys):xs=ys:=by
 obtain⟨its,r,⟨o,n,e,_,_,d⟩,_⟩:=I.list h
 obtain⟨its',r',⟨o',n',e',_,_,d'⟩,_⟩:=I.list h'
 rw[e] at e';cases e'
 rw[d] at d'
 injection d' with d1 _
 have:its=its':=by simpa using congrArg Array.toList d1
 subst this
 exact r.inj r'
theorem Inv.tuple_inj (I:Inv X pins σ H s)(h:SqT X.K H a xs)(h':SqT X.K H a ys):xs=ys:=by
 obtain⟨its,r,⟨o,e,_,n,d⟩,_⟩:=I.tuple h
 obtain⟨its',r',⟨o',e',_,n',d'⟩,_⟩:=I.tuple h'
 rw[e] at e';cases e'
 rw[d] at d'
 injection d' with d1 _
 have:its=its':=by simpa using congrArg Array.toList d1
 subst this
 exact r.inj r'
end
noncomputable abbrev Cx.wish (X:Cx)(E:GC->GJ->Prop):Cx:={X with xe:=E}
noncomputable abbrev Cx.nox (X:Cx):Cx:=X.wish fun _ _=>False
theorem Cx.Ok.wish {X:Cx}(ok:X.Ok)(E:GC->GJ->Prop):(X.wish E).Ok:=
 ⟨ok.mod,ok.kind,ok.glob,ok.blt,ok.above,ok.inj,ok.has,ok.cab,ok.hd,ok.frames,ok.stk,ok.exf,ok.bs,ok.bsz,ok.noex,ok.exfs,ok.funs,ok.frf⟩
theorem Cx.Ok.unwish {X:Cx}{E:GC->GJ->Prop}(ok:(X.wish E).Ok):X.Ok:=
 ⟨ok.mod,ok.kind,ok.glob,ok.blt,ok.above,ok.inj,ok.has,ok.cab,ok.hd,ok.frames,ok.stk,ok.exf,ok.bs,ok.bsz,ok.noex,ok.exfs,ok.funs,ok.frf⟩
section
variable {X:Cx}{pins:List (GH×GK)}{σ:St}{H:Hp}{s:GJ}{E:GC->GJ->Prop}
theorem Inv.wish (I:Inv X pins σ H s)(E:GC->GJ->Prop):Inv (X.wish E) pins σ H s:=⟨I.ok.wish E,I.os,I.bare,I.base,I.loc,I.cell,I.free,I.freeC,I.pin,I.hok,I.len⟩
theorem Inv.unwish (I:Inv (X.wish E) pins σ H s):Inv X pins σ H s:=⟨I.ok.unwish,I.os,I.bare,I.base,I.loc,I.cell,I.free,I.freeC,I.pin,I.hok,I.len⟩
theorem SP.unwish {D:HS}{f:Flow}{s':GJ}(h:SP (X.wish E) pins D f s'):SP X pins D f s':=by
 cases f with
 |next=>obtain⟨σ',H',I,q⟩:=h;exact⟨σ',H',I.unwish,q⟩
 |brk=>obtain⟨σ',H',I,q⟩:=h;exact⟨σ',H',I.unwish,q⟩
 |cont=>obtain⟨σ',H',I,q⟩:=h;exact⟨σ',H',I.unwish,q⟩
 |ret u=>obtain⟨v,σ',H',I,r,q⟩:=h;exact⟨v,σ',H',I.unwish,r,q⟩
theorem PSs.nox {st:List G5}{t:TS}(h:PSs X.nox st t):PSs X st t:=fun pins s σ H D I hw=>
 G6 (h pins s σ H D (I.wish _) hw) (fun _ _ q=>q.unwish) fun _ _ z=>False.elim z
end
section
variable {X:Cx}{st:G5}{LH:List G5}{t u:TS}{e:Expr}{te:TE}{pos:G1}
def tNext:TS:=fun D σ H=>D.nx σ H
def tSeq (t u:TS):TS:=fun D σ H=>t {D with nx:=u D} σ H
theorem Ly:PSs X [] tNext:=fun _ _ σ H _ I h=>Hb ⟨σ,H,I,h⟩
theorem ax (h1:PS X st t)(h2:PSs X LH u):PSs X (st::LH) (tSeq t u):=by
 intro pins s σ H D I h
 refine wpAny_execs_cons (thn (h1 pins s σ H {D with nx:=u D} I h) fun f s1 q=>?_)
 cases f with
 |next=>
  obtain⟨σ',H',I',q⟩:=q
  exact h2 pins s1 σ' H' D I' q
 |ret v=>exact q
 |brk=>exact q
 |cont=>exact q
theorem aK (h1:PS X st t):PSs X [st] t:=by
 intro pins s σ H D I h
 refine wpAny_execs_cons (thn (h1 pins s σ H D I h) fun f s1 q=>?_)
 cases f with
 |next=>exact Hb q
 |ret v=>exact q
 |brk=>exact q
 |cont=>exact q
theorem Inv.quiet {pins:List (GH×GK)}{σ:St}{H:Hp}{s:GJ}(I:Inv X pins σ H s):interactive X.env=false:=by simp [interactive,I.ok.kind]
def tDrop (te:TE):TS:=fun D σ H=>te σ H fun _ H1=>D.nx σ H1
theorem jW (he:PE X e te)(hs:swapsWith e none pos.line X.env=pure false:=by rfl):PS X (.Expr e pos) (tDrop te):=by
 intro pins s σ H D I h
 exact wpAny_Expr_any (thn (he pins s σ H _ I h) fun v s1 ⟨x,H1,I1,r1,q1⟩=>⟨σ,H1,I1,q1⟩) I.quiet hs
def tRet (te:TE):TS:=fun D σ H=>te σ H D.rt
theorem cK (he:PE X e te):PS X (.Return (some e) pos) (tRet te):=by
 intro pins s σ H D I h
 exact wpAny_Return_some (thn (he pins s σ H _ I h) fun v s1 ⟨x,H1,I1,r1,q1⟩=>⟨x,σ,H1,I1,r1,q1⟩)
def tIfS (c:TT)(t u:TS):TS:=fun D σ H=>c σ H fun b H1=>if b=true then t D σ H1 else u D σ H1
theorem gW {c:Expr}{a b:List G5}{tc:TT}(hc:PT X c tc)(ha:PSs X a t)(hb:PSs X b u):PS X (.If c a b pos) (tIfS tc t u):=by
 intro pins s σ H D I h
 refine wpAny_If (thn (hc pins s σ H _ I h) fun d s1 qz=>?_)
 obtain⟨H1,I1,q1⟩:=qz
 cases d with
 |true=>exact ha pins s1 σ H1 D I1 q1
 |false=>exact hb pins s1 σ H1 D I1 q1
def zC:TS:=fun _ _ _=>False
theorem tz {sts:List G5}:PSs X sts zC:=fun _ _ _ _ _ _ h=>h.elim
end
noncomputable abbrev TG:=V->St->Hp->(St->Hp->Prop)->Prop
noncomputable abbrev TGs:=List V->St->Hp->(St->Hp->Prop)->Prop
def PG (X:Cx)(target:Expr)(t:TG):Prop:=
 ∀ (pins:List (GH×GK)) (s:GJ) (σ:St) (H:Hp) (v:V) (u:GC) (Q:St->Hp->Prop),Inv X pins σ H s->RelV v u->t v σ H Q->
   GN (GO X.prog X.w) X.A (assign target X.env u) (fun _ s'=> ∃σ' H',Inv X pins σ' H' s'/\Q σ' H') X.xe s
def PGs (X:Cx)(ts:List Expr)(t:TGs):Prop:=
 ∀ (pins:List (GH×GK)) (s:GJ) (σ:St) (H:Hp) (vs:List V) (us:List GC) (Q:St->Hp->Prop),Inv X pins σ H s->Vals vs us->t vs σ H Q->
   GN (GO X.prog X.w) X.A (assignInOrder ((Hc ts X.env).map (·.2)) us) (fun _ s'=> ∃σ' H',Inv X pins σ' H' s'/\Q σ' H') X.xe s
noncomputable abbrev Ig:=V->V->V->Hp->(Hp->Prop)->Prop
def PSet (X:Cx)(t:Ig):Prop:=
 ∀ (pins:List (GH×GK)) (s:GJ) (σ:St) (H:Hp) (o i v:V) (ov iv u:GC) (Q:Hp->Prop),Inv X pins σ H s->RelV o ov->RelV i iv->RelV v u->t o i v H Q->
   GN (GO X.prog X.w) X.A (setItem ov iv u) (fun _ s'=> ∃H',Inv X pins σ H' s'/\Q H') X.xe s
section
variable {X:Cx}{pos:G1}
def Jd (i:Nat):TG:=fun v σ H Q=>Q (σ.set i (some v)) H
theorem bo {i:Nat}{x:Str}(hN:X.N.Nodup)(hi:X.N[i]?=some x)(hx:Loc X.env.scope x)(hf:X.fn x=true\/X.env.scope.names.lookup x=some .local :=by first|exact .inl rfl|exact .inr rfl|assumption):PG X (.Name x pos) (Jd i):=by
 intro pins s σ H v u Q I r h
 exact wpAny_assign_Name (kl I hN hi hx r (fun s' I'=>⟨_,H,I',h⟩) hf)
def gNil:TGs:=fun vs σ H Q=>vs=[]/\Q σ H
def Jc (t:TG)(u:TGs):TGs:=fun vs σ H Q=> ∃v r,vs=v::r/\t v σ H fun σ' H'=>u r σ' H' Q
theorem iT:PGs X [] gNil:=by
 intro pins s σ H vs us Q I r h
 obtain⟨e,h⟩:=h
 subst e
 cases r
 exact assignInOrder_nil ⟨σ,H,I,h⟩
theorem dm {e:Expr}{es:List Expr}{t:TG}{u:TGs}(h1:PG X e t)(h2:PGs X es u)
  (hs:(Hc (e::es) X.env).map (·.2)=assign e X.env::(Hc es X.env).map (·.2):=by rfl):PGs X (e::es) (Jc t u):=by
 intro pins s σ H vs us Q I r h
 obtain⟨v,vr,e1,h⟩:=h
 subst e1
 cases r with
 |cons r rr=>
  rw[hs]
  refine assignInOrder_cons (thn (h1 pins s σ H _ _ _ I r h) fun _ s1 qz=>?_)
  obtain⟨σ1,H1,I1,q1⟩:=qz
  exact h2 pins s1 σ1 H1 _ _ Q I1 rr q1
def gTup (K:PySem.W.Frag)(n:Nat)(t:TGs):TG:=fun v σ H Q=> ∃a xs,v=.ref a/\SqT K H a xs/\xs.length=n/\t xs σ H Q
theorem jv {es:List Expr}{k:Nat}{t:TGs}{n:Nat}(hc:X.calm=true)(h:PGs X es t)
  (hn:(Hc es X.env).length=n:=by rfl)(hst:(Hc es X.env).findIdx? (·.1)=none:=by rfl):PG X (.Tuple es k pos) (gTup X.K n t):=by
 intro pins s σ H v u Q I r hw
 obtain⟨a,xs,e1,hq,hl,hw⟩:=hw
 subst e1
 cases r
 obtain⟨its,rv,ht,hz⟩:=I.tuple hq
 refine assign_Tuple_tuple (I.ok.hd hc) ht (by simp [hn,<-hl,rv.length]) hst fun h' hx=>?_
 have I1:Inv X pins σ H {s with heap:=h'}:=I.kept (t':=s.toks) fun b o e=>hx b o (Dw (Dn e)) e
 exact h pins _ σ H xs _ Q I1 (by simpa using rv) hw
def gSub (to ti:TE)(t:Ig):TG:=fun v σ H Q=>to σ H fun o H1=>ti σ H1 fun i H2=>t o i v H2 fun H3=>Q σ H3
theorem z0 {o i:Expr}{to ti:TE}{t:Ig}(ho:PE X o to)(hi:PE X i ti)(hs:PSet X t)
  (ha: ∀v,assign (.Subscript o i pos) X.env v=(do
   let ov<-Ha [v] (G0 o X.env)
   let iv<-Ha [v,ov] (G0 i X.env)
   G9 pos
   Ha [v,ov,iv] (setItem ov iv v)
   release [v,ov,iv] []):=by intro _;rfl):PG X (.Subscript o i pos) (gSub to ti t):=by
 intro pins s σ H v u Q I r h
 rw[ha]
 refine GP (GR (thn (ho pins s σ H _ I h) fun ov s1 qz=>?_))
 obtain⟨x,H1,I1,r1,q1⟩:=qz
 refine GP (GR (thn (hi pins s1 σ H1 _ I1 q1) fun iv s2 qz=>?_))
 obtain⟨y,H2,I2,r2,q2⟩:=qz
 refine GP (wpAny_standAt (GP (GR (thn (hs pins s2 σ H2 x y v ov iv u _ I2 r1 r2 r q2) fun _ s3 qz=>?_))))
 obtain⟨H3,I3,q3⟩:=qz
 exact wpAny_release ⟨σ,H3,I3,q3⟩
def MU (te:TE)(g:TG):TS:=fun D σ H=>te σ H fun x H1=>g x σ H1 D.nx
theorem uY {tg e:Expr}{te:TE}{g:TG}(he:PE X e te)(hg:PG X tg g)(hs:swapsWithSole [tg] e pos.line X.env=pure false:=by rfl)(hw:swappedStores [tg] e X.env=pure none:=by rfl)
  (h1:(Hc [tg] X.env).map (·.2)=[assign tg X.env]:=by rfl):PS X (.Assign [tg] e pos) (MU te g):=by
 intro pins s σ H D I h
 refine wpAny_Assign_stores (thn (he pins s σ H _ I h) fun v s1 qz=>?_) hs hw
 obtain⟨x,H1,I1,r1,q1⟩:=qz
 rw[h1]
 exact thn (hg pins s1 σ H1 x v _ I1 r1 q1) fun _ s2 q=>q
theorem dJ {i:Nat}{x:Str}{e:Expr}{te:TE}{pos':G1}(hN:X.N.Nodup)(hi:X.N[i]?=some x)(hx:Loc X.env.scope x)(he:PE X e te)(hs:swapsWith e (some (.Name x pos')) pos.line X.env=pure false:=by rfl)(hf:X.fn x=true\/X.env.scope.names.lookup x=some .local :=by first|exact .inl rfl|exact .inr rfl|assumption):
  PS X (.Assign [.Name x pos'] e pos) (MU te (Jd i)):=by
 intro pins s σ H D I h
 refine wpAny_Assign_Name (thn (he pins s σ H _ I h) fun v s1 qz=>?_) hs
 obtain⟨y,H1,I1,r1,q1⟩:=qz
 exact kl I1 hN hi hx r1 (fun s2 I2=>⟨_,H1,I2,q1⟩) hf
end
section
variable {X:Cx}{pos:G1}
def zx (c:TT)(tb:TS):TS:=fun D σ H=> ∃W:Nat->St->Hp->Prop,(∃m,W m σ H)/\ ∀m σ H,W m σ H->
 c σ H fun b H1=>if b=true then∃N:St->Hp->Prop,(∀σ' H',N σ' H'-> ∃m',m'<m/\W m' σ' H')/\tb {D with nx:=N,ct:=N,bk:=D.nx} σ H1 else D.nx σ H1
theorem kC {c:Expr}{body:List G5}{tc:TT}{tb:TS}(hp:Hd (GO X.prog X.w) X.A X.env X.xe)(hc:PT X c tc)(hb:PSs X body tb):PS X (.While c body [] pos) (zx tc tb):=by
 intro pins s σ H D I h
 obtain⟨W,⟨m0,w0⟩,turn⟩:=h
 refine wpAny_While (codeAny_whileLoop (fun n s'=> ∃σ' H',Inv X pins σ' H' s'/\W n σ' H') ?_ m0 ⟨σ,H,I,w0⟩)
 rintro n s1 ⟨σ1,H1,I1,w1⟩
 refine He hp (thn (hc pins s1 σ1 H1 _ I1 (turn n σ1 H1 w1)) fun b s2 qz=>?_)
 obtain⟨H2,I2,q2⟩:=qz
 cases b with
 |true=>
  obtain⟨N,hN,q2⟩:=q2
  rw[if_pos rfl]
  refine He hp (thn (hb pins s2 σ1 H2 _ I2 q2) fun f s3 q3=>?_)
  cases f with
  |next=>
   obtain⟨σ3,H3,I3,n3⟩:=q3
   obtain⟨m',hm,w3⟩:=hN σ3 H3 n3
   exact⟨m',hm,σ3,H3,I3,w3⟩
  |cont=>
   obtain⟨σ3,H3,I3,n3⟩:=q3
   obtain⟨m',hm,w3⟩:=hN σ3 H3 n3
   exact⟨m',hm,σ3,H3,I3,w3⟩
  |brk=>exact q3
  |ret v=>exact q3
 |false=>
  rw[if_neg Ds]
  exact Hb ⟨σ1,H2,I2,q2⟩
end
structure It where
 go:Nat->Hp->Prop
 yld:Nat->Hp->V->Hp->Prop
 stop:Nat->Hp->Prop
def HX (X:Cx)(pins:List (GH×GK))(H:Hp)(b:GH):Prop:=
 H b=none/\b≠X.env.locals/\b ∉ X.fs/\(b∈X.ex\/X.s₀.heap.objs.size<=b)/\(∀x c,X.env.cells.lookup x=some c->c≠b)/\ ∀p∈X.pn++pins,p.1≠b
theorem Inv.fpOk {X:Cx}{pins:List (GH×GK)}{σ:St}{H H':Hp}{s:GJ}{b:GH}(I:Inv X pins σ H s)(hb:s.heap.objs.size<=b)(hn:H' b=none):HX X pins H' b:=by
 refine⟨hn,FD (Dv I.lt hb),I.nofs hb,.inr (Dy I.sz hb),fun x c e z=>?_,fun p hp z=>?_⟩
 ·obtain⟨v,q⟩:=I.cell x c e
  exact absurd (Dv q.lt (by rw[z];exact hb)) (Em _)
 ·exact absurd (Dv (Dn (I.pin p hp).1) (by rw[z];exact hb)) (Em _)
structure Ij (P:GE)(w:GF)(K:PySem.W.Frag)(tg:Expr)(J:It)(fp:List GH)(it:GH)(tn:Nat->GG->Prop):Prop where
 mem:it∈fp
 obj: ∀i h,tn i h-> ∀b∈fp,∃o,h.get? b=some o/\ ∀v,o.data≠.cell v
 keep: ∀i h h',tn i h->(∀b∈fp,∀o,h.get? b=some o->h'.get? b=some o)->tn i h'
 item: ∀ (X:Cx),X.prog=P->X.w=w->X.K=K->X.calm=true-> ∀ (i:Nat) (pins:List (GH×GK)) (s:GJ) (σ:St) (H:Hp) (E:GC->GJ->Prop),Inv X pins σ H s->(∀b∈fp,HX X pins H b)->tn i s.heap->J.go i H->
  GN (GO P w) X.A (pyNext (.ref it)) (fun r s1=> ∃u,r=some u/\
   GN (GO P w) X.A (Hf tg (.ref it) u) (fun _ s2=> ∃x H',Inv X pins σ H' s2/\RelV x u/\J.yld i H x H'/\tn (i+1) s2.heap/\ ∀b∈fp,H' b=none) E s1) E s
 done: ∀ (X:Cx),X.prog=P->X.w=w->X.K=K->X.calm=true-> ∀ (i:Nat) (pins:List (GH×GK)) (s:GJ) (σ:St) (H:Hp) (E:GC->GJ->Prop),Inv X pins σ H s->(∀b∈fp,HX X pins H b)->tn i s.heap->J.stop i H->
  GN (GO P w) X.A (pyNext (.ref it)) (fun r s1=>r=none/\Inv X pins σ H s1) E s
 self: ∀ (A:GL) (i:Nat) (s:GJ) (Q:GC->GJ->Prop) (E:GC->GJ->Prop),tn i s.heap->Q (.ref it) s->GN (GO P w) A (pyIter (.ref it)) Q E s
noncomputable abbrev TI:=St->Hp->(It->Hp->Prop)->Prop
def PIE (X:Cx)(pins:List (GH×GK))(σ:St)(tg:Expr)(R:It->Hp->Prop)(itv:GC)(s2:GJ):Prop:=
 ∃ (it:GH) (fp:List GH) (tn:Nat->GG->Prop) (J:It) (H':Hp),itv=.ref it/\Inv X pins σ H' s2/\Ij X.prog X.w X.K tg J fp it tn/\tn 0 s2.heap/\(∀b∈fp,HX X pins H' b)/\R J H'
def PI (X:Cx)(tg iter:Expr)(wi:TI):Prop:=
 ∀ (pins:List (GH×GK)) (s:GJ) (σ:St) (H:Hp) (R:It->Hp->Prop),Inv X pins σ H s->wi σ H R->
   GN (GO X.prog X.w) X.A (G0 iter X.env) (fun v s1=>GN (GO X.prog X.w) X.A (pyIter v) (PIE X pins σ tg R) X.xe s1) X.xe s
theorem sA {M:Model}{A:GL}{E:GC->GJ->Prop}{s:GJ}{tg:Expr}{it:GH}{u:GC}{o:GK}{n:String}{vs:Array GC}{Q:Unit->GJ->Prop}(ho:s.heap.get? it=some o)(hc:o.cls=.type n)(hd:o.data=.fields vs)
  (hn:["enumerate", "zip", "dict_itemiterator", "dict_reverseitemiterator", "odict_iterator", "itertools.zip_longest", "itertools.pairwise"].contains n=false)(hQ:Q () s):GN M A (Hf tg (.ref it) u) Q E s:=by
 unfold Hf
 cases tg<;>first
  |exact GQ hQ
  |(cases u<;>first
   |exact GQ hQ
   |(refine GP (wpAny_load ho ?_)
     rw[hc,hd]
     show GN M A (if (["enumerate", "zip", "dict_itemiterator", "dict_reverseitemiterator", "odict_iterator", "itertools.zip_longest", "itertools.pairwise"].contains n && vs[0]?==some (Hg _))=true then _ else _) Q E s
     rw[if_neg (by intro h;rw[hn,EQ] at h;cases h)]
     exact GQ hQ))
def Itl (K:PySem.W.Frag)(a:GH):It:=
 ⟨fun i H=> ∃xs x,SqL K H a xs/\xs[i]?=some x,fun i H x H'=>H'=H/\ ∀xs,SqL K H a xs->xs[i]?=some x,fun i H=> ∃xs,SqL K H a xs/\xs.length<=i⟩
def Itt (K:PySem.W.Frag)(a:GH):It:=
 ⟨fun i H=> ∃xs x,SqT K H a xs/\xs[i]?=some x,fun i H x H'=>H'=H/\ ∀xs,SqT K H a xs->xs[i]?=some x,fun i H=> ∃xs,SqT K H a xs/\xs.length<=i⟩
noncomputable def Itr (lo:Int)(n:Nat):It:=⟨fun i _=>i<n,fun i H x H'=>H'=H/\x=.int (lo+i),fun i _=>n<=i⟩
theorem sR {P:GE}{w:GF}{K:PySem.W.Frag}{tg:Expr}(a it:GH):Ij P w K tg (Itl K a) [it] it (fun i h=>h.IsListIter it a i) where
 mem:=by simp
 obj:=fun i h st b hb=>by
  have e:b=it:=by simpa using hb
  subst e
  obtain⟨o,e,c,d⟩:=st
  exact⟨o,e,fun v z=>by rw[d] at z;cases z⟩
 keep:=fun i h h' st k=>st.at fun o e=>k it (by simp) o e
 item:=by
  intro X hP hw hK hc i pins s σ H E I hf st hg
  subst hP hw hK
  obtain⟨xs,x,hq,hx⟩:=hg
  obtain⟨its,rv,p,hz⟩:=I.list hq
  obtain⟨u,hu,ru⟩:=rv.get hx
  obtain⟨f0,f1,f2,f3,f4,f5⟩:=hf it (by simp)
  refine wpAny_pyNext_list_item st p.isList (x:=u) (by simpa using hu) fun h' st' sb=>?_
  have I1:Inv X pins σ H {s with heap:=h'}:=I.turned (t':=s.toks) (fun b o hb e=>(sb.2 b hb).trans e) f0 f1 f3 f4 f5
  obtain⟨o,e,c,d⟩:=id st'
  exact⟨u,rfl,sA (s:={s with heap:=h'}) e c d (by decide) ⟨x,H,I1,ru,⟨rfl,fun ys hy=>by rw[I.list_inj hy hq];exact hx⟩,st',fun b hb=>(hf b hb).1⟩⟩
 done:=by
  intro X hP hw hK hc i pins s σ H E I hf st hg
  subst hP hw hK
  obtain⟨xs,hq,hx⟩:=hg
  obtain⟨its,rv,p,hz⟩:=I.list hq
  obtain⟨f0,f1,f2,f3,f4,f5⟩:=hf it (by simp)
  have hl:=rv.length
  exact wpAny_pyNext_list_end (I.ok.hd hc) st p.isList (by simp;omega) fun h' eb=>⟨rfl,I.turned (t':=s.toks) (fun b o hb e=>eb b o hb e) f0 f1 f3 f4 f5⟩
 self:=fun _ _ _ _ _ st h=>wpAny_pyIter_listiter st h
theorem qB {P:GE}{w:GF}{K:PySem.W.Frag}{tg:Expr}(a it:GH):Ij P w K tg (Itt K a) [it] it (fun i h=>h.IsTupleIter it a i) where
 mem:=by simp
 obj:=fun i h st b hb=>by
  have e:b=it:=by simpa using hb
  subst e
  obtain⟨o,e,c,d⟩:=st
  exact⟨o,e,fun v z=>by rw[d] at z;cases z⟩
 keep:=fun i h h' st k=>st.at fun o e=>k it (by simp) o e
 item:=by
  intro X hP hw hK hc i pins s σ H E I hf st hg
  subst hP hw hK
  obtain⟨xs,x,hq,hx⟩:=hg
  obtain⟨its,rv,p,hz⟩:=I.tuple hq
  obtain⟨u,hu,ru⟩:=rv.get hx
  obtain⟨f0,f1,f2,f3,f4,f5⟩:=hf it (by simp)
  refine wpAny_pyNext_tuple_item st (show s.heap.IsTuple a its.toArray from p) (x:=u) (by simpa using hu) fun h' st' sb=>?_
  have I1:Inv X pins σ H {s with heap:=h'}:=I.turned (t':=s.toks) (fun b o hb e=>(sb.2 b hb).trans e) f0 f1 f3 f4 f5
  obtain⟨o,e,c,d⟩:=id st'
  exact⟨u,rfl,sA (s:={s with heap:=h'}) e c d (by decide) ⟨x,H,I1,ru,⟨rfl,fun ys hy=>by rw[I.tuple_inj hy hq];exact hx⟩,st',fun b hb=>(hf b hb).1⟩⟩
 done:=by
  intro X hP hw hK hc i pins s σ H E I hf st hg
  subst hP hw hK
  obtain⟨xs,hq,hx⟩:=hg
  obtain⟨its,rv,p,hz⟩:=I.tuple hq
  obtain⟨f0,f1,f2,f3,f4,f5⟩:=hf it (by simp)
  have hl:=rv.length
  exact wpAny_pyNext_tuple_end (I.ok.hd hc) st (show s.heap.IsTuple a its.toArray from p) (by simp;omega) fun h' eb=>⟨rfl,I.turned (t':=s.toks) (fun b o hb e=>eb b o hb e) f0 f1 f3 f4 f5⟩
 self:=fun _ _ _ _ _ st h=>wpAny_pyIter_tupleiter st h
theorem qC {P:GE}{w:GF}{K:PySem.W.Frag}{tg:Expr}(it:GH)(lo:Int)(n:Nat):Ij P w K tg (Itr lo n) [it] it (fun i h=>IsRangeIter h it (lo+(i:Nat) * 1) ((n:Int) - (i:Nat)) 1) where
 mem:=by simp
 obj:=fun i h st b hb=>by
  have e:b=it:=by simpa using hb
  subst e
  exact⟨_,st,fun v z=>by
   have z':Data.fields _=Data.cell v:=z
   cases z'⟩
 keep:=fun i h h' st k=>k it (by simp) _ st
 item:=by
  intro X hP hw hK hc i pins s σ H E I hf st hg
  subst hP hw hK
  obtain⟨f0,f1,f2,f3,f4,f5⟩:=hf it (by simp)
  have W:=Walks.range (prog:=X.prog) (w:=X.w) (I.ok.hd hc) it lo 1 n
  refine W.item i s _ _ hg st fun v h' tk hv st' kk=>?_
  obtain⟨t,rfl⟩:=hv
  have I1:Inv X pins σ H {s with heap:=h',toks:=tk}:=I.turned (fun b o hb e=>kk b o (by simpa using hb) e) f0 f1 f3 f4 f5
  refine⟨_,rfl,sA (s:={s with heap:=h',toks:=tk}) (n:= "range_iterator") st' rfl rfl (by decide) ⟨.int (lo+i),H,I1,⟨t,?_⟩,⟨rfl,rfl⟩,st',fun b hb=>(hf b hb).1⟩⟩
  rw[Int.mul_one]
 done:=by
  intro X hP hw hK hc i pins s σ H E I hf st hg
  subst hP hw hK
  obtain⟨f0,f1,f2,f3,f4,f5⟩:=hf it (by simp)
  exact wpAny_pyNext_range_end (I.ok.hd hc) st (by have:n<=i:=hg;omega) fun h' eb=>⟨rfl,I.turned (t':=s.toks) (fun b o hb e=>eb b o hb e) f0 f1 f3 f4 f5⟩
 self:=fun _ _ _ _ _ st h=>wpAny_pyIter_rangeiter st h
end
section
section
variable {X:Cx}{tg:Expr}
def iList (K:PySem.W.Frag)(tl:TE):TI:=fun σ H R=>tl σ H fun x H1=> ∃a,x=.ref a/\(∃xs,SqL K H1 a xs)/\R (Itl K a) H1
def iTup (K:PySem.W.Frag)(tl:TE):TI:=fun σ H R=>tl σ H fun x H1=> ∃a,x=.ref a/\(∃xs,SqT K H1 a xs)/\R (Itt K a) H1
theorem xG {l:Expr}{tl:TE}(hl:PE X l tl):PI X tg l (iList X.K tl):=by
 intro pins s σ H R I h
 refine thn (hl pins s σ H _ I h) fun v s1 qz=>?_
 obtain⟨x,H1,I1,r1,q1⟩:=qz
 obtain⟨a,e,⟨xs,hq⟩,q⟩:=q1
 subst e
 cases r1
 obtain⟨its,rv,p,hz⟩:=I1.list hq
 refine wpAny_pyIter_list p.isList ?_
 refine⟨s1.heap.objs.size,[s1.heap.objs.size],_,_,H1,rfl,I1.kept (t':=s1.toks) fun b o e=>DF _ e,sR a _,⟨_,D0 _ rfl,rfl,rfl⟩,fun b hb=>?_,q⟩
 have e:b=s1.heap.objs.size:=by simpa using hb
 subst e
 exact I1.fpOk (Dl _) (I1.hok.fresh (Dl _))
theorem zZ {l:Expr}{tl:TE}(hl:PE X l tl):PI X tg l (iTup X.K tl):=by
 intro pins s σ H R I h
 refine thn (hl pins s σ H _ I h) fun v s1 qz=>?_
 obtain⟨x,H1,I1,r1,q1⟩:=qz
 obtain⟨a,e,⟨xs,hq⟩,q⟩:=q1
 subst e
 cases r1
 obtain⟨its,rv,p,hz⟩:=I1.tuple hq
 refine wpAny_pyIter_tuple (show s1.heap.IsTuple a its.toArray from p) ?_
 refine⟨s1.heap.objs.size,[s1.heap.objs.size],_,_,H1,rfl,I1.kept (t':=s1.toks) fun b o e=>DF _ e,qB a _,⟨_,D0 _ rfl,rfl,rfl⟩,fun b hb=>?_,q⟩
 have e:b=s1.heap.objs.size:=by simpa using hb
 subst e
 exact I1.fpOk (Dl _) (I1.hok.fresh (Dl _))
theorem uT {pins:List (GH×GK)}{σ:St}{H:Hp}{s:GJ}{R:It->Hp->Prop}{E:GC->GJ->Prop}{lo hi:Int}{t u v:Tok}{tk:Nat}(I:Inv X pins σ H s)(h1: -(2 ^ 62)<=lo)(h2:lo<2 ^ 62)(h3: -(2 ^ 62)<=hi)(h4:hi<2 ^ 62)
  (q:R (Itr lo (hi - lo).toNat) H):GN (GO X.prog X.w) X.A (pyIter (.ref s.heap.objs.size)) (PIE X pins σ tg R) E {s with heap:=s.heap.push {cls:=.type "range",data:=.fields #[.int lo t,.int hi u,.int 1 v]},toks:=tk}:=by
 refine wpAny_pyIter_range (IsRange.new ..) (small_one h1 h2 h3 h4) ?_
 have I1:Inv X pins σ H {s with heap:=s.heap.push {cls:=.type "range",data:=.fields #[.int lo t,.int hi u,.int 1 v]},toks:=tk}:=I.kept fun b o e=>DF _ e
 refine⟨(s.heap.push {cls:=.type "range",data:=.fields #[.int lo t,.int hi u,.int 1 v]}).objs.size,[(s.heap.push {cls:=.type "range",data:=.fields #[.int lo t,.int hi u,.int 1 v]}).objs.size],_,_,H,rfl,
  I1.kept (t':=tk) fun b o e=>DF _ e,qC _ lo (hi - lo).toNat,?_,fun b hb=>?_,q⟩
 ·have e1:lo+((0:Nat):Int) * 1=lo:=by simp
  have e2:(((hi - lo).toNat:Nat):Int) - ((0:Nat):Int)=GD.Range.rangeSize lo hi 1:=by rw[rangeSize_one];split<;>omega
  show IsRangeIter _ _ (lo+((0:Nat):Int) * 1) ((((hi - lo).toNat:Nat):Int) - ((0:Nat):Int)) 1
  rw[e1,e2]
  exact D0 _ rfl
 ·have e:b=(s.heap.push {cls:=.type "range",data:=.fields #[.int lo t,.int hi u,.int 1 v]}).objs.size:=by simpa using hb
  subst e
  exact I1.fpOk (Dl _) (I1.hok.fresh (Dl _))
def iRng1 (ta:TA):TI:=fun σ H R=>ta σ H fun vs H1=> ∃j:Int,vs=[.int j]/\ -(2 ^ 62)<=j/\j<2 ^ 62/\R (Itr 0 j.toNat) H1
theorem tH {a:Expr}{ta:TA}{p pos:G1}(hg:Gl X "range")(hm:X.mg "range"=none)(ha:PA X [a] ta)(hs:G4 [a] X.env=[(false,G0 a X.env)]:=by rfl):PI X tg (.Call (.Name "range" p) [a] [] pos) (iRng1 ta):=by
 intro pins s σ H R I h
 refine Call_ (kW I hg hm boot_range (PyProof.Rows.callWith_type1 (thn (ha pos pins s σ H _ I h) fun us s1 qz=>?_) hs rfl))
 obtain⟨vs,H1,I1,r1,q1⟩:=qz
 obtain⟨j,e,q1,q2,q⟩:=q1
 subst e
 cases r1 with
 |cons r rr=>
  cases rr
  obtain⟨t,rfl⟩:=r
  exact call_range_1 (uT I1 (by omega) (by omega) q1 q2 (by simpa using q))
def tFor (wi:TI)(g:TG)(tb:TS):TS:=fun D σ H=>wi σ H fun J H1=> ∃W:Nat->Nat->St->Hp->Prop,(∃m,W 0 m σ H1)/\ ∀i m σ H,W i m σ H->
 (J.stop i H/\D.nx σ H)\/(J.go i H/\ ∃N:St->Hp->Prop,(∀σ' H',N σ' H'-> ∃m',m'<m/\W (i+1) m' σ' H')/\ ∀x H',J.yld i H x H'->g x σ H' fun σ2 H2=>tb {D with nx:=N,ct:=N,bk:=D.nx} σ2 H2)
noncomputable def ju (fp:List GH)(h:GG):List (GH×GK):=fp.filterMap fun b=>(h.get? b).map fun o=>(b,o)
theorem gy {fp:List GH}{h:GG}{b:GH}{o:GK}(hb:b∈fp)(e:h.get? b=some o):(b,o)∈ju fp h:=FE.mpr ⟨b,hb,by rw[e];rfl⟩
theorem tR {fp:List GH}{h:GG}{p:GH×GK}(hp:p∈ju fp h):p.1∈fp/\h.get? p.1=some p.2:=by
 obtain⟨b,hb,e⟩:=FE.mp hp
 cases q:h.get? b with
 |none=>rw[q] at e;cases e
 |some o=>
  rw[q] at e
  have e':(b,o)=p:=Option.some.inj e
  subst e'
  exact⟨hb,q⟩
theorem Inv.pinned {pins:List (GH×GK)}{σ:St}{H:Hp}{s:GJ}{fp:List GH}(I:Inv X pins σ H s)(hf: ∀b∈fp,HX X pins H b)(ho: ∀b∈fp,∃o,s.heap.get? b=some o/\ ∀v,o.data≠.cell v):Inv X (pins++ju fp s.heap) σ H s:=
 I.pins_of fun p hp=>(DE.mp hp).elim (fun z=>I.pin p (DW _ z)) fun z=>by
  obtain⟨hb,e⟩:=tR z
  obtain⟨f0,f1,f2,_⟩:=hf p.1 hb
  obtain⟨o,e',d⟩:=ho p.1 hb
  rw[e] at e';cases e'
  exact⟨e,f0,f1,f2,d⟩
theorem Inv.unpinned {pins pl:List (GH×GK)}{σ:St}{H:Hp}{s:GJ}(I:Inv X (pins++pl) σ H s):Inv X pins σ H s:=I.pins_of fun p hp=>I.pin p (DW _ (Eu _ hp))
theorem zV {iter:Expr}{body:List G5}{wi:TI}{g:TG}{tb:TS}{pos:G1}(hp:Hd (GO X.prog X.w) X.A X.env X.xe)(hc:X.calm=true)(hi:PI X tg iter wi)(hg:PG X tg g)(hb:PSs X body tb)
  (hs: ∀x,Hh iter X.env x=pure x:=by intro _;rfl):PS X (.For tg iter body [] pos) (tFor wi g tb):=by
 intro pins s σ H D I h
 refine wpAny_For (thn (hi pins s σ H _ I h) fun v s1 h1=>thn h1 fun itv s2 h2=>?_) hs
 obtain⟨it,fp,tn,J,H2,e,I2,T,st2,f2,W,⟨m0,w0⟩,turn⟩:=h2
 subst e
 have stat: ∀ {H':Hp},(∀b∈fp,H' b=none)-> ∀b∈fp,HX X pins H' b:=fun hn b hb=>⟨hn b hb,(f2 b hb).2⟩
 refine codeAny_forLoop_any (fun n s'=> ∃i σ' H',Inv X pins σ' H' s'/\tn i s'.heap/\(∀b∈fp,H' b=none)/\W i n σ' H') ?_ m0 ⟨0,σ,H2,I2,st2,fun b hb=>(f2 b hb).1,w0⟩
 rintro n s3 ⟨i,σ3,H3,I3,st3,fr3,w3⟩
 rcases turn i n σ3 H3 w3 with⟨stop,qn⟩|⟨go,N,hN,step⟩
 ·refine He hp (thn (T.done X rfl rfl rfl hc i pins s3 σ3 H3 X.xe I3 (stat fr3) st3 stop) fun r s4 qz=>?_)
  obtain⟨hr,I4⟩:=qz
  subst hr
  exact Hb ⟨σ3,H3,I4,qn⟩
 ·refine He hp (thn (T.item X rfl rfl rfl hc i pins s3 σ3 H3 X.xe I3 (stat fr3) st3 go) fun r s4 qz=>?_)
  obtain⟨u,hr,h4⟩:=qz
  subst hr
  refine He hp (thn h4 fun _ s5 qz=>?_)
  obtain⟨x,H5,I5,r5,y5,st5,fr5⟩:=qz
  have I5':=I5.pinned (stat fr5) (T.obj _ _ st5)
  refine He hp (thn (hg _ s5 σ3 H5 x u _ I5' r5 (step x H5 y5)) fun _ s6 qz=>?_)
  obtain⟨σ6,H6,I6,q6⟩:=qz
  refine He hp (thn (hb _ s6 σ6 H6 _ I6 q6) fun f s7 q7=>?_)
  have again: ∀ {σ7:St}{H7:Hp},Inv X (pins++ju fp s5.heap) σ7 H7 s7->N σ7 H7-> ∃m,m<n/\ ∃i σ' H',Inv X pins σ' H' s7/\tn i s7.heap/\(∀b∈fp,H' b=none)/\W i m σ' H':=fun{σ7 H7} I7 n7=>by
   obtain⟨m',hm,w7⟩:=hN σ7 H7 n7
   refine⟨m',hm,i+1,σ7,H7,I7.unpinned,T.keep _ _ _ st5 fun b hb o e=>(I7.pin (b,o) (DW _ (DW _ (gy hb e)))).1,fun b hb=>?_,w7⟩
   obtain⟨o,e,d⟩:=T.obj _ _ st5 b hb
   exact (I7.pin (b,o) (DW _ (DW _ (gy hb e)))).2.1
  cases f with
  |next=>obtain⟨σ7,H7,I7,n7⟩:=q7;exact again I7 n7
  |cont=>obtain⟨σ7,H7,I7,n7⟩:=q7;exact again I7 n7
  |brk=>obtain⟨σ7,H7,I7,q7⟩:=q7;exact⟨σ7,H7,I7.unpinned,q7⟩
  |ret v=>obtain⟨x7,σ7,H7,I7,r7,q7⟩:=q7;exact⟨x7,σ7,H7,I7.unpinned,r7,q7⟩
end
end
section
noncomputable abbrev R2:=V->V->Hp->VK->Prop
def OpR (X:Cx)(f:GC->GC->Sem GC)(r:R2):Prop:=
 ∀ (pins:List (GH×GK)) (s:GJ) (σ:St) (H:Hp) (x y:V) (v u:GC) (Q:VK),Inv X pins σ H s->RelV x v->RelV y u->r x y H Q->
   GN (GO X.prog X.w) X.A (f v u) (EP X pins σ Q) X.xe s
def UnR (X:Cx)(f:GC->Sem GC)(r:V->Hp->VK->Prop):Prop:=
 ∀ (pins:List (GH×GK)) (s:GJ) (σ:St) (H:Hp) (x:V) (v:GC) (Q:VK),Inv X pins σ H s->RelV x v->r x H Q->
   GN (GO X.prog X.w) X.A (f v) (EP X pins σ Q) X.xe s
def CallR (X:Cx)(f:GC)(r:List V->Hp->VK->Prop):Prop:=
 ∀ (pins:List (GH×GK)) (s:GJ) (σ:St) (H:Hp) (xs:List V) (us:List GC) (Q:VK),Inv X pins σ H s->Vals xs us->r xs H Q->
   GN (GO X.prog X.w) X.A (call f us) (EP X pins σ Q) X.xe s
def tOp (r:R2)(ta tb:TE):TE:=fun σ H Q=>ta σ H fun x H1=>tb σ H1 fun y H2=>r x y H2 Q
def tUn (r:V->Hp->VK->Prop)(ta:TE):TE:=fun σ H Q=>ta σ H fun x H1=>r x H1 Q
def rI (C:Int->Int->Prop)(g:Int->Int->V):R2:=fun x y H Q=> ∃i j,x=.int i/\y=.int j/\C i j/\Q (g i j) H
def rI0 (g:Int->Int->V):R2:=fun x y H Q=> ∃i j,x=.int i/\y=.int j/\Q (g i j) H
def rU (g:Int->V):V->Hp->VK->Prop:=fun x H Q=> ∃i,x=.int i/\Q (g i) H
section
variable {X:Cx}{a b c:Expr}{ta tb tc:TE}{pos:G1}
theorem Io (ha:PE X a ta)(hb:PE X b tb){pins:List (GH×GK)}{s:GJ}{σ:St}{H:Hp}{R:V->V->Hp->Prop}(I:Inv X pins σ H s)
  (h:ta σ H fun x H1=>tb σ H1 fun y H2=>R x y H2){Q:GC->GJ->Prop}{f:GC->GC->Sem GC}
  (hf: ∀v u s2 x y H2,Inv X pins σ H2 s2->RelV x v->RelV y u->R x y H2->GN (GO X.prog X.w) X.A (f v u) Q X.xe s2):
  GN (GO X.prog X.w) X.A (G0 a X.env) (fun v s₁=>GN (GO X.prog X.w) X.A (G0 b X.env) (fun u s₂=>GN (GO X.prog X.w) X.A (f v u) Q X.xe s₂) X.xe s₁) X.xe s:=by
 refine thn (ha pins s σ H _ I h) fun v s1 qz=>?_
 obtain⟨x,H1,I1,r1,q1⟩:=qz
 refine thn (hb pins s1 σ H1 _ I1 q1) fun u s2 qz=>?_
 obtain⟨y,H2,I2,r2,q2⟩:=qz
 exact hf v u s2 x y H2 I2 r1 r2 q2
theorem rZ {op:Operator}{r:R2}(ho:OpR X (Hi op) r)(ha:PE X a ta)(hb:PE X b tb):PE X (.BinOp a op b pos) (tOp r ta tb):=by
 intro pins s σ H Q I h
 exact wpAny_BinOp (Io ha hb I h fun v u s2 x y H2 I2 rx ry q=>ho pins s2 σ H2 x y v u Q I2 rx ry q)
theorem BO {op:UnaryOp}{r:V->Hp->VK->Prop}(ho:UnR X (unaryOp op) r)(ha:PE X a ta):PE X (.UnaryOp op a pos) (tUn r ta):=by
 intro pins s σ H Q I h
 exact UnaryOp_ (thn (ha pins s σ H _ I h) fun v s1 ⟨x,H1,I1,r1,q1⟩=>ho pins s1 σ H1 x v Q I1 r1 q1)
theorem opI {f:GC->GC->Sem GC}{C:Int->Int->Prop}{g:Int->Int->Int}
  (rule: ∀ (i j:Int) (t u:Tok) (s:GJ) (Q:GC->GJ->Prop) (E:GC->GJ->Prop),C i j->Q (.int (g i j) s.toks) {s with toks:=s.toks+1}->GN (GO X.prog X.w) X.A (f (.int i t) (.int j u)) Q E s):
  OpR X f (rI C fun i j=>.int (g i j)):=by
 intro pins s σ H x y v u Q I rx ry h
 obtain⟨i,j,rfl,rfl,hc,q⟩:=h
 obtain⟨t,rfl⟩:=rx
 obtain⟨t',rfl⟩:=ry
 exact rule i j t t' s _ _ hc ⟨.int (g i j),H,I.tok _,⟨_,rfl⟩,q⟩
theorem opI0 {f:GC->GC->Sem GC}{g:Int->Int->Int}
  (rule: ∀ (i j:Int) (t u:Tok) (s:GJ) (Q:GC->GJ->Prop) (E:GC->GJ->Prop),Q (.int (g i j) s.toks) {s with toks:=s.toks+1}->GN (GO X.prog X.w) X.A (f (.int i t) (.int j u)) Q E s):
  OpR X f (rI0 fun i j=>.int (g i j)):=by
 intro pins s σ H x y v u Q I rx ry h
 obtain⟨i,j,rfl,rfl,q⟩:=h
 obtain⟨t,rfl⟩:=rx
 obtain⟨t',rfl⟩:=ry
 exact rule i j t t' s _ _ ⟨.int (g i j),H,I.tok _,⟨_,rfl⟩,q⟩
theorem K7 {f:GC->GC->Sem GC}{g:Int->Int->Bool}
  (rule: ∀ (i j:Int) (t u:Tok) (s:GJ) (Q:GC->GJ->Prop) (E:GC->GJ->Prop),Q (.bool (g i j)) s->GN (GO X.prog X.w) X.A (f (.int i t) (.int j u)) Q E s):
  OpR X f (rI0 fun i j=>.bl (g i j)):=by
 intro pins s σ H x y v u Q I rx ry h
 obtain⟨i,j,rfl,rfl,q⟩:=h
 obtain⟨t,rfl⟩:=rx
 obtain⟨t',rfl⟩:=ry
 exact rule i j t t' s _ _ ⟨.bl (g i j),H,I,rfl,q⟩
noncomputable def HK (i j:Int):Prop:=0<=j/\j<=1000000/\i.natAbs<2 ^ 64
noncomputable def CMul (i j:Int):Prop:=(-(2 ^ 64)<i/\i<2 ^ 64)\/(-(2 ^ 64)<j/\j<2 ^ 64)
theorem CMul.ok {i j:Int}(h:CMul i j):IntMulOk i j:=by
 rcases h with⟨h1,h2⟩|⟨h1,h2⟩
 ·exact .of_left (intBits_le_64 h1 h2)
 ·exact .of_right (intBits_le_64 h1 h2)
theorem qA (k:Nat):(0:Int)<=2 ^ k:=by
 rw[two_pow_cast]
 exact Int.natCast_nonneg _
theorem K9:OpR X (Hi .Add) (rI0 fun i j=>.int (i+j)):=opI0 fun _ _ _ _ _ _ _ q=>add_int q
theorem Ao:OpR X (Hi .Sub) (rI0 fun i j=>.int (i - j)):=opI0 fun _ _ _ _ _ _ _ q=>sub_int q
theorem At:OpR X (Hi .Mod) (rI (fun _ j=>0<j) fun i j=>.int (i % j)):=opI fun i j _ _ _ _ _ hc q=>by
 have h1:(0:Int)<j:=hc
 exact mod_int' (by omega) (by rw[Int.fmod_eq_emod_of_nonneg i (by omega)];exact q)
theorem Ar:OpR X (Hi .Pow) (rI HK fun i j=>.int (i ^ j.toNat)):=opI fun _ _ _ _ _ _ _ hc q=>pow_int_small hc.1 hc.2.1 hc.2.2 q
theorem Ap:OpR X (Hi .RShift) (rI (fun _ j=>0<=j) fun i j=>.int (i / 2 ^ j.toNat)):=opI fun i j _ _ _ _ _ hc q=>
 rshift_int hc (by rw[F6 i (qA _)];exact q)
theorem unI {f:GC->Sem GC}{g:Int->Int}
  (rule: ∀ (i:Int) (t:Tok) (s:GJ) (Q:GC->GJ->Prop) (E:GC->GJ->Prop),Q (.int (g i) s.toks) {s with toks:=s.toks+1}->GN (GO X.prog X.w) X.A (f (.int i t)) Q E s):
  UnR X f (rU fun i=>.int (g i)):=by
 intro pins s σ H x v Q I rx h
 obtain⟨i,rfl,q⟩:=h
 obtain⟨t,rfl⟩:=rx
 exact rule i t s _ _ ⟨.int (g i),H,I.tok _,⟨_,rfl⟩,q⟩
theorem zq:UnR X (unaryOp .USub) (rU fun i=>.int (-i)):=unI fun _ _ _ _ _ q=>neg_int q
end
noncomputable def Mm:V->V->Bool
 |.non,.non=>true|.non,.int _=>true|.int _,.non=>true|.non,.bl _=>true|.bl _,.non=>true|.non,.str _=>true|.str _,.non=>true
 |.int _,.int _=>true|.bl _,.bl _=>true|.str _,.str _=>true|.byt _,.byt _=>true
 |.int _,.str _=>true|.str _,.int _=>true|.bl _,.str _=>true|.str _,.bl _=>true
 |_,_=>false
def rEq:R2:=fun x y H Q=>Mm x y=true/\Q (.bl (decide (x=y))) H
def rNe:R2:=fun x y H Q=>Mm x y=true/\Q (.bl (!decide (x=y))) H
theorem sG {i j:Int}:decide (V.int i=V.int j)=(i==j):=by
 rw[Ep]
 simp
theorem wJ {i j:Bool}:decide (V.bl i=V.bl j)=(i==j):=by
 rw[Ep]
 simp
theorem sF {i j:Str}:decide (V.str i=V.str j)=(i==j):=by
 rw[Ep]
 simp
theorem sH {i j:Array UInt8}:decide (V.byt i=V.byt j)=(i.toList==j.toList):=by
 rw[Ep]
 cases i
 cases j
 simp
section
variable {X:Cx}{a b c:Expr}{ta tb tc:TE}{pos:G1}
theorem aY {pins:List (GH×GK)}{σ:St}{H:Hp}{s:GJ}{Q:VK}{k k':Bool}(I:Inv X pins σ H s)(q:Q (.bl k) H)(e:k=k'):EP X pins σ Q (.bool k') s:=by
 subst e
 exact⟨.bl k,H,I,rfl,q⟩
theorem Lc:OpR X (G7 .Eq) rEq:=by
 intro pins s σ H x y v u Q I rx ry h
 obtain⟨hs,q⟩:=h
 cases x with
 |non=>
  cases rx
  cases y with
  |non=>cases ry;exact PySem.EqNone.eq_none_none (aY I q (by simp))
  |bl j=>cases ry;exact PySem.EqNone.eq_none_bool (aY I q (by simp))
  |int j=>obtain⟨t',rfl⟩:=ry;exact PySem.EqNone.eq_none_int (aY I q (by simp))
  |str j=>obtain⟨t',rfl⟩:=ry;exact PySem.EqNone.eq_none_str (aY I q (by simp))
  |_=>exact absurd (show false=true from hs) Ds
 |bl i=>
  cases rx
  cases y with
  |non=>cases ry;exact PySem.EqNone.eq_bool_none (aY I q (by simp))
  |bl j=>cases ry;exact eq_bool (aY I q wJ)
  |str j=>obtain⟨t',rfl⟩:=ry;exact PySem.EqMixed.eq_bool_str (aY I q (by simp))
  |_=>exact absurd (show false=true from hs) Ds
 |int i=>
  obtain⟨t,rfl⟩:=rx
  cases y with
  |non=>cases ry;exact PySem.EqNone.eq_int_none (aY I q (by simp))
  |int j=>obtain⟨t',rfl⟩:=ry;exact eq_int (aY I q sG)
  |str j=>obtain⟨t',rfl⟩:=ry;exact PySem.EqMixed.eq_int_str (aY I q (by simp))
  |_=>exact absurd (show false=true from hs) Ds
 |str i=>
  obtain⟨t,rfl⟩:=rx
  cases y with
  |non=>cases ry;exact PySem.EqNone.eq_str_none (aY I q (by simp))
  |bl j=>cases ry;exact PySem.EqMixed.eq_str_bool (aY I q (by simp))
  |int j=>obtain⟨t',rfl⟩:=ry;exact PySem.EqMixed.eq_str_int (aY I q (by simp))
  |str j=>obtain⟨t',rfl⟩:=ry;exact eq_str (aY I q sF)
  |_=>exact absurd (show false=true from hs) Ds
 |byt i=>
  obtain⟨t,rfl⟩:=rx
  cases y with
  |byt j=>obtain⟨t',rfl⟩:=ry;exact PySem.W.eq_bytes (aY I q sH)
  |_=>exact absurd (show false=true from hs) Ds
 |_=>cases y<;>exact absurd (show false=true from hs) Ds
theorem Lh:OpR X (G7 .NotEq) rNe:=by
 intro pins s σ H x y v u Q I rx ry h
 obtain⟨hs,q⟩:=h
 cases x with
 |non=>
  cases rx
  cases y with
  |non=>cases ry;exact PySem.EqNone.ne_none_none (aY I q (by simp))
  |bl j=>cases ry;exact PySem.EqNone.ne_none_bool (aY I q (by simp))
  |int j=>obtain⟨t',rfl⟩:=ry;exact PySem.EqNone.ne_none_int (aY I q (by simp))
  |str j=>obtain⟨t',rfl⟩:=ry;exact PySem.EqNone.ne_none_str (aY I q (by simp))
  |_=>exact absurd (show false=true from hs) Ds
 |bl i=>
  cases rx
  cases y with
  |non=>cases ry;exact PySem.EqNone.ne_bool_none (aY I q (by simp))
  |bl j=>cases ry;exact ne_bool (aY I q (congrArg not wJ))
  |str j=>obtain⟨t',rfl⟩:=ry;exact PySem.EqMixed.ne_bool_str (aY I q (by simp))
  |_=>exact absurd (show false=true from hs) Ds
 |int i=>
  obtain⟨t,rfl⟩:=rx
  cases y with
  |non=>cases ry;exact PySem.EqNone.ne_int_none (aY I q (by simp))
  |int j=>obtain⟨t',rfl⟩:=ry;exact ne_int (aY I q (congrArg not sG))
  |str j=>obtain⟨t',rfl⟩:=ry;exact PySem.EqMixed.ne_int_str (aY I q (by simp))
  |_=>exact absurd (show false=true from hs) Ds
 |str i=>
  obtain⟨t,rfl⟩:=rx
  cases y with
  |non=>cases ry;exact PySem.EqNone.ne_str_none (aY I q (by simp))
  |bl j=>cases ry;exact PySem.EqMixed.ne_str_bool (aY I q (by simp))
  |int j=>obtain⟨t',rfl⟩:=ry;exact PySem.EqMixed.ne_str_int (aY I q (by simp))
  |str j=>obtain⟨t',rfl⟩:=ry;exact ne_str (aY I q (congrArg not sF))
  |_=>exact absurd (show false=true from hs) Ds
 |byt i=>
  obtain⟨t,rfl⟩:=rx
  cases y with
  |byt j=>obtain⟨t',rfl⟩:=ry;exact PySem.W.ne_bytes (aY I q (congrArg not sH))
  |_=>exact absurd (show false=true from hs) Ds
 |_=>cases y<;>exact absurd (show false=true from hs) Ds
theorem vo:OpR X (G7 .Lt) (rI0 fun i j=>.bl (decide (i<j))):=K7 fun _ _ _ _ _ _ _ q=>lt_int q
theorem B1:OpR X (G7 .LtE) (rI0 fun i j=>.bl (decide (i<=j))):=K7 fun _ _ _ _ _ _ _ q=>le_int q
theorem mI:OpR X (G7 .Gt) (rI0 fun i j=>.bl (decide (j<i))):=K7 fun _ _ _ _ _ _ _ q=>gt_int q
theorem B2:OpR X (G7 .GtE) (rI0 fun i j=>.bl (decide (j<=i))):=K7 fun _ _ _ _ _ _ _ q=>ge_int q
theorem Le:OpR X (G7 .In) (fun x y H Q=> ∃i j,x=.str i/\y=.str j/\Q (.bl (!(GD.Str.occurrences j i 0 j.length 1).isEmpty)) H):=by
 intro pins s σ H x y v u Q I rx ry h
 obtain⟨i,j,rfl,rfl,q⟩:=h
 obtain⟨t,rfl⟩:=rx
 obtain⟨t',rfl⟩:=ry
 exact in_str (aY I q rfl)
theorem OpR.or {f:GC->GC->Sem GC}{r r':R2}(h:OpR X f r)(h':OpR X f r'):OpR X f (fun x y H Q=>r x y H Q\/r' x y H Q):=by
 intro pins s σ H x y v u Q I rx ry q
 rcases q with q|q
 ·exact h pins s σ H x y v u Q I rx ry q
 ·exact h' pins s σ H x y v u Q I rx ry q
theorem eW (b:Expr){op:CmpOp}(h:op≠.In:=by decide)(h2:op≠.NotIn:=by decide):G8 op b=false:=by
 have e1:(op==CmpOp.In)=false:=by cases op<;>first|rfl|exact absurd rfl h
 have e2:(op==CmpOp.NotIn)=false:=by cases op<;>first|rfl|exact absurd rfl h2
 cases b<;>simp [G8,e1,e2]
theorem iz {op:CmpOp}{r:R2}(ho:OpR X (G7 op) r)(ha:PE X a ta)(hb:PE X b tb)(hm:G8 op b=false):PE X (.Compare a [op] [b] pos) (tOp r ta tb):=by
 intro pins s σ H Q I h
 exact wpAny_Compare1 (Io ha hb I h fun v u s2 x y H2 I2 rx ry q=>ho pins s2 σ H2 x y v u Q I2 rx ry q) hm
def M0 (t:TE):TT:=fun σ H Q=>t σ H fun x H'=> ∃k,x=.bl k/\Q k H'
theorem dW {op:CmpOp}{r:R2}(ho:OpR X (G7 op) r)(ha:PE X a ta)(hb:PE X b tb)(hm:G8 op b=false):PT X (.Compare a [op] [b] pos) (M0 (tOp r ta tb)):=by
 intro pins s σ H Q I h
 refine wpAny_isTrue_Compare1 (thn (ha pins s σ H _ I h) fun v s1 ⟨x,H1,I1,r1,q1⟩=>thn (hb pins s1 σ H1 _ I1 q1) fun u s2 ⟨y,H2,I2,r2,q2⟩=>
  thn (ho pins s2 σ H2 x y v u _ I2 r1 r2 q2) fun c s3 ⟨z,H3,I3,r3,k,e,q3⟩=>?_) hm
 subst e
 cases r3
 exact GT ⟨H3,I3,q3⟩
def uF (r r':R2)(ta tb tc:TE):TE:=fun σ H Q=>ta σ H fun x H1=>tb σ H1 fun y H2=>r x y H2 fun z H3=> ∃k,z=.bl k/\
 (if k=true then tc σ H3 fun w' H4=>r' y w' H4 Q else Q (.bl false) H3)
theorem uW {op op':CmpOp}{r r':R2}(ho:OpR X (G7 op) r)(ho':OpR X (G7 op') r')(ha:PE X a ta)(hb:PE X b tb)(hc:PE X c tc)
  (hm:lastMarks [op,op'] [b,c]=false:=by with_unfolding_all rfl):PT X (.Compare a [op,op'] [b,c] pos) (M0 (uF r r' ta tb tc)):=by
 intro pins s σ H Q I h
 refine isTrue_chain (thn (ha pins s σ H _ I h) fun v s1 ⟨x,H1,I1,r1,q1⟩=>test_link (thn (hb pins s1 σ H1 _ I1 q1) fun u s2 ⟨y,H2,I2,r2,q2⟩=>
  thn (ho pins s2 σ H2 x y v u _ I2 r1 r2 q2) fun d s3 ⟨z,H3,I3,r3,k,e,q3⟩=>?_)) hm
 subst e
 cases r3
 refine GT ?_
 cases k with
 |false=>
  obtain⟨k',e',q'⟩:=q3
  cases e'
  exact ite_ff ⟨H3,I3,q'⟩
 |true=>
  refine ite_tt (test_last (thn (hc pins s3 σ H3 _ I3 q3) fun w' s4 ⟨z',H4,I4,r4,q4⟩=>thn (ho' pins s4 σ H4 y z' u w' _ I4 r2 r4 q4) fun d' s5 qz=>?_))
  obtain⟨z2,H5,I5,r5,k2,e2,q5⟩:=qz
  subst e2
  cases r5
  exact GT ⟨H5,I5,q5⟩
theorem iM:(sizeLine:Nat)<2 ^ 63:=by rw[sizeLine_eq];decide
theorem La:OpR X (Hi .Add) (fun x y H Q=> ∃i j,x=.str i/\y=.str j/\i.length+j.length<=sizeLine/\Q (.str (i++j)) H):=by
 intro pins s σ H x y v u Q I rx ry h
 obtain⟨i,j,rfl,rfl,hz,q⟩:=h
 obtain⟨t,rfl⟩:=rx
 obtain⟨t',rfl⟩:=ry
 exact add_str (fun t' tk=>⟨.str (i++j),H,I.tok _,⟨_,rfl⟩,q⟩) hz
theorem Nd {x:V}{us:List GC}(r:Vals [x] us): ∃u,us=[u]/\RelV x u:=by
 cases r with
 |cons r1 r2=>cases r2;exact⟨_,rfl,r1⟩
theorem Nf {x y:V}{us:List GC}(r:Vals [x,y] us): ∃u w',us=[u,w']/\RelV x u/\RelV y w':=by
 cases r with
 |cons r1 r2=>
  cases r2 with
  |cons r3 r4=>cases r4;exact⟨_,_,rfl,r1,r3⟩
theorem ur (hc:X.calm=true):CallR X (.builtin "max") (fun xs H Q=> ∃i j,xs=[.int i,.int j]/\Q (.int (if j>i then j else i)) H):=by
 intro pins s σ H xs us Q I r h
 obtain⟨i,j,rfl,q⟩:=h
 obtain⟨u,w',rfl,⟨t,rfl⟩,⟨t',rfl⟩⟩:=Nf r
 refine max_two_ints (I.ok.hd hc) fun h' tk k=>⟨_,H,I.kept k,?_,q⟩
 by_cases hj:j>i
 ·rw[if_pos hj,if_pos hj];exact⟨_,rfl⟩
 ·rw[if_neg hj,if_neg hj];exact⟨_,rfl⟩
theorem Is:CallR X (.type "int") (fun xs H Q=>(∃i,xs=[.int i]/\Q (.int i) H)\/ ∃k,xs=[.bl k]/\Q (.int (if k then 1 else 0)) H):=by
 intro pins s σ H xs us Q I r h
 rcases h with⟨i,rfl,q⟩|⟨k,rfl,q⟩
 ·obtain⟨u,rfl,t,rfl⟩:=Nd r
  exact call_int_int ⟨.int i,H,I,⟨_,rfl⟩,q⟩
 ·obtain⟨u,rfl,r1⟩:=Nd r
  cases r1
  exact call_int_bool ⟨.int (if k then 1 else 0),H,I.tok _,⟨_,rfl⟩,q⟩
theorem Iv:CallR X (.type "str") (fun xs H Q=> ∃i,xs=[.int i]/\i.natAbs.log2<1920/\Q (.str (toString i)) H):=by
 intro pins s σ H xs us Q I r h
 obtain⟨i,rfl,hz,q⟩:=h
 obtain⟨u,rfl,t,rfl⟩:=Nd r
 exact PySem.P.str_of_int hz ⟨.str _,H,I.tok _,⟨_,rfl⟩,q⟩
end
end
section
structure ObjM (h:GG)(x dx C:GH)(mA:Str->Option GC):Prop where
 obj:h.get? x=some (Gw C dx)
 ns:h.Ns1 dx mA
 ne:dx≠x
theorem tY {h:GG}{dx:GH}{mA:Str->Option GC}(n:h.Ns1 dx mA): ∃od,h.get? dx=some od/\ ∀name,PySem.W.lookIn name od=some (mA name):=by
 obtain⟨o,es,ep,ho,hd,hk,_,hm⟩:=n
 refine⟨o,ho,fun name=>?_⟩
 have e:=hm name
 unfold nsFind findBy at e
 rw[<-Array.find?_toList] at e
 unfold PySem.W.lookIn
 rw[hd]
 dsimp only
 split
 ·rename_i y q
  rw[q] at e
  exact congrArg some e
 ·rename_i q
  rw[q] at e
  have a:es.toList.any (·.refKey)=false:=by
   rw[List.any_eq_false]
   intro y hy
   obtain⟨z,t,hkey⟩:=hk y (Array.mem_toList_iff.mp hy)
   simp [DictEntry.refKey,hkey]
  have a': ¬es.toList.any (·.refKey)=true:=by rw[a];exact Ds
  rw[if_neg a']
  exact congrArg some e
theorem ObjM.look {h:GG}{x dx C:GH}{mA:Str->Option GC}(I:ObjM h x dx C mA): ∃od,PySem.W.InstAt h x (Gw C dx) C (some od)/\ ∀name,PySem.W.lookIn name od=some (mA name):=
 let ⟨od,ho,hl⟩:=tY I.ns
 ⟨od,⟨I.obj,rfl,rfl,ho⟩,hl⟩
section
variable {prog:GE}{w:GF}{A:GL}{E:GC->GJ->Prop}{s:GJ}{K:PySem.W.Frag}{x dx C f:GH}{mA:Str->Option GC}{name:Str}{v:GC}
theorem yF {expr:Bool}{Q:GC->GJ->Prop}(X:K.In s.heap)(I:ObjM s.heap x dx C mA)(hg:PySem.W.plainGet K C name=true)(hh:PySem.W.hasDictIn K C=true)
  (ha:PySem.W.findIn K (.ref C) name=some none)(hv:mA name=some v)(hv':PySem.W.handedIn v=true)(h:Q v {s with toks:=s.toks+1}):
  GN (GO prog w) A (getAttr (.ref x) name expr) Q E s:=by
 obtain⟨od,J,hl⟩:=I.look
 exact PySem.W.get_value X J (PySem.W.plainGet_of hg).1 (PySem.W.findObj_own hh ha rfl (by rw[hl,hv])) hv' h
theorem wn {pl:Sem Bool}{Q:GC×List GC->GJ->Prop}(X:K.In s.heap)(I:ObjM s.heap x dx C mA)(hg:PySem.W.plainGet K C name=true)
  (hf:PySem.W.findIn K (.ref C) name=some (some (.ref f)))(ht:PySem.W.isFn K (.ref f)=true)(hv:mA name=none)(h:Q (.ref f,[.ref x]) s):
  GN (GO prog w) A (Hj (.ref x) name pl) Q E s:=by
 obtain⟨od,J,hl⟩:=I.look
 exact PySem.W.method_fn X J (PySem.W.plainGet_of hg).1 (PySem.W.plainGet_of hg).2 hf (beq_iff_eq.mp ht) (by show (PySem.W.lookIn name od).map (·.isSome)=some false;rw[hl,hv];rfl) h
theorem xu {ns:List Str}{Q:Unit->GJ->Prop}(X:K.In s.heap)(I:ObjM s.heap x dx C mA)
  (hs:PySem.W.findIn K (.ref C) "__setattr__"=some (some (.builtin "object.__setattr__")))(hp:PySem.W.plainOver K C=true)(ht:PySem.W.takerIn K C name=some none)(hh:PySem.W.hasDictIn K C=true)
  (hw:PySem.Within mA ns)(hsz:ns.length<=sizeLine)
  (h:∀h',ObjM h' x dx C (fun y=>if y=name then some v else mA y)->En dx s.heap h'->Q () {s with heap:=h',toks:=s.toks+2}):
  GN (GO prog w) A (setAttr (.ref x) name v) Q E s:=by
 obtain⟨od,J,hl⟩:=I.look
 refine PySem.W.set_plain X J hs (PySem.W.osa_open (s:={s with toks:=s.toks+1}) (r:=none) X J hp ht fun b=>?_)
 obtain⟨cd,hc,hd'⟩:=PySem.W.any_some hh
 have hx:s.heap.get? x=some ⟨.ref C,some dx,.plain,#[]⟩:=I.obj
 refine GP (GQ (GP (GP (wpAny_loadPart hx (GP (PySem.W.Looks.here (s:={s with toks:=s.toks+1}) (PySem.W.looks_clsIn X hc) ?_))))))
 rw[hd']
 refine GQ (a:=some dx) (GP (GQ (GP ?_)))
 refine wpAny_nsSet1 (s:={s with toks:=s.toks+1}) I.ns fun h' hn2 hs2=>?_
 obtain⟨oD,esD,epD,hoD,hdD,hcD⟩:=hn2.count (PySem.Within.cons name v hw)
 refine GP (wpAny_lookBehind hoD (by rw[hdD];exact pastItsLine_dict (Dy hcD (by rw[Di];omega))) ?_)
 exact GQ (h _ ⟨(hs2.2 _ (Ne.symm I.ne)).trans I.obj,hn2,I.ne⟩ hs2)
theorem vY {R:Result->GJ->Prop}{vs:List GC}{kw:List (Str×GC)}(X:K.In s.heap)(hm:makesIn K C=true)
  (hi:PySem.W.findIn K (.ref C) "__init__"=some (some (.ref f)))(hf:PySem.W.typeIn K (.ref f)=some (.type "function"))
  (h:codeAny (GO prog w) (A.under (.builtin "type.__call__" ⟨.ref C::vs,kw⟩)) (.call (.ref f) ⟨.ref (s.heap.objs.size+1)::vs,kw⟩) (PySem.W.InitBack (s.heap.objs.size+1) R)
    {s with heap:=(s.heap.push Gy).push (Gw C s.heap.objs.size)}):
  codeAny (GO prog w) A (.call (.ref C) ⟨vs,kw⟩) R s:=by
 obtain⟨hh,g,d,t,os⟩:=s
 exact PySem.W.make_core (PySem.W.makes_of X hm) (PySem.W.looks_findIn X hi) (fun self=>PySem.W.bind_fn X self hf) (.inl rfl) h
end
noncomputable def Lz (f:Str)(v:V):List (Str×V)->List (Str×V)
 |[]=>[(f,v)]
 |(g,x)::r=>if g=f then (g,v)::r else (g,x)::Lz f v r
theorem cN (f g:Str)(v:V): ∀fs:List (Str×V),(Lz f v fs).lookup g=if g=f then some v else fs.lookup g
 |[]=>by
  show Er g [(f,v)]=_
  by_cases h:g=f
  ·have hb:(g==f)=true:=beq_iff_eq.mpr h
   simp only[Er,hb,if_pos h]
  ·have hb:(g==f)=false:=beq_eq_false_iff_ne.mpr h
   simp only[Er,hb,if_neg h]
 |(k,x)::r=>by
  have ih:=cN f g v r
  rw[show Lz f v ((k,x)::r)=(if k=f then (k,v)::r else (k,x)::Lz f v r) from rfl]
  by_cases hk:k=f
  ·rw[if_pos hk]
   by_cases h:g=k
   ·have hb:(g==k)=true:=beq_iff_eq.mpr h
    simp only[Er,hb,if_pos (h.trans hk)]
   ·have hb:(g==k)=false:=beq_eq_false_iff_ne.mpr h
    simp only[Er,hb,if_neg (fun e:g=f=>h (e.trans hk.symm))]
  ·rw[if_neg hk]
   by_cases h:g=k
   ·have hb:(g==k)=true:=beq_iff_eq.mpr h
    simp only[Er,hb,if_neg (fun e:g=f=>hk (h.symm.trans e))]
   ·have hb:(g==k)=false:=beq_eq_false_iff_ne.mpr h
    simp only[Er,hb]
    exact ih
theorem jA (f:Str)(v:V): ∀fs:List (Str×V),f∈(Lz f v fs).map (·.1)/\ ∀g,g∈fs.map (·.1)->g∈(Lz f v fs).map (·.1)
 |[]=>⟨by simp [Lz],fun g h=>by simp at h⟩
 |(k,x)::r=>by
  obtain⟨i1,i2⟩:=jA f v r
  rw[show Lz f v ((k,x)::r)=(if k=f then (k,v)::r else (k,x)::Lz f v r) from rfl]
  by_cases hk:k=f
  ·rw[if_pos hk]
   subst hk
   exact⟨by simp,fun g h=>by simpa using h⟩
  ·rw[if_neg hk]
   refine⟨?_,fun g h=>?_⟩
   ·rw[Dj]
    exact Dz _ i1
   ·rw[Dj] at h ⊢
    rcases Dp.mp h with e|e
    ·exact Dp.mpr (.inl e)
    ·exact Dz _ (i2 g e)
theorem jI (f:Str)(v:V): ∀fs:List (Str×V),(Lz f v fs).length<=fs.length+1
 |[]=>by simp [Lz]
 |(k,x)::r=>by
  have ih:=jI f v r
  rw[show Lz f v ((k,x)::r)=(if k=f then (k,v)::r else (k,x)::Lz f v r) from rfl]
  by_cases hk:k=f
  ·rw[if_pos hk,Di,Di];omega
  ·rw[if_neg hk,Di,Di];omega
theorem RelO.some_of {v:V}{o:Option GC}(r:RelO (some v) o): ∃u,o=some u/\RelV v u:=by
 cases o with
 |none=>exact (show False from r).elim
 |some u=>exact⟨u,rfl,r⟩
theorem RelO.none_of {o:Option GC}(r:RelO none o):o=none:=by
 cases o with
 |none=>rfl
 |some u=>exact (show False from r).elim
theorem uj {v:V}{u:GC}(r:RelV v u):PySem.W.handedIn u=true:=by
 cases v with
 |non=>cases (show u=GC.none from r);rfl
 |bl b=>cases (show u=GC.bool b from r);rfl
 |int i=>obtain⟨t,e⟩:=(show∃t,u=GC.int i t from r);cases e;rfl
 |str x=>obtain⟨t,e⟩:=(show∃t,u=GC.str x t from r);cases e;rfl
 |byt b=>obtain⟨t,e⟩:=(show∃t,u=GC.bytes b t from r);cases e;rfl
 |flt b=>obtain⟨t,e⟩:=(show∃t,u=GC.float b t from r);cases e;rfl
 |ref a=>cases (show u=GC.ref a from r);rfl
 |ty n=>cases (show u=GC.type n from r);rfl
section
variable {P:GE}{w:GF}{H H':Hp}{h h':GG}{a C dx:GH}{fs fs':List (Str×V)}
theorem oA (hok:HOk P w H h)(e:H a=some (.ins C dx fs)): ∃mA,ObjM h a dx C mA/\(∀f,RelO (fs.lookup f) (mA f))/\PySem.Within mA (fs.map (·.1))/\fs.length<=1000/\H dx=some (.own a):=by
 obtain⟨d,z,ne,ob,mA,n,r,q⟩:=(show ObjOk P w H h a (.ins C dx fs) from hok a _ e)
 exact⟨mA,⟨ob,n,ne⟩,r,q,z,d⟩
end
structure Cls (K:PySem.W.Frag)(C:GH):Prop where
 pg:PySem.W.plainGet K C Str.empty=true
 hd:PySem.W.hasDictIn K C=true
 po:PySem.W.plainOver K C=true
 sa:PySem.W.findIn K (.ref C) "__setattr__"=some (some (.builtin "object.__setattr__"))
theorem Cls.get {K:PySem.W.Frag}{C:GH}(c:Cls K C)(f:Str):PySem.W.plainGet K C f=true:=c.pg
noncomputable def NoAttr (K:PySem.W.Frag)(C:GH)(f:Str):Prop:=PySem.W.findIn K (.ref C) f=some none
theorem NoAttr.taker {K:PySem.W.Frag}{C:GH}{f:Str}(n:NoAttr K C f):PySem.W.takerIn K C f=some none:=by
 unfold PySem.W.takerIn
 rw[show PySem.W.findIn K (.ref C) f=some none from n]
 rfl
structure HZ (K:PySem.W.Frag)(C:GH)(m:Str)(f:GH):Prop where
 at_:PySem.W.findIn K (.ref C) m=some (some (.ref f))
 fn:PySem.W.isFn K (.ref f)=true
 kp:Gz K (.ref f)=true
section
variable {X:Cx}{pins:List (GH×GK)}{σ:St}{H:Hp}{s:GJ}{a C dx:GH}{fs:List (Str×V)}{f:Str}{v:V}{A:GL}{E:GC->GJ->Prop}
theorem li {b:Bool}{Q:GC->GJ->Prop}(I:Inv X pins σ H s)(e:H a=some (.ins C dx fs))(c:Cls X.K C)(n:NoAttr X.K C f)(l:fs.lookup f=some v)
  (h:∀u s',Inv X pins σ H s'->RelV v u->Q u s'):GN (GO X.prog X.w) A (getAttr (.ref a) f b) Q E s:=by
 obtain⟨mA,O,r,_,_,_⟩:=oA I.hok e
 obtain⟨u,hu,ru⟩:=RelO.some_of (v:=v) (o:=mA f) (by rw[<-l];exact r f)
 exact yF I.kIn O (c.get f) c.hd n hu (uj ru) (h u _ (I.tok _) ru)
theorem iN {m:Str}{g:GH}{pl:Sem Bool}{Q:GC×List GC->GJ->Prop}(I:Inv X pins σ H s)(e:H a=some (.ins C dx fs))(c:Cls X.K C)(k:HZ X.K C m g)(l:fs.lookup m=none)
  (h:Q (.ref g,[.ref a]) s):GN (GO X.prog X.w) A (Hj (.ref a) m pl) Q E s:=by
 obtain⟨mA,O,r,_,_,_⟩:=oA I.hok e
 have hn:mA m=none:=RelO.none_of (by rw[<-l];exact r m)
 exact wn I.kIn O (c.get m) k.at_ k.fn hn h
theorem ky {y:V}{u:GC}{Q:Unit->GJ->Prop}(I:Inv X pins σ H s)(e:H a=some (.ins C dx fs))(c:Cls X.K C)(n:NoAttr X.K C f)(hl:fs.length<1000)(ry:RelV y u)
  (h:∀s',Inv X pins σ (upd H a (.ins C dx (Lz f y fs))) s'->Q () s'):GN (GO X.prog X.w) A (setAttr (.ref a) f u) Q E s:=by
 obtain⟨mA,O,r,wi,_,ho⟩:=oA I.hok e
 have hz:(fs.map (·.1)).length<=sizeLine:=by rw[Dh,sizeLine_eq];omega
 refine xu I.kIn O c.sa c.po n.taker c.hd wi hz fun h' O' sb=>h _ ?_
 have hd: ∃o,h'.get? dx=some o:=let ⟨o,_,_,e',_⟩:=O'.ns;⟨o,e'⟩
 refine I.write (x:=a) (e:=dx) (by rw[e];exact True.intro) (.inr ho) (fun b q hb z=>(sb.2 b hb).trans z) hd ?_
 refine⟨by rw[ap O.ne];exact ho,?_,O.ne,O'.obj,_,O'.ns,fun g=>?_,fun g hg=>?_⟩
 ·have:=jI f y fs;omega
 ·show RelO ((Lz f y fs).lookup g) (if g=f then some u else mA g)
  rw[cN]
  by_cases q:g=f
  ·rw[if_pos q,if_pos q];exact ry
  ·rw[if_neg q,if_neg q];exact r g
 ·by_cases q:g=f
  ·rw[q];exact (jA f y fs).1
  ·refine (jA f y fs).2 g (wi g fun z=>hg ?_)
   show (if g=f then some u else mA g)=none
   rw[if_neg q];exact z
theorem Inv.made (I:Inv X pins σ H s):Inv X pins σ (upd (upd H s.heap.objs.size (.own (s.heap.objs.size+1))) (s.heap.objs.size+1) (.ins C s.heap.objs.size []))
  {s with heap:=(s.heap.push Gy).push (Gw C s.heap.objs.size)}:=by
 have e1:(s.heap.push Gy).get? s.heap.objs.size=some Gy:=D0 s.heap rfl
 have e2:((s.heap.push Gy).push (Gw C s.heap.objs.size)).get? (s.heap.objs.size+1)=some (Gw C s.heap.objs.size):=by
  have:=D0 (s.heap.push Gy) (o:=Gw C s.heap.objs.size) rfl
  rwa[Fb] at this
 have e3:(s.heap.push Gy).Ns s.heap.objs.size (fun _=>none):=⟨Gy,#[],_,e1,rfl,(fun e he=>absurd he (by simp)),fun _=>rfl⟩
 have I1:=I.laid (a:=s.heap.objs.size) (o:=.own (s.heap.objs.size+1)) (h':=s.heap.push Gy) (t':=s.toks) (fun b u q=>DF _ q) (Dl _) ⟨_,e1⟩
 refine I1.laid (a:=s.heap.objs.size+1) (o:=.ins C s.heap.objs.size []) (t':=s.toks) (fun b u q=>DF _ q) (ER (Fb _ _)) ?_
 have ne:s.heap.objs.size≠s.heap.objs.size+1:=Dw (Fc _)
 refine⟨by rw[ap ne,aC],DB _,ne,e2,fun _=>none,(GG.Ns1.of_empty e3).at fun o q=>DF _ q,fun _=>True.intro,fun y hy=>absurd rfl hy⟩
theorem yU {prog:GE}{w:GF}{env:Env}{e:Expr}{f:Str}{pos:G1}{s:GJ}{Q:GC->GJ->Prop}(hb:Hk e f env (G0 e env)=G0 e env)
  (h:GN (GO prog w) A (G0 e env) (fun o s₁=>GN (GO prog w) A (getAttr o f true) Q E s₁) E s):GN (GO prog w) A (G0 (.Attribute e f pos) env) Q E s:=
 Attribute_any_ h (by rw[arm_eval_Attribute,hb])
end
def tFld (K:PySem.W.Frag)(ta:TE)(f:Str):TE:=fun σ H Q=>ta σ H fun x H1=> ∃a C dx fs v,x=.ref a/\H1 a=some (.ins C dx fs)/\Cls K C/\NoAttr K C f/\fs.lookup f=some v/\Q v H1
def sFld (K:PySem.W.Frag)(ta tv:TE)(f:Str):TS:=fun D σ H=>tv σ H fun y H1=>ta σ H1 fun x H2=> ∃a C dx fs,x=.ref a/\H2 a=some (.ins C dx fs)/\Cls K C/\NoAttr K C f/\fs.length<1000/\
 D.nx σ (upd H2 a (.ins C dx (Lz f y fs)))
def InOp (X:Cx)(op:Operator)(rd:V->V->Hp->VK->Prop):Prop:=
 ∀ (pins:List (GH×GK)) (s:GJ) (σ:St) (H:Hp) (x y:V) (u v:GC) (Q:VK),Inv X pins σ H s->RelV x u->RelV y v->rd x y H Q->GN (GO X.prog X.w) X.A (inplaceOp op u v) (EP X pins σ Q) X.xe s
def xw (K:PySem.W.Frag)(ta tv:TE)(rd:V->V->Hp->VK->Prop)(f:Str):TS:=fun D σ H=>ta σ H fun x H1=> ∃a C dx fs v,x=.ref a/\H1 a=some (.ins C dx fs)/\Cls K C/\NoAttr K C f/\fs.lookup f=some v/\
 tv σ H1 fun y H2=>rd v y H2 fun z H3=> ∃dx' fs',H3 a=some (.ins C dx' fs')/\fs'.length<1000/\D.nx σ (upd H3 a (.ins C dx' (Lz f z fs')))
section
variable {X:Cx}{o e value:Expr}{f:Str}{pos pos' tpos:G1}{ta tv:TE}
theorem fO (he:PE X e ta)(hb:Hk e f X.env (G0 e X.env)=G0 e X.env):PE X (.Attribute e f pos) (tFld X.K ta f):=by
 intro pins s σ H Q I h
 refine yU hb (thn (he pins s σ H _ I h) fun u s1 qz=>?_)
 obtain⟨x,H1,I1,rx,a,C,dx,fs,v,ex,ea,c,n,l,q⟩:=qz
 subst ex
 obtain rfl:u=GC.ref a:=rx
 exact li I1 ea c n l fun u' s2 I2 ru=>⟨v,H1,I2,ru,q⟩
theorem qT (ha:PE X o ta)(hv:PE X value tv)(hs:swapsWith value (some (.Attribute o f pos')) pos.line X.env=pure false):PS X (.Assign [.Attribute o f pos'] value pos) (sFld X.K ta tv f):=by
 intro pins s σ H D I h
 refine plainObj_wpAny_Assign_Attribute (thn (hv pins s σ H _ I h) fun u s1 ⟨y,H1,I1,ry,q⟩=>thn (ha pins s1 σ H1 _ I1 q) fun ov s2 qz=>?_) hs
 obtain⟨x,H2,I2,rx,a,C,dx,fs,ex,ea,c,n,l,q2⟩:=qz
 subst ex
 obtain rfl:ov=GC.ref a:=rx
 exact ky I2 ea c n l ry fun s3 I3=>⟨σ,_,I3,q2⟩
theorem mD {op:Operator}{rd:V->V->Hp->VK->Prop}(ha:PE X o ta)(hv:PE X value tv)(hop:InOp X op rd):PS X (.AugAssign (.Attribute o f tpos) op value pos) (xw X.K ta tv rd f):=by
 intro pins s σ H D I h
 refine wpAny_AugAssign_AttributeAny (thn (ha pins s σ H _ I h) fun ov s1 qz=>?_)
 obtain⟨x,H1,I1,rx,a,C,dx,fs,v,ex,ea,c,n,l,q⟩:=qz
 subst ex
 obtain rfl:ov=GC.ref a:=rx
 refine li I1 ea c n l fun u s2 I2 ru=>thn (hv pins s2 σ H1 _ I2 q) fun w3 s3 ⟨y,H2,I3,ry,q3⟩=>thn (hop pins s3 σ H2 v y u w3 _ I3 ru ry q3) fun w4 s4 qz=>?_
 obtain⟨z,H3,I4,rz,dx',fs',ea',l',q4⟩:=qz
 exact ky I4 ea' c n l' rz fun s5 I5=>⟨σ,_,I5,q4⟩
def rAdd:V->V->Hp->VK->Prop:=fun x y H Q=> ∃i j,x=.int i/\y=.int j/\Q (.int (i+j)) H
theorem wd:InOp X .Add rAdd:=by
 rintro pins s σ H x y u v Q I rx ry ⟨i,j,rfl,rfl,q⟩
 obtain⟨t,rfl⟩:=(show∃t,u=GC.int i t from rx)
 obtain⟨t',rfl⟩:=(show∃t',v=GC.int j t' from ry)
 exact PyProof.Rows.iadd_int ⟨.int (i+j),H,I.tok _,⟨_,rfl⟩,q⟩
theorem zc {pl:Sem Bool}{m:Str}{apos:G1}{args:List Expr}{pins:List (GH×GK)}{s:GJ}{σ:St}{H:Hp}{Q:GC->GJ->Prop}{te:TE}(he:PE X e te)(I:Inv X pins σ H s)
  (h:te σ H fun x H1=> ∃a C dx fs g,x=.ref a/\H1 a=some (.ins C dx fs)/\Cls X.K C/\HZ X.K C m g/\fs.lookup m=none/\
    ∀s1,Inv X pins σ H1 s1->GN (GO X.prog X.w) X.A (callWith pos (.ref g) [.ref a] (G3 pos (G4 args X.env)) (Hl pos (Hm [] X.env))) Q X.xe s1)
  (ht:G0 (.Call (.Attribute e m apos) args [] pos) X.env=(do
   let ov<-G0 e X.env
   G9 apos.atName
   let (f,first)<-Ha [ov] (Hj ov m pl)
   callWith pos f first (G3 pos (G4 args X.env)) (Hl pos (Hm [] X.env)))):
  GN (GO X.prog X.w) X.A (G0 (.Call (.Attribute e m apos) args [] pos) X.env) Q X.xe s:=by
 refine PySem.W.methodCall_KW (pl:=pl) (thn (he pins s σ H _ I h) fun u s1 qz=>?_) ht
 obtain⟨x,H1,I1,rx,a,C,dx,fs,g,ex,ea,c,k,l,q⟩:=qz
 subst ex
 obtain rfl:u=GC.ref a:=rx
 exact iN I1 ea c k l (q s1 I1)
end
section
variable {X:Cx}{pins:List (GH×GK)}{σ:St}{H:Hp}{s:GJ}{A:GL}{E:GC->GJ->Prop}{Q:GC->GJ->Prop}{c:GC}{b:Bool}
end
end
section
structure Room (k:Nat)(A:GL):Prop where
 hd:A.handled=none
 dp:A.depth+3 * k+5<recursionLimit
 un:A.units+16 * k+200<GM
theorem Room.mono {j k:Nat}{A:GL}(r:Room k A)(h:j<=k):Room j A:=⟨r.hd,by have:=r.dp;omega,by have:=r.un;omega⟩
theorem Room.deeper {k:Nat}{A:GL}(r:Room (k+1) A)(env:Env):Room k (A.deeper env):=
 ⟨r.hd,by have:=r.dp;show A.depth+1+3 * k+5<_;omega,by have:=r.un;show A.units+3+16 * k+200<_;omega⟩
theorem rk {A:GL}{C:GH}{us:List GC}{kw:List (Str×GC)}:(A.under (.builtin "type.__call__" ⟨.ref C::us,kw⟩)).depth=A.depth+1:=by
 first|rfl|simp [GL.under,Code.weight,Code.isCreation,Code.isGuard,Code.isCaller,Code.frames,Code.isFrame,guardIds]
theorem rj {A:GL}{C:GH}{us:List GC}{kw:List (Str×GC)}:(A.under (.builtin "type.__call__" ⟨.ref C::us,kw⟩)).units=A.units+1:=by
 first|rfl|simp [GL.under,Code.cUnits,Code.frames,Code.isFrame]
theorem Room.make {k:Nat}{A:GL}(r:Room (k+1) A)(C:GH)(us:List GC)(kw:List (Str×GC)):Room k (A.under (.builtin "type.__call__" ⟨.ref C::us,kw⟩)):=
 ⟨r.hd,by have:=r.dp;rw[rk];omega,by have:=r.un;rw[rj];omega⟩
theorem Room.depth {k:Nat}{A:GL}(r:Room k A):A.depth<recursionLimit:=by have:=r.dp;omega
theorem Room.units {k:Nat}{A:GL}(r:Room k A):A.units+64<GM:=by have:=r.un;omega
def MZ:TA:=fun _ H Q=>Q [] H
def MW (ta:TE)(tr:TA):TA:=fun σ H Q=>ta σ H fun x H1=>tr σ H1 fun xs H2=>Q (x::xs) H2
section
variable {X:Cx}{e:Expr}{es:List Expr}{te:TE}{t:TA}{pos:G1}
theorem Ln:PA X [] MZ:=fun _ _ _ _ H Q I h=>Calls.spliced_nil ⟨[],H,I,.nil,h⟩
theorem ak (ha:PE X e te)(hr:PA X es t)(hs:G4 (e::es) X.env=(false,G0 e X.env)::G4 es X.env:=by rfl):PA X (e::es) (MW te t):=by
 intro pos pins s σ H Q I h
 rw[hs]
 show GN _ _ (spliced ((false,G0 e X.env)::G3 pos (G4 es X.env))) _ _ s
 refine Calls.spliced_cons (thn (ha pins s σ H _ I h) fun u s1 qz=>?_)
 obtain⟨x,H1,I1,r1,q1⟩:=qz
 exact thn (hr pos pins s1 σ H1 _ I1 q1) fun us s2 ⟨xs,H2,I2,r2,q2⟩=>⟨x::xs,H2,I2,.cons r1 r2,q2⟩
def tTup (t:TA):TE:=fun σ H Q=>t σ H fun xs H1=>xs.length<=sizeLine/\ ∀p,H1 p=none->Q (.ref p) (upd H1 p (.tup xs))
def tLst (t:TA):TE:=fun σ H Q=>t σ H fun xs H1=>xs.length<=sizeLine/\ ∀p,H1 p=none->Q (.ref p) (upd H1 p (.lst xs))
theorem kF {x1}(h:PA X es t):PE X (.Tuple es x1 pos) (tTup t):=by
 intro pins s σ H Q I hq
 refine wpAny_Tuple_spliced (thn (h pos pins s σ H _ I hq) fun us s1 ⟨xs,H1,I1,r,z,q⟩=>⟨by rw[<-r.length];exact z,?_⟩)
 have hf:H1 s1.heap.objs.size=none:=I1.hok.fresh (Dl _)
 refine⟨.ref s1.heap.objs.size,upd H1 s1.heap.objs.size (.tup xs),I1.laid (t':=s1.toks) (fun b u e=>DF _ e) (Dl _) ?_,rfl,q _ hf⟩
 exact⟨z,us,r,IsTupD.new _ _⟩
theorem Aa (h:PA X es t):PE X (.List es pos) (tLst t):=by
 intro pins s σ H Q I hq
 refine wpAny_List_spliced (thn (h pos pins s σ H _ I hq) fun us s1 ⟨xs,H1,I1,r,z,q⟩=>⟨by rw[<-r.length];exact z,?_⟩)
 have hf:H1 s1.heap.objs.size=none:=I1.hok.fresh (Dl _)
 refine⟨.ref s1.heap.objs.size,upd H1 s1.heap.objs.size (.lst xs),I1.laid (t':=s1.toks) (fun b u e=>DF _ e) (Dl _) ?_,rfl,q _ hf⟩
 exact⟨z,us,0,r,D0 _ rfl⟩
end
noncomputable abbrev Sp:=List V->Hp->VK->XK->Prop
noncomputable abbrev CXT:=List Env->Hp->GJ->XK->GC->GJ->Prop
structure Env0 (P:GE)(w:GF)(K:PySem.W.Frag)(mg:Str->Option GC)(base:GG)(A:GL)(outer:List Env)(s:GJ)(H:Hp):Prop where
 frames:A.frames=some outer
 mod:Mod K mg base
 bs: ∀b o,base.get? b=some o->s.heap.get? b=some o/\H b=none
 bsz:base.objs.size<=s.heap.objs.size
 funs:s.heap.FunFrames base outer
 frf: ∀b∈frs outer,H b=none
 hok:HOk P w H s.heap
 bare:GZ s.gens
def CE (outer:List Env)(P:GE)(w:GF)(H:Hp)(s:GJ)(Q:VK)(u:GC)(s':GJ):Prop:=
 ∃v H',s'.os=s.os/\GZ s'.gens/\Un (frs outer) [] H H' s.heap s'.heap/\HOk P w H' s'.heap/\RelV v u/\Q v H'
def CR (CX:CXT)(outer:List Env)(P:GE)(w:GF)(H:Hp)(s:GJ)(Q:VK)(E:XK)(r:Result)(s':GJ):Prop:=
 match r with
 |.ok (.ret u)=>CE outer P w H s Q u s'
 |.ok _=>False
 |.error e=>CX outer H s E e s'
structure FnOk (P:GE)(w:GF)(K:PySem.W.Frag)(mg:Str->Option GC)(base:GG)(CX:CXT)(k:Nat)(f:GH)(fd:Hn)(ps:List Str)(sp:Sp):Prop where
 len: ∀vs H Q E,sp vs H Q E->vs.length=ps.length
 run: ∀ (A:GL) (outer:List Env) (s:GJ) (H:Hp) (args:Args) (us:List GC) (vs:List V) (Q:VK) (E:XK),Room k A->Env0 P w K mg base A outer s H->BindsTo s fd args (ps.zip us)->Vals vs us->sp vs H Q E->
  codeAny (GO P w) A (.call (.ref f) args) (CR CX outer P w H s Q E) s
theorem FnOk.mono {P:GE}{w:GF}{K:PySem.W.Frag}{mg:Str->Option GC}{base:GG}{CX:CXT}{j k:Nat}{f:GH}{fd:Hn}{ps:List Str}{sp:Sp}(F:FnOk P w K mg base CX j f fd ps sp)(h:j<=k):
 FnOk P w K mg base CX k f fd ps sp:=⟨F.len,fun A outer s H args us vs Q E hr=>F.run A outer s H args us vs Q E (hr.mono h)⟩
theorem FnOk.imp {P:GE}{w:GF}{K:PySem.W.Frag}{mg:Str->Option GC}{base:GG}{CX:CXT}{k:Nat}{f:GH}{fd:Hn}{ps:List Str}{sp sp':Sp}(F:FnOk P w K mg base CX k f fd ps sp)
  (h:∀vs H Q E,sp' vs H Q E->sp vs H Q E):FnOk P w K mg base CX k f fd ps sp':=
 ⟨fun vs H Q E q=>F.len vs H Q E (h _ _ _ _ q),fun A outer s H args us vs Q E hr he hb hv hs=>F.run A outer s H args us vs Q E hr he hb hv (h _ _ _ _ hs)⟩
theorem Env0.make {P:GE}{w:GF}{K:PySem.W.Frag}{mg:Str->Option GC}{base:GG}{A:GL}{outer:List Env}{s:GJ}{H:Hp}(e:Env0 P w K mg base A outer s H)(C:GH)(us:List GC)(kw:List (Str×GC)):
 Env0 P w K mg base (A.under (.builtin "type.__call__" ⟨.ref C::us,kw⟩)) outer s H:=⟨by first|exact e.frames|(simpa [GL.under,Code.envs,Code.isFrame,pushEnvs] using e.frames),e.mod,e.bs,e.bsz,e.funs,e.frf,e.hok,e.bare⟩
section
variable {X:Cx}{pins:List (GH×GK)}{σ:St}{H:Hp}{s s':GJ}
theorem Inv.env0 (I:Inv X pins σ H s):Env0 X.prog X.w X.K X.mg X.base X.A X.stack s H:=
 ⟨I.ok.frames,I.ok.mod,I.bs,Dy I.ok.bsz I.sz,I.stack,I.stkFree,I.hok,I.bare⟩
theorem Inv.after {Q:VK}{u:GC}(I:Inv X pins σ H s)(h:CE X.stack X.prog X.w H s Q u s'):EP X pins σ Q u s':=by
 obtain⟨v,H',os,bare,un,hok,r,q⟩:=h
 obtain⟨hh,g,d,t,os'⟩:=s'
 obtain rfl:os'=s.os:=os
 exact⟨v,H',I.call (h':=hh) (g':=g) (d':=d) (t':=t) (ch:=[]) un hok bare (fun b z=>absurd z (by simp)),r,q⟩
end
def tCall (sp:Sp)(dvs:List V)(E:XK)(t:TA):TE:=fun σ H Q=>t σ H fun vs H1=>sp (vs++dvs) H1 Q E
def MY (C:GH)(m:Str)(sp:Sp)(dvs:List V)(E:XK)(ta:TE)(t:TA):TE:=fun σ H Q=>ta σ H fun x H1=> ∃a dx fs,x=.ref a/\H1 a=some (.ins C dx fs)/\fs.lookup m=none/\
 t σ H1 fun vs H2=>sp (x::(vs++dvs)) H2 Q E
def MX (C:GH)(sp:Sp)(dvs:List V)(E:XK)(t:TA):TE:=fun σ H Q=>t σ H fun vs H1=> ∀x dx,H1 x=none->H1 dx=none->dx≠x->
 sp (.ref x::(vs++dvs)) (upd (upd H1 dx (.own x)) x (.ins C dx [])) (fun v H2=>v=.non/\Q (.ref x) H2) E
noncomputable def Binds (K:PySem.W.Frag)(fd:Hn)(ps:List Str)(ds:List GC):Prop:=
 ∀ (s:GJ) (us:List GC),K.In s.heap->(us++ds).length=ps.length->BindsTo s fd ⟨us,[]⟩ (ps.zip (us++ds))
theorem Binds.all {K:PySem.W.Frag}{fd:Hn}{ps:List Str}(h:∀us:List GC,us.length=ps.length->bindArgs fd ⟨us,[]⟩=pure (ps.zip us)):Binds K fd ps []:=fun s us _ hl=>by
 rw[DM] at hl ⊢
 exact .of_eq (h us hl)
def b7 (CX:CXT)(X:Cx)(E:XK):Prop:= ∀ (pins:List (GH×GK)) (σ:St) (H:Hp) (s:GJ) (e:GC) (s':GJ),Inv X pins σ H s->CX X.stack H s E e s'->X.xe e s'
section
variable {X:Cx}{CX:CXT}{k:Nat}{f C:GH}{fd:Hn}{ps:List Str}{sp:Sp}{dvs:List V}{ds:List GC}{E:XK}{x m:Str}{p pos apos:G1}{e o:Expr}{es:List Expr}{ta:TE}{t:TA}
theorem qQ {pins:List (GH×GK)}{σ:St}{H:Hp}{s:GJ}{Q:VK}{us:List GC}{vs:List V}(F:FnOk X.prog X.w X.K X.mg X.base CX k f fd ps sp)(hr:Room k X.A)(hb:Binds X.K fd ps ds)(hd:Vals dvs ds)(hx:b7 CX X E)
  (I:Inv X pins σ H s)(r:Vals vs us)(h:sp (vs++dvs) H Q E):GN (GO X.prog X.w) X.A (call (.ref f) us) (EP X pins σ Q) X.xe s:=by
 have r2:Vals (vs++dvs) (us++ds):=r.append hd
 have hl:(us++ds).length=ps.length:=by rw[<-r2.length];exact F.len _ _ _ _ h
 refine wpAny_call (Ho (F.run X.A X.stack s H ⟨us,[]⟩ (us++ds) (vs++dvs) Q E hr I.env0 (hb s us I.kIn hl) r2 h) fun r s' hq=>?_)
 cases r with
 |error e=>exact hx pins σ H s e s' I hq
 |ok fl=>
  cases fl with
  |ret u=>exact I.after hq
  |next=>exact False.elim hq
  |brk=>exact False.elim hq
  |cont=>exact False.elim hq
theorem du (F:FnOk X.prog X.w X.K X.mg X.base CX k f fd ps sp)(hr:Room k X.A)(hg:Gl X x)(hm:X.mg x=some (.ref f))(hk:Gz X.K (.ref f)=true)(hb:Binds X.K fd ps ds)(hd:Vals dvs ds)(hx:b7 CX X E)
  (ha:PA X (e::es) t)(hdb:(x==("__debug__":Str))=false:=by decide)(he:G4 (e::es) X.env=(false,G0 e X.env)::G4 es X.env:=by rfl)(hpl:(G3 pos (G4 es X.env)).any (·.1)=false:=by rfl):
  PE X (.Call (.Name x p) (e::es) [] pos) (tCall sp dvs E t):=by
 intro pins s σ H Q I h
 refine Hq (gB I hg hm ?_ hdb)
 refine PySem.W.callWith_K (h₀:=X.base) I.ok.mod.kin hk (thn (ha pos pins s σ H _ I h) fun us s1 ⟨vs,H1,I1,r,q⟩=>⟨I1.kIn,?_⟩) he hpl
 exact qQ F hr hb hd hx I1 r q
theorem gp {pl:Sem Bool}(he:PE X o ta)(c:Cls X.K C)(hm:HZ X.K C m f)(F:FnOk X.prog X.w X.K X.mg X.base CX k f fd ps sp)(hr:Room k X.A)(hb:Binds X.K fd ps ds)(hd:Vals dvs ds)(hx:b7 CX X E)(ha:PA X (e::es) t)
  (hst:G4 (e::es) X.env=(false,G0 e X.env)::G4 es X.env:=by rfl)(hpl:(G3 pos (G4 es X.env)).any (·.1)=false:=by rfl)
  (ht:G0 (.Call (.Attribute o m apos) (e::es) [] pos) X.env=(do
   let ov<-G0 o X.env
   G9 apos.atName
   let (f,first)<-Ha [ov] (Hj ov m pl)
   callWith pos f first (G3 pos (G4 (e::es) X.env)) (Hl pos (Hm [] X.env))):=by rfl):
  PE X (.Call (.Attribute o m apos) (e::es) [] pos) (MY C m sp dvs E ta t):=by
 intro pins s σ H Q I h
 refine PySem.W.methodCall_KW (pl:=pl) (thn (he pins s σ H _ I h) fun u s1 qz=>?_) ht
 obtain⟨x,H1,I1,rx,a,dx,fs,ex,ea,l,q⟩:=qz
 subst ex
 obtain rfl:u=GC.ref a:=rx
 refine iN I1 ea c hm l ?_
 refine PySem.W.callWith_K (first:=[.ref a]) (h₀:=X.base) I.ok.mod.kin hm.kp (thn (ha pos pins s1 σ H1 _ I1 q) fun us s2 ⟨vs,H2,I2,r,q2⟩=>⟨I2.kIn,?_⟩) hst hpl
 exact qQ (us:=.ref a::us) (vs:=.ref a::vs) F hr hb hd hx I2 (.cons rfl r) q2
theorem eU {pl:Sem Bool}(he:PE X o ta)(c:Cls X.K C)(hm:HZ X.K C m f)(F:FnOk X.prog X.w X.K X.mg X.base CX k f fd ps sp)(hr:Room k X.A)(hb:Binds X.K fd ps ds)(hd:Vals dvs ds)(hx:b7 CX X E)
  (ht:G0 (.Call (.Attribute o m apos) [] [] pos) X.env=(do
   let ov<-G0 o X.env
   G9 apos.atName
   let (f,first)<-Ha [ov] (Hj ov m pl)
   callWith pos f first (G3 pos (G4 [] X.env)) (Hl pos (Hm [] X.env))):=by rfl):
  PE X (.Call (.Attribute o m apos) [] [] pos) (MY C m sp dvs E ta MZ):=by
 intro pins s σ H Q I h
 refine PySem.W.methodCall_KW (pl:=pl) (thn (he pins s σ H _ I h) fun u s1 qz=>?_) ht
 obtain⟨x,H1,I1,rx,a,dx,fs,ex,ea,l,q⟩:=qz
 subst ex
 obtain rfl:u=GC.ref a:=rx
 refine iN I1 ea c hm l ?_
 exact PySem.W.callWith_K0 (first:=[.ref a]) I1.kIn hm.kp (qQ (us:=[.ref a]) (vs:=[.ref a]) F hr hb hd hx I1 (.cons rfl .nil) q)
structure Mk (K:PySem.W.Frag)(C f:GH):Prop where
 makes:makesIn K C=true
 init:PySem.W.findIn K (.ref C) "__init__"=some (some (.ref f))
 fn:PySem.W.isFn K (.ref f)=true
 kp:Gz K (.ref C)=true
theorem ph {pins:List (GH×GK)}{σ:St}{H:Hp}{s:GJ}{Q:VK}{us:List GC}{vs:List V}(M:Mk X.K C f)(F:FnOk X.prog X.w X.K X.mg X.base CX k f fd ps sp)(hr:Room (k+1) X.A)(hb:Binds X.K fd ps ds)(hd:Vals dvs ds)
  (hx:b7 CX X E)(I:Inv X pins σ H s)(r:Vals vs us)
  (h:∀x dx,H x=none->H dx=none->dx≠x->sp (.ref x::(vs++dvs)) (upd (upd H dx (.own x)) x (.ins C dx [])) (fun v H2=>v=.non/\Q (.ref x) H2) E):
  GN (GO X.prog X.w) X.A (call (.ref C) us) (EP X pins σ Q) X.xe s:=by
 have hq:=h (s.heap.objs.size+1) s.heap.objs.size (I.hok.fresh (Fe _)) (I.hok.fresh (Dl _)) (Dw (Fc _))
 have I2:=Inv.made (C:=C) I
 have r2:Vals (V.ref (s.heap.objs.size+1)::(vs++dvs)) (GC.ref (s.heap.objs.size+1)::(us++ds)):=.cons rfl (r.append hd)
 have hl:(GC.ref (s.heap.objs.size+1)::us++ds).length=ps.length:=by
  have e:=r2.length
  rw[F.len _ _ _ _ hq] at e
  exact e.symm
 refine wpAny_call (vY (f:=f) I.kIn M.makes M.init (beq_iff_eq.mp M.fn) (Ho (F.run _ X.stack _ _ ⟨GC.ref (s.heap.objs.size+1)::us,[]⟩ (GC.ref (s.heap.objs.size+1)::(us++ds)) _ _ E (hr.make C us [])
  (I2.env0.make C us []) (hb _ (GC.ref (s.heap.objs.size+1)::us) I2.kIn hl) r2 hq) fun r s' hq'=>?_))
 cases r with
 |error e=>exact hx pins σ _ _ e s' I2 hq'
 |ok fl=>
  cases fl with
  |ret u=>
   obtain⟨v,H',I3,rv,ev,q3⟩:=I2.after hq'
   subst ev
   exact⟨rv,⟨V.ref (s.heap.objs.size+1),H',I3,rfl,q3⟩⟩
  |next=>exact False.elim hq'
  |brk=>exact False.elim hq'
  |cont=>exact False.elim hq'
theorem xJ (M:Mk X.K C f)(F:FnOk X.prog X.w X.K X.mg X.base CX k f fd ps sp)(hr:Room (k+1) X.A)(hg:Gl X x)(hm:X.mg x=some (.ref C))(hb:Binds X.K fd ps ds)(hd:Vals dvs ds)(hx:b7 CX X E)
  (ha:PA X (e::es) t)(hdb:(x==("__debug__":Str))=false:=by decide)(he:G4 (e::es) X.env=(false,G0 e X.env)::G4 es X.env:=by rfl)(hpl:(G3 pos (G4 es X.env)).any (·.1)=false:=by rfl):
  PE X (.Call (.Name x p) (e::es) [] pos) (MX C sp dvs E t):=by
 intro pins s σ H Q I h
 refine Hq (gB I hg hm ?_ hdb)
 refine PySem.W.callWith_K (h₀:=X.base) I.ok.mod.kin M.kp (thn (ha pos pins s σ H _ I h) fun us s1 ⟨vs,H1,I1,r,q⟩=>⟨I1.kIn,?_⟩) he hpl
 exact ph M F hr hb hd hx I1 r q
theorem vf (M:Mk X.K C f)(F:FnOk X.prog X.w X.K X.mg X.base CX k f fd ps sp)(hr:Room (k+1) X.A)(hg:Gl X x)(hm:X.mg x=some (.ref C))(hb:Binds X.K fd ps ds)(hd:Vals dvs ds)(hx:b7 CX X E)
  (hdb:(x==("__debug__":Str))=false:=by decide):PE X (.Call (.Name x p) [] [] pos) (MX C sp dvs E MZ):=by
 intro pins s σ H Q I h
 refine Hq (gB I hg hm ?_ hdb)
 exact PySem.W.callWith_K0 I.kIn M.kp (ph (us:=[]) M F hr hb hd hx I .nil h)
end
section
variable {X:Cx}{CX:CXT}{k:Nat}{f C:GH}{fd:Hn}{ps ks:List Str}{sp:Sp}{E:XK}{x m:Str}{p pos apos kpos:G1}{e o:Expr}{es:List Expr}{kws:List Hr}{te ta:TE}{t tk:TA}{nm:Option Str}
variable {g:List GC->List GC->List GC}{gV:List V->List V->List V}
end
structure HW (N P:List Str)(sc:GY):Prop where
 kind:sc.kind=.function
 co:sc.isCoroutine=false
 gen:sc.isGenerator=false
 nd:N.Nodup
 pre:N.take P.length=P
 par: ∀x∈P,sc.names.lookup x=some .local \/sc.names.lookup x=some .cell
 nofree: ∀y∈sc.names,y.2≠.free
theorem ng {kindOf:Str->Option Hs}{x:Str}: ∀ {binds:List (Str×GC)}{m:Str->Option GC},(∀v,(x,v) ∉ binds)->bindL kindOf binds m x=m x
 |[],_,_=>rfl
 |(n,v)::r,m,h=>by
  unfold bindL
  rw[ng fun w hw=>h w (Dz _ hw)]
  split
  ·have:x≠n:=by rintro rfl;exact h v Dt
   simp [this]
  ·rfl
theorem nj {kindOf:Str->Option Hs}{x:Str}: ∀ {binds:List (Str×GC)}{m:Str->Option GC},(∀v,(x,v) ∉ binds)->bindC kindOf binds m x=m x
 |[],_,_=>rfl
 |(n,v)::r,m,h=>by
  unfold bindC
  rw[nj fun w hw=>h w (Dz _ hw)]
  split
  ·rfl
  ·have:x≠n:=by rintro rfl;exact h v Dt
   simp [this]
theorem ni {kindOf:Str->Option Hs}{x:Str}{v:GC}: ∀ {P:List Str}{vs:List GC}{i:Nat}{m:Str->Option GC},P.Nodup->P[i]?=some x->vs[i]?=some v->kindOf x=some .local ->
  bindL kindOf (P.zip vs) m x=some v
 |[],_,_,_,_,h,_,_=>by simp at h
 |_::_,[],_,_,_,_,h,_=>by simp at h
 |p::P,w::vs,0,m,nd,h1,h2,hk=>by
  simp at h1 h2;subst h1;subst h2
  show bindL kindOf ((p,w)::P.zip vs) m p=_
  unfold bindL
  rw[ng fun v hv=>(ES.mp nd).1 (Ff hv).1,if_pos hk]
  simp
 |p::P,w::vs,i+1,m,nd,h1,h2,hk=>by
  show bindL kindOf ((p,w)::P.zip vs) m x=_
  unfold bindL
  exact ni (i:=i) (ES.mp nd).2 (by simpa using h1) (by simpa using h2) hk
theorem nk {kindOf:Str->Option Hs}{x:Str}{v:GC}: ∀ {P:List Str}{vs:List GC}{i:Nat}{m:Str->Option GC},P.Nodup->P[i]?=some x->vs[i]?=some v->kindOf x≠some .local ->
  bindC kindOf (P.zip vs) m x=some v
 |[],_,_,_,_,h,_,_=>by simp at h
 |_::_,[],_,_,_,_,h,_=>by simp at h
 |p::P,w::vs,0,m,nd,h1,h2,hk=>by
  simp at h1 h2;subst h1;subst h2
  show bindC kindOf ((p,w)::P.zip vs) m p=_
  unfold bindC
  rw[nj fun v hv=>(ES.mp nd).1 (Ff hv).1,if_neg hk]
  simp
 |p::P,w::vs,i+1,m,nd,h1,h2,hk=>by
  show bindC kindOf ((p,w)::P.zip vs) m x=_
  unfold bindC
  exact nk (i:=i) (ES.mp nd).2 (by simpa using h1) (by simpa using h2) hk
def MI (N:List Str)(vs:List V):St:=vs.map some++List.replicate (N.length - vs.length) none
def IG (CX:CXT)(P:GE)(w:GF)(K:PySem.W.Frag)(mg:Str->Option GC)(base:GG)(N:List Str)(qual:Str)(scope:GY)(f:GH)(cd:GC)(A:GL)(outer:List Env)(s:GJ)(H:Hp)(E:XK):Cx where
 prog:=P
 w:=w
 K:=K
 mg:=mg
 base:=base
 A:=A.deeper (Ht qual scope s.heap.objs.size f cd)
 N:=N
 s₀:=s
 H₀:=H
 env:=Ht qual scope s.heap.objs.size f cd
 outer:=outer
 stack:=Ht qual scope s.heap.objs.size f cd::outer
 ex:=[]
 calm:=true
 fn:=fun _=>true
 pn:=[]
 xe:=fun e s'=>GN (GO P w) (A.deeper (Ht qual scope s.heap.objs.size f cd)) (leaving (Ht qual scope s.heap.objs.size f cd) e) (fun _ s''=>CX outer H s E e s'') (fun e' s''=>CX outer H s E e' s'') s'
theorem qk {sc:GY}{n:Nat}{x:Str}(h:sc.names.lookup x=some .cell): ∃c,(cellsFrom n sc.names []).lookup x=some c:=by
 have q:=PySem.W.cellsFrom_some sc.names n [] (.inl h)
 exact F7.mp q
theorem ug {CX:CXT}{P:GE}{w:GF}{K:PySem.W.Frag}{mg:Str->Option GC}{base:GG}{N ps:List Str}{qual:Str}{scope:GY}{f:GH}{cd:GC}{A:GL}{outer:List Env}{s s1:GJ}{H:Hp}{E:XK}{us:List GC}{vs:List V}
  (S:HW N ps scope)(hd:A.handled=none)(e0:Env0 P w K mg base A outer s H)(hl:vs.length=ps.length)(r:Vals vs us)
  (x:InCallC s s.heap.objs.size (bindL (Ht qual scope s.heap.objs.size f cd).kindOf (ps.zip us) fun _=>none) (cellsFrom (s.heap.objs.size+1) scope.names []) (bindC (Ht qual scope s.heap.objs.size f cd).kindOf (ps.zip us) fun _=>none) s1):
  Inv (IG CX P w K mg base N qual scope f cd A outer s H E) [] (MI N vs) H s1:=by
 have hpl:ps.length<=N.length:=by have:=congrArg List.length S.pre;rw[DH] at this;omega
 obtain⟨h1,tk,rfl,hk⟩:=x.done
 have noA: ∀b:GH,b ∉ (IG CX P w K mg base N qual scope f cd A outer s H E).ex:=fun b z=>absurd (show b∈([]:List GH) from z) (by simp)
 refine⟨⟨e0.mod,S.kind,rfl,rfl,Dl _,fun y z c h1 h2=>?_,fun y hy=>?_,fun y c _ h=>?_,fun _=>hd,GL.frames_deeper e0.frames,.inr ⟨rfl,rfl⟩,fun b z=>absurd z (noA b),e0.bs,e0.bsz,fun b _ _=>noA b,fun b z=>absurd z (noA b),e0.funs,e0.frf⟩,
  rfl,e0.bare,Un.kept hk,⟨_,x.toInCall.ns,fun i y v h1 h2 h3=>?_⟩,fun y c h=>⟨_,x.cell y c h⟩,e0.hok.fresh (Dl _),fun y c h=>?_,fun p hp=>absurd (show p∈([]:List (GH×GK)) from hp) (by simp),e0.hok.kept hk,?_⟩
 ·exact name_of_addr x.apart (PySem.mem_of_lookup h1) (PySem.mem_of_lookup h2)
 ·have hy:scope.names.lookup y=some .cell\/scope.names.lookup y=some .free:=hy
  rcases hy with hy|hy
  ·exact qk hy
  ·exact absurd rfl (S.nofree _ (PySem.mem_of_lookup hy))
 ·exact EN (x.above y c (PySem.mem_of_lookup h))
 ·have hi:i<vs.length:=by
   unfold MI at h2
   by_cases hi:i<vs.length
   ·exact hi
   ·rw[Ei (by simpa using hi)] at h2
    rw[Fg] at h2
    split at h2<;>cases h2
  have ha:vs[i]?=some v:=by
   unfold MI at h2
   rw[DS (by simpa using hi),DA] at h2
   cases e:vs[i]? with
   |none=>rw[e] at h2;cases h2
   |some a=>rw[e] at h2;cases h2;rfl
  obtain⟨u,hu,rv⟩:=r.get ha
  have hp:ps[i]?=some y:=by
   rw[<-S.pre,List.getElem?_take_of_lt (by omega)];exact h1
  have ndP:ps.Nodup:=by rw[<-S.pre];exact S.nd.sublist (Fh _ _)
  refine⟨u,rv,?_⟩
  rcases S.par y (Ea hp) with k|k
  ·exact .inl ⟨k,ni ndP hp hu k⟩
  ·obtain⟨c,e⟩:=qk (n:=s.heap.objs.size+1) k
   refine .inr ⟨.inl k,c,e,?_⟩
   have q:=x.cell y c e
   rw[nk ndP hp hu (by show scope.names.lookup y≠_;rw[k];decide)] at q
   exact q
 ·exact e0.hok.fresh (EN (x.above y c (PySem.mem_of_lookup h)))
 ·unfold MI
  show _=N.length
  rw[Dk,Dh,Ej]
  omega
theorem zi {CX:CXT}{P:GE}{w:GF}{K:PySem.W.Frag}{mg:Str->Option GC}{base:GG}{k:Nat}{f:GH}{name qual:Str}{params:Arguments}{body:List G5}{scope:GY}{dV kV doc pm cdv ct oc:GC}{an od:Option GH}
  {osl:Array (Option GC)}{N ps:List Str}{sp:Sp}(lk:K.lookup f=some ⟨oc,od,.func (fnOf name qual params body scope dV kV doc pm an cdv ct),osl⟩)(hcd:codeIn K cdv qual=true)(S:HW N ps scope)
  (len: ∀vs H Q E,sp vs H Q E->vs.length=ps.length)
  (hbody: ∀ (A:GL) (outer:List Env) (s:GJ) (H:Hp) (vs:List V) (Q:VK) (E:XK),Room k (A.deeper (Ht qual scope s.heap.objs.size f cdv))->sp vs H Q E->
   ∃t,PSs (IG CX P w K mg base N qual scope f cdv A outer s H E) body t/\t {nx:=fun _ H'=>Q .non H',rt:=Q} (MI N vs) H):
  FnOk P w K mg base CX (k+1) f (fnOf name qual params body scope dV kV doc pm an cdv ct) ps sp:=by
 refine⟨len,fun A outer s H args us vs Q E hr e0 hb r hsp=>?_⟩
 have hl:=len _ _ _ _ hsp
 have KX:K.In s.heap:=e0.mod.kin.keeps fun b o e=>(e0.bs b o e).1
 have lim:s.heap.NoLimit:=e0.mod.nolimit.keeps fun b o e=>(e0.bs b o e).1
 have hkind: ∀y∈ps.zip us,scope.names.lookup y.1=some .local \/(scope.names.lookup y.1=some .cell/\((cellsFrom (s.heap.objs.size+1) scope.names []).lookup y.1).isSome=true):=fun⟨n,v⟩ hy=>by
  rcases S.par n (Ff hy).1 with q|q
  ·exact .inl q
  ·exact .inr ⟨q,PySem.W.cellsFrom_some _ _ _ (.inl q)⟩
 refine codeAny_call_function hr.depth (KX _ _ lk) rfl S.co S.gen rfl (PySem.W.codeRec_of KX hcd) (hb _ _ _ _ ?_)
 refine wpAny_newFunctionEnv_cells S.kind hkind fun env he s1 x=>?_
 subst he
 refine⟨lim.keeps x.toInCall.keep,codeAny_func ?_⟩
 obtain⟨t,ht,hq⟩:=hbody A outer s H vs Q E (hr.deeper _) hsp
 have I:Inv (IG CX P w K mg base N qual scope f cdv A outer s H E) [] (MI N vs) H s1:=ug S hr.hd e0 hl r x
 refine G6 (ht [] s1 (MI N vs) H _ I hq) (fun fl s' hs=>?_) fun e s' hs=>hs
 have fin: ∀ {σ':St}{H':Hp}{v:V}{u:GC},Inv (IG CX P w K mg base N qual scope f cdv A outer s H E) [] σ' H' s'->RelV v u->Q v H'->CE outer P w H s Q u s':=
  fun{σ' H' v u} J rv q=>⟨v,H',J.os,J.bare,J.base,J.hok,rv,q⟩
 cases fl with
 |ret u=>
  obtain⟨v,σ',H',J,rv,q⟩:=hs
  exact fin J rv q
 |next=>
  obtain⟨σ',H',J,q⟩:=hs
  exact fin (v:=V.non) (u:=GC.none) J rfl q
 |brk=>
  obtain⟨_,_,_,q⟩:=hs
  exact False.elim q
 |cont=>
  obtain⟨_,_,_,q⟩:=hs
  exact False.elim q
end
section
section
variable {X:Cx}{x:Str}{p pos:G1}{e:Expr}{es:List Expr}{t:TA}{id T:String}{r:List V->Hp->VK->Prop}
def tCB (r:List V->Hp->VK->Prop)(t:TA):TE:=fun σ H Q=>t σ H fun vs H1=>r vs H1 Q
theorem dt (hc:CallR X (.builtin id) r)(hg:Gl X x)(hm:X.mg x=none)(hv:GX x=some (.builtin id))(ha:PA X (e::es) t)(hn:x≠ "__name__":=by decide)(hdb:(x==("__debug__":Str))=false:=by decide)
  (he:G4 (e::es) X.env=(false,G0 e X.env)::G4 es X.env:=by rfl)(hpl:(G3 pos (G4 es X.env)).any (·.1)=false:=by rfl):PE X (.Call (.Name x p) (e::es) [] pos) (tCB r t):=by
 intro pins s σ H Q I h
 refine Hq (kW I hg hm hv ?_ hn hdb)
 exact PyProof.Rows.callWith_builtin1 (thn (ha pos pins s σ H _ I h) fun us s1 ⟨vs,H1,I1,r1,q1⟩=>hc pins s1 σ H1 vs us Q I1 r1 q1) he hpl
theorem mE (hc:CallR X (.type T) r)(hg:Gl X x)(hm:X.mg x=none)(hv:GX x=some (.type T))(ha:PA X (e::es) t)(hn:x≠ "__name__":=by decide)(hdb:(x==("__debug__":Str))=false:=by decide)
  (he:G4 (e::es) X.env=(false,G0 e X.env)::G4 es X.env:=by rfl)(hpl:(G3 pos (G4 es X.env)).any (·.1)=false:=by rfl):PE X (.Call (.Name x p) (e::es) [] pos) (tCB r t):=by
 intro pins s σ H Q I h
 refine Hq (kW I hg hm hv ?_ hn hdb)
 exact PyProof.Rows.callWith_type1 (thn (ha pos pins s σ H _ I h) fun us s1 ⟨vs,H1,I1,r1,q1⟩=>hc pins s1 σ H1 vs us Q I1 r1 q1) he hpl
end
end
end L2
namespace HT
open PySem PyProof.Rows
section
open PySem.SeqAt
open PySem.AutoSeq1 (wpAny_loadPart')
open PySem.MeetsSeq PySem.MeetsSeq2 PySem.MeetsSeq3
end
section
variable {prog:GE}{w:GF}{A:GL}{E:GC->GJ->Prop}{s:GJ}
theorem cat_tup {t b:GH}{vs ws:List GC}{Q:GC->GJ->Prop}(ht:IsTup s.heap t vs.toArray)(hb:IsTup s.heap b ws.toArray)(hv:vs≠ [])
  (h1:ws=[]->Q (.ref t) s)(h2:ws≠ []->Q (.ref s.heap.objs.size) {s with heap:=s.heap.push {cls:=.type "tuple",data:=.seq (vs++ws).toArray}})
  (hsz:vs.length+ws.length<=sizeLine):GN (GO prog w) A (Hi .Add (.ref t) (.ref b)) Q E s:=by
 obtain⟨⟨cls,dd,data,sl⟩,ho,hc,n,hd⟩:=id ht
 obtain⟨⟨cls2,dd2,data2,sl2⟩,ho2,hc2,n2,hd2⟩:=id hb
 simp only at hc hd hc2 hd2
 subst hc hd hc2 hd2
 have e:vs.toArray++ws.toArray=(vs++ws).toArray:=by simp
 by_cases hw:ws=[]
 ·exact concat_meets ⟨_,ho,rfl⟩ ⟨_,ho2,rfl⟩ noFill_tuple_add seq_tuple_add PySem.F.slot_tuple_add PySem.F.entry_tuple_add (PySem.F.args_tuple_add_2 _ _)
   (tuple_addW1 t b vs.toArray ws.toArray n n2 dd dd2 sl sl2 (by simpa using hv) (by simp [hw])) ⟨ho,ho2,h1 hw⟩
 ·refine concat_meets ⟨_,ho,rfl⟩ ⟨_,ho2,rfl⟩ noFill_tuple_add seq_tuple_add PySem.F.slot_tuple_add PySem.F.entry_tuple_add (PySem.F.args_tuple_add_2 _ _)
   (tuple_addW2 t b vs.toArray ws.toArray n n2 dd dd2 sl sl2 (by simpa using hv) (by simpa using hw) (by rw[Du,Du];exact hsz)) ⟨ho,ho2,?_⟩
  rw[e]
  exact h2 hw
noncomputable def sIx (n d:Nat):Option Int->Nat
 |none=>d
 |some v=>if v<0 then (v+(n:Int)).toNat else min v.toNat n
theorem zO (n d:Nat)(hd:d<=n)(o:Option Int):sIx n d o<=n:=by
 cases o with
 |none=>exact hd
 |some v=>
  show (if v<0 then (v+(n:Int)).toNat else min v.toNat n)<=n
  by_cases hv:v<0
  ·rw[if_pos hv];omega
  ·rw[if_neg hv];exact Nat.min_le_right _ _
theorem sN (v:Int)(n d:Nat):(if v<0 then max (v+(n:Int)) 0 else min v (n:Int))=((sIx n d (some v):Nat):Int):=by
 show (if v<0 then max (v+(n:Int)) 0 else min v (n:Int))=(((if v<0 then (v+(n:Int)).toNat else min v.toNat n):Nat):Int)
 by_cases hv:v<0
 ·simp only[if_pos hv];omega
 ·simp only[if_neg hv];omega
theorem rK (lo hi:Option Int)(n:Nat):GD.Slice.sliceAdjust lo hi 1 (n:Int)=(((sIx n 0 lo:Nat):Int),((sIx n n hi:Nat):Int)):=by
 have h1: ¬((1:Int)<0):=by omega
 unfold GD.Slice.sliceAdjust
 simp only[h1,if_false]
 refine Prod.ext ?_ ?_
 ·cases lo with
  |none=>rfl
  |some v=>exact sN v n 0
 ·cases hi with
  |none=>rfl
  |some v=>exact sN v n n
theorem qV (i j:Nat):GD.Slice.slicePlaces (i:Int) (j:Int) 1=j - i:=by
 unfold GD.Slice.slicePlaces
 have h1:(1:Int)>0:=by omega
 simp only[h1,if_true,Int.ediv_one]
 split<;>omega
theorem ku {v:GC}{o:Option Int}{Q:Option Int->GJ->Prop}(p:IsPart v o)(h:Q o s):GN (GO prog w) A (GD.Slice.slicePartIndex v) Q E s:=by
 cases p with
 |none=>exact slicePart_none h
 |int i t=>exact slicePart_int h
theorem jp {sl:GH}{vl vu:GC}{lo hi:Option Int}{n:Nat}{Q:Int×Int×Nat->GJ->Prop}(hs:s.heap.IsSliceOf sl vl vu .none)(pl:IsPart vl lo)(pu:IsPart vu hi)
  (h:Q (((sIx n 0 lo:Nat):Int),1,sIx n n hi - sIx n 0 lo) s):GN (GO prog w) A (GD.Slice.sliceApplied (.ref sl) (pure (n:Int))) Q E s:=by
 obtain⟨os,hos,hcs,hds⟩:=id hs
 unfold GD.Slice.sliceApplied GD.Slice.sliceFields
 refine GP (GP (Hu hos hds (x:=vl) rfl (GP (Hu hos hds (x:=vu) rfl (GP (Hu hos hds (x:=.none) rfl (GQ ?_)))))))
 refine GP (slicePart_none ?_)
 show GN _ _ (if ((1:Int)==0)=true then _ else _) _ _ s
 rw[if_neg (by decide)]
 refine GP (ku pl (GP (ku pu (GP (GQ ?_)))))
 show GN _ _ (match GD.Slice.sliceAdjust lo hi 1 (n:Int) with|(lo,hi)=>pure (lo,(1:Int),GD.Slice.slicePlaces lo hi 1)) _ _ s
 rw[rK lo hi n]
 show GN _ _ (pure (((sIx n 0 lo:Nat):Int),(1:Int),GD.Slice.slicePlaces ((sIx n 0 lo:Nat):Int) ((sIx n n hi:Nat):Int) 1)) _ _ s
 rw[qV]
 exact GQ h
theorem u5 (xs:Array GC)(i k:Nat):((List.range k).filterMap fun (m:Nat)=>xs[((i:Int)+(m:Int) * 1).toNat]?).toArray=((xs.toList.drop i).take k).toArray:=by
 have e:(fun (m:Nat)=>xs[((i:Int)+(m:Int) * 1).toNat]?)=fun m=>xs[i+m]?:=by
  funext m
  have:((i:Int)+(m:Int) * 1).toNat=i+m:=by omega
  rw[this]
 rw[e]
 have:=pick_run xs i k
 rw[List.filterMap_map] at this
 have e2:((fun x=>xs[x]?)∘fun x=>i+x)=fun m=>xs[i+m]?:=rfl
 rw[e2] at this
 rw[this]
theorem getItem_tuple_cut {t sl:GH}{items:Array GC}{vl vu:GC}{lo hi:Option Int}{Q:GC->GJ->Prop}(ht:IsTup s.heap t items)(hs:s.heap.IsSliceOf sl vl vu .none)(pl:IsPart vl lo)(pu:IsPart vu hi)
  (hw: ¬(sIx items.size 0 lo=0/\sIx items.size items.size hi=items.size))
  (h:Q (.ref s.heap.objs.size) {s with heap:=s.heap.push {cls:=.type "tuple",data:=.seq ((items.toList.drop (sIx items.size 0 lo)).take (sIx items.size items.size hi - sIx items.size 0 lo)).toArray}})
  (hsz:items.size<=sizeLine):GN (GO prog w) A (getItem (.ref t) (.ref sl)) Q E s:=by
 have htake:sizeOk (.seq ((items.toList.drop (sIx items.size 0 lo)).take (sIx items.size items.size hi - sIx items.size 0 lo)).toArray):=by
  show ((items.toList.drop (sIx items.size 0 lo)).take (sIx items.size items.size hi - sIx items.size 0 lo)).toArray.size<=sizeLine
  rw[Du,DH,DT,EO]
  omega
 have hj:sIx items.size items.size hi<=items.size:=zO _ _ (Dl _) hi
 obtain⟨os,hos,hcs,hds⟩:=id hs
 have hTs:s.TypeIs (.ref sl) "slice":=⟨os,hos,hcs⟩
 unfold getItem
 try with_reducible refine GR ?_
 first|refine GP (GQ ?_)|skip
 refine GP (wpAny_sequenceKey ht.typeIs (by decide) ?_)
 refine GP (wpAny_callSpecial?_slot (name:=Str.ofString "__getitem__") ht.typeIs PyProof.Rows.slot_tuple_getitem
  (wpAny_call_entry PyProof.Rows.slot_tuple_getitem ht.typeIs entry_tuple_getitem ?_ (args_tuple_getitem _ _)))
 show GN _ _ (GD.Tuple.tupleItemsOf (.ref t)>>=_) _ _ s
 refine GP (tupleItemsOf_ ht ?_)
 refine GP (wpAny_typeOf hTs ?_)
 rw[if_pos (by decide)]
 refine GP (jp hs pl pu ?_)
 have hno: ¬((((sIx items.size 0 lo:Nat):Int)==0 && (1:Int)==1 && (sIx items.size items.size hi - sIx items.size 0 lo)==items.size)=true):=by
  intro q
  rw[Dx,Dx] at q
  have q1:((sIx items.size 0 lo:Nat):Int)=0:=eq_of_beq q.1.1
  have q2:sIx items.size items.size hi - sIx items.size 0 lo=items.size:=eq_of_beq q.2
  exact hw ⟨by omega,by omega⟩
 show GN _ _ (if (((sIx items.size 0 lo:Nat):Int)==0 && (1:Int)==1 && (sIx items.size items.size hi - sIx items.size 0 lo)==items.size)=true then _ else _) _ _ s
 rw[if_neg hno,u5]
 first
  |exact GP (m:=GD.Tuple.tupleExact _) (Hv (GQ ⟨_,rfl,GQ h⟩) htake)
  |exact GP (m:=GD.Tuple.tupleExact _) (Hv (GP (GQ (GQ ⟨_,rfl,GQ h⟩))) htake)
  |exact GP (GP (m:=GD.Tuple.tupleExact _) (Hv (GQ (GQ ⟨_,rfl,GQ h⟩)) htake))
  |exact GP (GP (m:=GD.Tuple.tupleExact _) (Hv (GQ ⟨_,rfl,GQ h⟩) htake))
end
end HT
namespace L2
open PySem PySem.Spec PyProof.Rows
noncomputable abbrev TO:=St->Hp->(Option Int->Hp->Prop)->Prop
def PO (X:Cx)(e:Option Expr)(t:TO):Prop:=
 ∀ (pins:List (GH×GK)) (s:GJ) (σ:St) (H:Hp) (Q:Option Int->Hp->Prop),Inv X pins σ H s->t σ H Q->
   GN (GO X.prog X.w) X.A (evalPart e X.env) (fun u s'=> ∃o H',Inv X pins σ H' s'/\IsPart u o/\Q o H') X.xe s
def xh:TO:=fun _ H Q=>Q none H
def tPart (t:TE):TO:=fun σ H Q=>t σ H fun x H1=> ∃i,x=.int i/\Q (some i) H1
section
variable {X:Cx}{e:Expr}{te:TE}{lo hi:Option Expr}{tl th:TO}{pos p2:G1}
theorem Lu:PO X none xh:=by
 intro pins s σ H Q I h
 rw[evalPart_none]
 exact GQ ⟨none,H,I,.none,h⟩
theorem nU (h:PE X e te):PO X (some e) (tPart te):=by
 intro pins s σ H Q I hw
 rw[evalPart_some]
 refine thn (h pins s σ H _ I hw) fun u s1 qz=>?_
 obtain⟨x,H1,I1,r1,q1⟩:=qz
 obtain⟨i,rfl,q⟩:=q1
 obtain⟨t,rfl⟩:=r1
 exact⟨some i,H1,I1,.int i t,q⟩
def SlR (X:Cx)(r:V->Option Int->Option Int->Hp->VK->Prop):Prop:=
 ∀ (pins:List (GH×GK)) (s:GJ) (σ:St) (H:Hp) (x:V) (v vl vu:GC) (lo hi:Option Int) (sl:GH) (Q:VK),Inv X pins σ H s->RelV x v->s.heap.IsSliceOf sl vl vu .none->IsPart vl lo->IsPart vu hi->r x lo hi H Q->
   ∃T id,typeLookup (.type T) "__getitem__"=pure (some (.builtin id))/\s.TypeIs v T/\GN (GO X.prog X.w) X.A (getItem v (.ref sl)) (EP X pins σ Q) X.xe s
theorem SlR.or {r r':V->Option Int->Option Int->Hp->VK->Prop}(h:SlR X r)(h':SlR X r'):SlR X (fun x lo hi H Q=>r x lo hi H Q\/r' x lo hi H Q):=by
 intro pins s σ H x v vl vu lo hi sl Q I rx hs pl pu q
 rcases q with q|q
 ·exact h pins s σ H x v vl vu lo hi sl Q I rx hs pl pu q
 ·exact h' pins s σ H x v vl vu lo hi sl Q I rx hs pl pu q
def tSl (r:V->Option Int->Option Int->Hp->VK->Prop)(te:TE)(tl th:TO):TE:=fun σ H Q=>te σ H fun x H1=>tl σ H1 fun l H2=>th σ H2 fun u H3=>r x l u H3 Q
theorem pw {r:V->Option Int->Option Int->Hp->VK->Prop}(hr:SlR X r)(he:PE X e te)(hl:PO X lo tl)(hu:PO X hi th):PE X (.Subscript e (.Slice lo hi none p2) pos) (tSl r te tl th):=by
 intro pins s σ H Q I h
 refine Subscript_ (thn (he pins s σ H _ I h) fun v s1 qz=>?_)
 obtain⟨x,H1,I1,r1,q1⟩:=qz
 refine wpAny_Slice (thn (hl pins s1 σ H1 _ I1 q1) fun vl s2 ⟨l,H2,I2,pl,q2⟩=>thn (hu pins s2 σ H2 _ I2 q2) fun vu s3 qz=>?_)
 obtain⟨u,H3,I3,pu,q3⟩:=qz
 rw[evalPart_none]
 refine GQ ?_
 have I4:Inv X pins σ H3 {s3 with heap:=s3.heap.push {cls:=.type "slice",data:=.fields #[vl,vu,.none]}}:=I3.kept (t':=s3.toks) fun b ob q=>DF _ q
 obtain⟨T,id,hT,ht,hg⟩:=hr pins {s3 with heap:=s3.heap.push {cls:=.type "slice",data:=.fields #[vl,vu,.none]}} σ H3 x v vl vu l u s3.heap.objs.size Q I4 r1 (GG.IsSliceOf.new ..) pl pu q3
 show GN (GO X.prog X.w) X.A (subscriptTail e (.Slice lo hi none p2) v (.ref s3.heap.objs.size)) (EP X pins σ Q) X.xe {s3 with heap:=s3.heap.push {cls:=.type "slice",data:=.fields #[vl,vu,.none]}}
 exact tail_any (ops:=[.ref s3.heap.objs.size,v]) ht hT hg (by with_unfolding_all rfl)
def IC (xs:List V)(lo hi:Option Int):List V:=(xs.drop (HT.sIx xs.length 0 lo)).take (HT.sIx xs.length xs.length hi - HT.sIx xs.length 0 lo)
theorem jK (xs:List V)(lo hi:Option Int):(IC xs lo hi).length<=xs.length:=by
 unfold IC
 rw[DH,DT]
 omega
def rSlT (K:PySem.W.Frag):V->Option Int->Option Int->Hp->VK->Prop:=fun x lo hi H Q=> ∃a xs,x=.ref a/\SqT K H a xs/\
 ¬(HT.sIx xs.length 0 lo=0/\HT.sIx xs.length xs.length hi=xs.length)/\ ∀p,H p=none->Q (.ref p) (upd H p (.tup (IC xs lo hi)))
theorem Mu:SlR X (rSlT X.K):=by
 intro pins s σ H x v vl vu lo hi sl Q I rx hs pl pu h
 obtain⟨a,xs,rfl,hx,hw,q⟩:=h
 cases rx
 obtain⟨its,r,ht,hz⟩:=I.tuple hx
 have hlen:its.toArray.size=xs.length:=by rw[Du];exact r.length.symm
 refine⟨"tuple",_,PyProof.Rows.slot_tuple_getitem.lookup,ht.typeIs,?_⟩
 refine HT.getItem_tuple_cut ht hs pl pu (by rw[hlen];exact hw) ?_ (by rw[hlen];exact hz)
 rw[hlen]
 refine⟨.ref s.heap.objs.size,_,I.laid (t':=s.toks) (o:=.tup (IC xs lo hi)) (fun b ob q=>DF _ q) (Dl _) ?_,rfl,q _ (I.hok.fresh (Dl _))⟩
 exact⟨Dy (jK xs lo hi) hz,_,(r.drop (HT.sIx xs.length 0 lo)).take (HT.sIx xs.length xs.length hi - HT.sIx xs.length 0 lo),IsTupD.new _ _⟩
def LF (K:PySem.W.Frag):R2:=fun x y H Q=> ∃a b xs ys,x=.ref a/\y=.ref b/\SqT K H a xs/\SqT K H b ys/\xs≠ []/\xs.length+ys.length<=sizeLine/\
 (ys=[]->Q (.ref a) H)/\(ys≠ []-> ∀p,H p=none->Q (.ref p) (upd H p (.tup (xs++ys))))
theorem Vals.nil_iff {xs:List V}{us:List GC}(r:Vals xs us):us=[]↔xs=[]:=by
 cases r with
 |nil=>simp
 |cons _ _=>simp
theorem Lb:OpR X (Hi .Add) (LF X.K):=by
 intro pins s σ H x y v u Q I rx ry h
 obtain⟨a,b,xs,ys,rfl,rfl,ha,hb,hx,hz,q1,q2⟩:=h
 cases rx
 cases ry
 obtain⟨its,r1,p1,_⟩:=I.tuple ha
 obtain⟨its2,r2,p2,_⟩:=I.tuple hb
 refine HT.cat_tup p1 p2 (fun z=>hx (r1.nil_iff.mp z)) (fun z=>⟨.ref a,H,I,rfl,q1 (r2.nil_iff.mp z)⟩) (fun z=>?_) (by rw[<-r1.length,<-r2.length];exact hz)
 refine⟨.ref s.heap.objs.size,_,I.laid (t':=s.toks) (o:=.tup (xs++ys)) (fun b ob q=>DF _ q) (Dl _) ?_,rfl,q2 (fun w=>z (r2.nil_iff.mpr w)) _ (I.hok.fresh (Dl _))⟩
 exact⟨by rw[Dk];exact hz,_,r1.append r2,IsTupD.new _ _⟩
end
section
noncomputable def ixN (n:Nat)(i:Int):Option Nat:=if 0<=i then (if i<n then some i.toNat else none) else if -(n:Int)<=i then some (i+n).toNat else none
def atI {α:Type}(xs:List α)(i:Int):Option α:=(ixN xs.length i).bind fun j=>xs[j]?
theorem sx {n:Nat}{i:Int}{j:Nat}(h:ixN n i=some j):seqIndex? i n=some j/\j<n/\ -(n:Int)<=i/\i<n:=by
 unfold ixN at h
 by_cases h0:0<=i
 ·rw[if_pos h0] at h
  by_cases h1:i<n
  ·rw[if_pos h1] at h
   have e:i.toNat=j:=Option.some.inj h
   exact⟨by rw[seqIndex_of h0 h1,e],by omega,by omega,h1⟩
  ·rw[if_neg h1] at h;cases h
 ·rw[if_neg h0] at h
  by_cases h1: -(n:Int)<=i
  ·rw[if_pos h1] at h
   have e:(i+n).toNat=j:=Option.some.inj h
   exact⟨by rw[seqIndex_neg (by omega) h1,e],by omega,h1,by omega⟩
  ·rw[if_neg h1] at h;cases h
theorem oS {α:Type}{xs:List α}{i:Int}{v:α}(h:atI xs i=some v): ∃j,seqIndex? i xs.length=some j/\xs[j]?=some v/\j<xs.length/\ -(xs.length:Int)<=i/\i<xs.length:=by
 unfold atI at h
 cases e:ixN xs.length i with
 |none=>rw[e] at h;cases h
 |some j=>
  rw[e] at h
  obtain⟨h1,h2,h3,h4⟩:=sx e
  exact⟨j,h1,h,h2,h3,h4⟩
theorem jd {α:Type}{xs:List α}{j:Nat}{v:α}(h:xs[j]?=some v):atI xs (j:Int)=some v:=by
 have hj:j<xs.length:=(DK.mp h).1
 have e:ixN xs.length (j:Int)=some j:=by
  unfold ixN
  rw[if_pos (by omega),if_pos (by omega)];simp
 unfold atI;rw[e];exact h
theorem wV {α:Type}(xs:List α)(v:α):atI (xs++[v]) (-1)=some v:=by
 have hl:(xs++[v]).length=xs.length+1:=by simp
 have e:ixN (xs++[v]).length (-1)=some xs.length:=by
  unfold ixN
  rw[hl,if_neg (by decide),if_pos (by omega)]
  congr 1
  omega
 unfold atI
 rw[e]
 show (xs++[v])[xs.length]?=some v
 simp
noncomputable def oU (b:Expr):Prop:= ∀o i,subscripted b false o i=operate [o,i] (getItem o i)
def IxR (X:Cx)(r:R2):Prop:=
 ∀ (value slice:Expr) (pins:List (GH×GK)) (s:GJ) (σ:St) (H:Hp) (x y:V) (v u:GC) (Q:VK),Inv X pins σ H s->RelV x v->RelV y u->r x y H Q->
   subscripted slice false v u=operate [v,u] (getItem v u)->GN (GO X.prog X.w) X.A (subscriptTail value slice v u) (EP X pins σ Q) X.xe s
def MtR (X:Cx)(id:String)(r:V->List V->Hp->VK->Prop):Prop:=
 ∀ (pins:List (GH×GK)) (s:GJ) (σ:St) (H:Hp) (x:V) (xs:List V) (v:GC) (us:List GC) (Q:VK),Inv X pins σ H s->RelV x v->Vals xs us->r x xs H Q->
   GN (GO X.prog X.w) X.A (call (.builtin id) (v::us)) (EP X pins σ Q) X.xe s
section
variable {X:Cx}{a b:Expr}{ta tb:TE}{pos:G1}
theorem IxR.or {r r':R2}(h:IxR X r)(h':IxR X r'):IxR X (fun x y H Q=>r x y H Q\/r' x y H Q):=by
 intro value slice pins s σ H x y v u Q I rx ry q hs
 rcases q with q|q
 ·exact h value slice pins s σ H x y v u Q I rx ry q hs
 ·exact h' value slice pins s σ H x y v u Q I rx ry q hs
theorem r6 {r:R2}(hr:IxR X r)(ha:PE X a ta)(hb:PE X b tb)(hs:oU b):PE X (.Subscript a b pos) (tOp r ta tb):=by
 intro pins s σ H Q I h
 exact Subscript_ (Io ha hb I h fun v u s2 x y H2 I2 rx ry q=>hr a b pins s2 σ H2 x y v u Q I2 rx ry q (hs _ _))
def rIxL (K:PySem.W.Frag):R2:=fun x y H Q=> ∃p xs i v,x=.ref p/\y=.int i/\SqL K H p xs/\atI xs i=some v/\Q v H
def rIxT (K:PySem.W.Frag):R2:=fun x y H Q=> ∃p xs i v,x=.ref p/\y=.int i/\SqT K H p xs/\atI xs i=some v/\Q v H
def rIxS:R2:=fun x y H Q=> ∃z i c,x=.str z/\y=.int i/\z.length<=sizeLine/\atI z.cps.toList i=some c/\Q (.str ⟨#[c]⟩) H
theorem J7:IxR X (rIxL X.K):=by
 intro value slice pins s σ H x y v u Q I rx ry h hs
 obtain⟨p,xs,i,z,rfl,rfl,hq,he,q⟩:=h
 cases rx
 obtain⟨t,rfl⟩:=ry
 obtain⟨its,r,pl,hz⟩:=I.list hq
 obtain⟨j,h1,h2,h3,h4,h5⟩:=oS he
 obtain⟨w,ew,rw'⟩:=r.get h2
 have hl:=r.length
 have hn:=iM
 have fin:EP X pins σ Q w s:=⟨z,H,I,rw',q⟩
 by_cases h0:0<=i
 ·have hj:i.toNat=j:=by
   rw[seqIndex_of h0 h5] at h1
   exact Option.some.inj h1
  exact item_listR pl.isList h0 (by omega) (by rw[hj];simpa using ew) fin hs
 ·have hj:(i+(its.toArray.size:Int)).toNat=j:=by
   rw[seqIndex_neg (by omega) h4] at h1
   rw[Du,<-hl]
   exact Option.some.inj h1
  exact subscriptTail_builtinR (x:=w) pl.isList.typeIs slot_list_getitem.lookup
   (wpAny_getItem_list_neg (Q:=fun r s'=>r=w/\EP X pins σ Q r s') pl.isList (by omega) (by rw[Du]<;>omega) (by omega) (by rw[hj];simpa using ew) ⟨rfl,fin⟩) hs
theorem Ka:IxR X (rIxT X.K):=by
 intro value slice pins s σ H x y v u Q I rx ry h hs
 obtain⟨p,xs,i,z,rfl,rfl,hq,he,q⟩:=h
 cases rx
 obtain⟨t,rfl⟩:=ry
 obtain⟨its,r,pl,hz⟩:=I.tuple hq
 obtain⟨j,h1,h2,h3,h4,h5⟩:=oS he
 obtain⟨w,ew,rw'⟩:=r.get h2
 have hl:=r.length
 have hn:=iM
 have fin:EP X pins σ Q w s:=⟨z,H,I,rw',q⟩
 exact subscriptTail_builtinR (x:=w) pl.typeIs slot_tuple_getitem.lookup
  (getItem_tuple (j:=j) (Q:=fun r s'=>r=w/\EP X pins σ Q r s') pl (by omega) (by omega) (by rw[Du,<-hl];exact h1) (by simpa using ew) ⟨rfl,fin⟩) hs
theorem oy:IxR X rIxS:=by
 intro value slice pins s σ H x y v u Q I rx ry h hs
 obtain⟨z,i,c,rfl,rfl,hz,he,q⟩:=h
 obtain⟨t,rfl⟩:=rx
 obtain⟨t',rfl⟩:=ry
 obtain⟨j,h1,h2,h3,h4,h5⟩:=oS he
 have hl:z.cps.toList.length=z.length:=by simp [Str.length]
 rw[hl] at h1 h4 h5
 have hn:=iM
 exact tail_any (Hw s z t) slot_str_getitem.lookup (getItem_str (c:=c) (by
  have e1:decide (i< -(2 ^ 63:Int))=false:=decide_eq_false (by omega)
  have e2:decide (i≥2 ^ 63)=false:=decide_eq_false (by omega)
  rw[e1,e2,Bool.or_false]) (by rw[h1];simpa using h2) ⟨.str ⟨#[c]⟩,H,I.tok _,⟨_,rfl⟩,q⟩) hs
def rIx (K:PySem.W.Frag):R2:=fun x y H Q=>rIxL K x y H Q\/rIxT K x y H Q\/rIxS x y H Q
theorem J9:IxR X (rIx X.K):=J7.or (Ka.or oy)
theorem rh (its:List GC)(n j:Nat)(u:GC):GK.mapSeq (·.setIfInBounds j u) {cls:=.type "list",data:=.seq its.toArray n}={cls:=.type "list",data:=.seq (its.set j u).toArray n}:=by
 simp [GK.mapSeq]
theorem Inv.lst {pins:List (GH×GK)}{σ:St}{H:Hp}{s:GJ}{p:GH}{xs:List V}(I:Inv X pins σ H s)(h:H p=some (.lst xs)):
  ∃ (its:List GC) (n:Nat),Vals xs its/\s.heap.get? p=some {cls:=.type "list",data:=.seq its.toArray n}/\xs.length<=sizeLine:=by
 obtain⟨z,its,n,r,e⟩:=I.hok p _ h
 exact⟨its,n,r,e,z⟩
theorem Inv.lstUpd {pins:List (GH×GK)}{σ:St}{H:Hp}{s:GJ}{p:GH}{xs ys:List V}{its its':List GC}{n n':Nat}{f:GK->GK}(I:Inv X pins σ H s)(h:H p=some (.lst xs))
  (ho:s.heap.get? p=some {cls:=.type "list",data:=.seq its.toArray n})(hf:f {cls:=.type "list",data:=.seq its.toArray n}={cls:=.type "list",data:=.seq its'.toArray n'})(r:Vals ys its')(hz:ys.length<=sizeLine)(t:Nat):
  Inv X pins σ (upd H p (.lst ys)) {s with heap:=s.heap.update p f,toks:=t}:=by
 have e:(s.heap.update p f).get? p=some {cls:=.type "list",data:=.seq its'.toArray n'}:=by
  rw[F8 f ho (by rw[hf]<;>rfl),hf]
 refine I.write (x:=p) (e:=p) (by rw[h];trivial) (.inl rfl) (fun b u hb q=>(ET _ _ (Ne.symm hb)).trans q) ⟨_,e⟩ ?_
 exact⟨hz,its',n',r,e⟩
def rSetL:V->V->V->Hp->(Hp->Prop)->Prop:=fun o i v H Q=> ∃p xs k j,o=.ref p/\i=.int k/\H p=some (.lst xs)/\ixN xs.length k=some j/\Q (upd H p (.lst (xs.set j v)))
theorem Mo:PSet X rSetL:=by
 intro pins s σ H o i v ov iv u Q I ro ri rv h
 obtain⟨p,xs,k,j,rfl,rfl,hp,hj,q⟩:=h
 cases ro
 obtain⟨t,rfl⟩:=ri
 obtain⟨its,n,r,ho,hz⟩:=I.lst hp
 obtain⟨h1,h2,h3,h4⟩:=sx hj
 have hl:=r.length
 have hn:=iM
 have I':Inv X pins σ (upd H p (.lst (xs.set j v))) {s with heap:=s.heap.update p (GK.mapSeq (·.setIfInBounds j u))}:=
  I.lstUpd hp ho (rh its n j u) (r.set rv j) (by rw[DN];exact hz) s.toks
 by_cases h0:0<=k
 ·have hk:k.toNat=j:=by
   rw[seqIndex_of h0 h4] at h1
   exact Option.some.inj h1
  exact PySem.W.ki_setAt ho h0 (by omega) (by rw[Du,<-hl];exact h4) (by rw[hk];exact⟨_,I',q⟩)
 ·have hk:(k+(its.toArray.size:Int)).toNat=j:=by
   rw[seqIndex_neg (by omega) h3] at h1
   rw[Du,<-hl]
   exact Option.some.inj h1
  exact PySem.W.ki_setBack ho (by omega) (by rw[Du,<-hl];exact h3) (by omega) (by rw[hk];exact⟨_,I',q⟩)
theorem nK (lo hi:Option Int)(n:Nat):(Hy lo hi none n).1=((HT.sIx n 0 lo:Nat):Int)/\(Hy lo hi none n).2.1=((HT.sIx n n hi:Nat):Int)/\(Hy lo hi none n).2.2=1:=by
 refine⟨?_,?_,rfl⟩
 ·cases lo with
  |none=>simp [Hy,HT.sIx]
  |some i=>
   simp only[Hy,HT.sIx,FG,show (1:Int)>0 by decide,if_true]
   by_cases h:i<0
   ·simp only[h,if_true]<;>omega
   ·simp only[h,if_false]<;>omega
 ·cases hi with
  |none=>simp [Hy,HT.sIx]
  |some i=>
   simp only[Hy,HT.sIx,FG,show (1:Int)>0 by decide,if_true]
   by_cases h:i<0
   ·simp only[h,if_true]<;>omega
   ·simp only[h,if_false]<;>omega
theorem lR (its:List GC)(lo hi:Option Int):slicePick its.toArray lo hi none=((its.drop (HT.sIx its.length 0 lo)).take (HT.sIx its.length its.length hi - HT.sIx its.length 0 lo)).toArray:=by
 obtain⟨h1,h2,h3⟩:=nK lo hi its.toArray.size
 unfold slicePick
 rw[h1,h2,h3]
 simp only[sliceRange_one,pick_run,Du]<;>rfl
def rSlL (K:PySem.W.Frag):V->Option Int->Option Int->Hp->VK->Prop:=fun x lo hi H Q=> ∃a xs,x=.ref a/\SqL K H a xs/\ ∀p,H p=none->Q (.ref p) (upd H p (.lst (IC xs lo hi)))
theorem xr:SlR X (rSlL X.K):=by
 intro pins s σ H x v vl vu lo hi sl Q I rx hs pl pu h
 obtain⟨a,xs,rfl,hx,q⟩:=h
 cases rx
 obtain⟨its,r,ht,hz⟩:=I.list hx
 have hlen:=r.length
 refine⟨"list",_,slot_list_getitem.lookup,ht.isList.typeIs,?_⟩
 refine wpAny_getItem_list_slice ht.isList hs pl pu .none (by simp) ?_ (by rw[Du]<;>omega)
 rw[lR,<-hlen]
 refine⟨.ref s.heap.objs.size,_,I.laid (t':=s.toks) (o:=.lst (IC xs lo hi)) (fun b ob q=>DF _ q) (Dl _) ?_,rfl,q _ (I.hok.fresh (Dl _))⟩
 exact⟨Dy (jK xs lo hi) hz,_,0,(r.drop (HT.sIx xs.length 0 lo)).take (HT.sIx xs.length xs.length hi - HT.sIx xs.length 0 lo),D0 _ rfl⟩
noncomputable def IW:V->Bool
 |.non=>true
 |.bl _=>true
 |.int _=>true
 |.str _=>true
 |_=>false
noncomputable def eqV:V->V->Bool
 |.non,.non=>true
 |.bl a,.bl b=>a==b
 |.bl a,.int b=>(if a then 1 else 0)==b
 |.int a,.bl b=>a==(if b then 1 else 0)
 |.int a,.int b=>a==b
 |.str a,.str b=>a==b
 |_,_=>false
theorem Bo {A:GL}{s:GJ}{y x:V}{u v:GC}(ry:RelV y u)(rx:RelV x v)(fy:IW y=true)(fx:IW x=true):SeqAt.EqAt A s u v (eqV y x):=by
 cases y with
 |non=>
  cases ry
  cases x with
  |non=>cases rx;exact SeqAt.EqAt.same _
  |bl b=>cases rx;exact SeqAt.EqAt.none_bool b
  |int b=>obtain⟨t,rfl⟩:=rx;exact SeqAt.EqAt.none_int b t
  |str b=>obtain⟨t,rfl⟩:=rx;exact SeqAt.EqAt.none_str b t
  |_=>exact absurd (show false=true from fx) Ds
 |bl a=>
  cases ry
  cases x with
  |non=>cases rx;exact SeqAt.EqAt.bool_none a
  |bl b=>cases rx;exact SeqAt.EqAt.bool_bool a b
  |int b=>obtain⟨t,rfl⟩:=rx;exact SeqAt.EqAt.bool_int a b t
  |str b=>obtain⟨t,rfl⟩:=rx;exact SeqAt.EqAt.bool_str a b t
  |_=>exact absurd (show false=true from fx) Ds
 |int a=>
  obtain⟨t',rfl⟩:=ry
  cases x with
  |non=>cases rx;exact SeqAt.EqAt.int_none a t'
  |bl b=>cases rx;exact SeqAt.EqAt.int_bool a t' b
  |int b=>obtain⟨t,rfl⟩:=rx;exact SeqAt.EqAt.int_int a t' b t
  |str b=>obtain⟨t,rfl⟩:=rx;exact SeqAt.EqAt.int_str a t' b t
  |_=>exact absurd (show false=true from fx) Ds
 |str a=>
  obtain⟨t',rfl⟩:=ry
  cases x with
  |non=>cases rx;exact SeqAt.EqAt.str_none a t'
  |bl b=>cases rx;exact SeqAt.EqAt.str_bool a t' b
  |int b=>obtain⟨t,rfl⟩:=rx;exact SeqAt.EqAt.str_int a t' b t
  |str b=>obtain⟨t,rfl⟩:=rx;exact SeqAt.EqAt.str_str a t' b t
  |_=>exact absurd (show false=true from fx) Ds
 |_=>exact absurd (show false=true from fy) Ds
def eqU (x:V)(u:GC):Bool:=match u with
 |.none=>eqV .non x
 |.bool b=>eqV (.bl b) x
 |.int i _=>eqV (.int i) x
 |.str z _=>eqV (.str z) x
 |_=>false
theorem rD {x y:V}{u:GC}(r:RelV y u)(f:IW y=true):eqU x u=eqV y x:=by
 cases y with
 |non=>cases r;rfl
 |bl b=>cases r;rfl
 |int i=>obtain⟨t,rfl⟩:=r;rfl
 |str z=>obtain⟨t,rfl⟩:=r;rfl
 |_=>exact absurd (show false=true from f) Ds
theorem jh {x:V}: ∀ {xs:List V}{us:List GC},Vals xs us->xs.all IW=true->us.any (eqU x)=xs.any fun y=>eqV y x
 |_,_,.nil,_=>rfl
 |y::xs,u::us,.cons r t,f=>by
  rw[Es,Dx] at f
  rw[EU,EU,rD r f.1,jh t f.2]
theorem f9 {A:GL}{s:GJ}{x:V}{v:GC}(rx:RelV x v)(fx:IW x=true): ∀ {xs:List V}{us:List GC},Vals xs us->xs.all IW=true-> ∀u∈us,SeqAt.EqAt A s u v (eqU x u)
 |_,_,.nil,_=>fun u hu=>by cases hu
 |y::xs,u::us,.cons r t,f=>fun u' hu=>by
  rw[Es,Dx] at f
  rcases Dp.mp hu with rfl|hu
  ·rw[rD r f.1];exact Bo r rx f.1 fx
  ·exact f9 rx fx t f.2 u' hu
def inV (x:V)(xs:List V):Bool:=xs.any fun y=>eqV y x
def rIn (K:PySem.W.Frag)(neg:Bool):R2:=fun x y H Q=> ∃p xs,y=.ref p/\(SqL K H p xs\/SqT K H p xs)/\IW x=true/\xs.all IW=true/\Q (.bl (if neg then !inV x xs else inV x xs)) H
theorem Ld:OpR X (G7 .In) (rIn X.K false):=by
 intro pins s σ H x y v u Q I rx ry h
 obtain⟨p,xs,rfl,hq,fx,fs,q⟩:=h
 cases ry
 rcases hq with hq|hq
 ·obtain⟨its,r,pl,hz⟩:=I.list hq
  refine SeqAt.in_listAt (eqU x) pl.isList (fun w hw=>f9 rx fx r fs w (by simpa using hw)) ⟨.bl _,H,I,rfl,?_⟩
  rw[show its.toArray.any (eqU x)=its.any (eqU x) by simp,jh r fs]
  exact q
 ·obtain⟨its,r,pl,hz⟩:=I.tuple hq
  refine SeqAt.in_tupleAt (eqU x) pl (fun w hw=>f9 rx fx r fs w (by simpa using hw)) ⟨.bl _,H,I,rfl,?_⟩
  rw[show its.toArray.any (eqU x)=its.any (eqU x) by simp,jh r fs]
  exact q
theorem Li:OpR X (G7 .NotIn) (rIn X.K true):=by
 intro pins s σ H x y v u Q I rx ry h
 obtain⟨p,xs,rfl,hq,fx,fs,q⟩:=h
 cases ry
 rcases hq with hq|hq
 ·obtain⟨its,r,pl,hz⟩:=I.list hq
  refine SeqAt.notIn_listAt (eqU x) pl.isList (fun w hw=>f9 rx fx r fs w (by simpa using hw)) ⟨.bl _,H,I,rfl,?_⟩
  rw[show its.toArray.any (eqU x)=its.any (eqU x) by simp,jh r fs]
  exact q
 ·obtain⟨its,r,pl,hz⟩:=I.tuple hq
  refine SeqAt.notIn_tupleAt (eqU x) pl (fun w hw=>f9 rx fx r fs w (by simpa using hw)) ⟨.bl _,H,I,rfl,?_⟩
  rw[show its.toArray.any (eqU x)=its.any (eqU x) by simp,jh r fs]
  exact q
theorem Lj:OpR X (G7 .NotIn) (fun x y H Q=> ∃i j,x=.str i/\y=.str j/\Q (.bl (!(!(GD.Str.occurrences j i 0 j.length 1).isEmpty))) H):=by
 intro pins s σ H x y v u Q I rx ry h
 obtain⟨i,j,rfl,rfl,q⟩:=h
 obtain⟨t,rfl⟩:=rx
 obtain⟨t',rfl⟩:=ry
 exact notIn_str ⟨.bl _,H,I,rfl,q⟩
theorem oN:CallR X (.builtin "len") (fun xs H Q=> ∃p ys,xs=[.ref p]/\(SqL X.K H p ys\/SqT X.K H p ys)/\Q (.int ys.length) H):=by
 intro pins s σ H xs us Q I r h
 obtain⟨p,ys,rfl,hq,q⟩:=h
 obtain⟨u,rfl,rx⟩:=Nd r
 cases rx
 have hn:=iM
 rcases hq with hq|hq
 ·obtain⟨its,r',pl,hz⟩:=I.list hq
  have hlen:=r'.length
  exact Calls.call_len_list pl.isList (by simp only[Du]<;>omega) ⟨.int ys.length,H,I.tok _,⟨s.toks+1,by rw[Du,hlen]⟩,q⟩
 ·obtain⟨its,r',pl,hz⟩:=I.tuple hq
  have hlen:=r'.length
  exact len_tuple pl (by simp only[Du]<;>omega) ⟨.int ys.length,H,I.tok _,⟨s.toks+1,by rw[Du,hlen]⟩,q⟩
theorem Iu:CallR X (.builtin "len") (fun xs H Q=> ∃z,xs=[.str z]/\z.length<=sizeLine/\Q (.int z.length) H):=by
 intro pins s σ H xs us Q I r h
 obtain⟨z,rfl,hz,q⟩:=h
 obtain⟨u,rfl,t,rfl⟩:=Nd r
 have hn:=iM
 exact len_str (by omega) ⟨.int z.length,H,I.tok _,⟨_,rfl⟩,q⟩
theorem CallR.or {f:GC}{r r':List V->Hp->VK->Prop}(h:CallR X f r)(h':CallR X f r'):CallR X f (fun xs H Q=>r xs H Q\/r' xs H Q):=by
 intro pins s σ H xs us Q I rs q
 rcases q with q|q
 ·exact h pins s σ H xs us Q I rs q
 ·exact h' pins s σ H xs us Q I rs q
theorem lY:CallR X (.type "tuple") (fun xs H Q=> ∃p ys,xs=[.ref p]/\((SqL X.K H p ys/\ ∀l,H l=none->Q (.ref l) (upd H l (.tup ys)))\/(SqT X.K H p ys/\Q (.ref p) H))):=by
 intro pins s σ H xs us Q I r h
 obtain⟨p,ys,rfl,h⟩:=h
 obtain⟨u,rfl,rx⟩:=Nd r
 cases rx
 rcases h with⟨hq,q⟩|⟨hq,q⟩
 ·obtain⟨its,r',pl,hz⟩:=I.list hq
  have hlen:=r'.length
  refine call_tuple_list pl.isList (fun h' kp=>?_) (by simp only[Du]<;>omega)
  have I1:Inv X pins σ H {s with heap:=h'}:=I.kept (t':=s.toks) kp
  have I2:Inv X pins σ (upd H h'.objs.size (.tup ys)) {s with heap:=h'.push {cls:=.type "tuple",data:=.seq its.toArray}}:=
   I1.laid (t':=s.toks) (fun b o e=>DF _ e) (Dl _) (show ObjOk X.prog X.w _ _ _ (.tup ys) from⟨hz,its,r',IsTupD.new _ _⟩)
  exact⟨.ref h'.objs.size,_,I2,rfl,q _ (I1.hok.fresh (Dl _))⟩
 ·obtain⟨its,r',pl,hz⟩:=I.tuple hq
  exact call_tuple_same pl ⟨.ref p,H,I,rfl,q⟩
def tyV (K:PySem.W.Frag)(T:String)(x:V)(H:Hp):Prop:=match x with
 |.str _=>T= "str"
 |.int _=>T= "int"
 |.ref p=>(T= "list"/\ ∃xs,SqL K H p xs)\/(T= "tuple"/\ ∃o,K.lookup p=some o/\o.cls=.type "tuple"/\o.dict=none)\/
  (T= "dict"/\((∃kvs,H p=some (.dK kvs))\/ ∃kvs,H p=some (.dT kvs)))\/(T= "set"/\ ∃S n,H p=some (.set S n))
 |_=>False
theorem zr {pins:List (GH×GK)}{σ:St}{H:Hp}{s:GJ}{T:String}{x:V}{v:GC}(I:Inv X pins σ H s)(r:RelV x v)(ty:tyV X.K T x H):
  s.TypeIs v T/\ ∀a,v=.ref a-> ∃ob,s.heap.get? a=some ob/\ob.dict=none:=by
 cases x with
 |str z=>
  obtain⟨t,rfl⟩:=r
  cases (show T= "str" from ty)
  exact⟨Hw s z t,fun _ e=>nomatch e⟩
 |int i=>
  obtain⟨t,rfl⟩:=r
  cases (show T= "int" from ty)
  exact⟨typeIs_int s i t,fun _ e=>nomatch e⟩
 |ref p=>
  cases r
  rcases ty with⟨rfl,xs,hq⟩|⟨rfl,o,hk,hc,hd⟩|⟨rfl,hk⟩|⟨rfl,S,n,hk⟩
  ·obtain⟨its,_,pl,_⟩:=I.list hq
   refine⟨pl.isList.typeIs,fun a e=>?_⟩
   cases e
   obtain⟨o,n,e,c,hd,_⟩:=pl
   exact⟨o,e,hd⟩
  ·refine⟨⟨o,I.kIn p o hk,hc⟩,fun a e=>?_⟩
   cases e
   exact⟨o,I.kIn _ o hk,hd⟩
  ·have z: ∃o,s.heap.get? p=some o/\o.ExactDict:=by
    rcases hk with⟨kvs,hk⟩|⟨kvs,hk⟩
    ·obtain⟨_,_,_,_,o,_,_,e,ex,_⟩:=I.hok p _ hk
     exact⟨o,e,ex⟩
    ·obtain⟨_,_,_,_,o,_,_,e,ex,_⟩:=I.hok p _ hk
     exact⟨o,e,ex⟩
   obtain⟨o,e,ex⟩:=z
   refine⟨⟨o,e,ex.1⟩,fun a e2=>?_⟩
   cases e2
   exact⟨o,e,ex.2.1⟩
  ·obtain⟨o,_,_,_,e,ex,_⟩:=I.hok p _ hk
   refine⟨⟨o,e,ex.1⟩,fun a e2=>?_⟩
   cases e2
   exact⟨o,e,ex.2.1⟩
 |_=>exact False.elim ty
def tBM (K:PySem.W.Frag)(T:String)(r:V->List V->Hp->VK->Prop)(to:TE)(t:TA):TE:=fun σ H Q=>to σ H fun x H1=>tyV K T x H1/\t σ H1 fun xs H2=>r x xs H2 Q
variable {o e:Expr}{es:List Expr}{to:TE}{t:TA}{name:Str}{apos cpos:G1}{T id:String}{r:V->List V->Hp->VK->Prop}
theorem py (pa:PlainAttrs T)(slot:Slot T name id)(hty:typeOf (.builtin id)=pure (.type "method_descriptor"))(hm:MtR X id r)(ho:PE X o to)(ha:PA X (e::es) t)
  (hbase:Hk o name X.env (G0 o X.env)=G0 o X.env:=by rfl)
  (hfew:((G3 cpos (G4 (e::es) X.env)).all (fun x=>!x.1) && (Hl cpos (Hm [] X.env)).all (fun x=>x.1.isSome)
   && decide ((e::es).length+([]:List Hr).length+(if ([]:List Hr).isEmpty then 0 else 1)<30))=true:=by rfl)
  (hline:(apos.endLine==cpos.line)=true:=by rfl)(hs:G4 (e::es) X.env=(false,G0 e X.env)::G4 es X.env:=by rfl)(hplain:(G3 cpos (G4 es X.env)).any (·.1)=false:=by rfl):
  PE X (.Call (.Attribute o name apos) (e::es) [] cpos) (tBM X.K T r to t):=by
 intro pins s σ H Q I h
 refine wpAny_Call_method_late hbase hfew hline rfl (thn (ho pins s σ H _ I h) fun v s1 qz=>?_)
 obtain⟨x,H1,I1,r1,ty,q1⟩:=qz
 obtain⟨h1,h2⟩:=zr I1 r1 ty
 refine⟨T,id,pa,slot,hty,h1,h2,?_⟩
 have hA:=ha cpos pins s1 σ H1 _ I1 q1
 rw[hs] at hA ⊢
 refine Calls.callWith_builtin (by show (false||(G3 cpos (G4 es X.env)).any (·.1))=false;rw[hplain]<;>rfl) (Calls.evalArgs_plain ?_)
 exact thn hA fun us s2 ⟨vs,H2,I2,r2,q2⟩=>hm pins s2 σ H2 x vs v us Q I2 r1 r2 q2
end
end
section
def MtM (X:Cx)(id:String)(r:V->List V->Hp->VK->Prop):Prop:=
 ∀ (pins:List (GH×GK)) (s:GJ) (σ:St) (H:Hp) (x:V) (xs:List V) (v:GC) (us:List GC) (Q:VK),Inv X pins σ H s->RelV x v->Vals xs us->r x xs H Q->
   GN (GO X.prog X.w) X.A (call (.builtin id) (v::us)) (EP X pins σ Q) X.xe s
theorem Vals.one: ∀ {x:V}{us:List GC},Vals [x] us-> ∃u,us=[u]/\RelV x u
 :=by
 intro x us h
 cases h with
 |cons r q=>cases q;exact⟨_,rfl,r⟩
theorem Vals.rep {xs:List V}{us:List GC}(h:Vals xs us): ∀k:Nat,Vals (List.replicate k xs).flatten (List.replicate k us).flatten
 |0=>.nil
 |k+1=>by
  rw[Ev,Ev,EB,EB]
  exact Vals.append h (Vals.rep h k)
theorem mR (its:List GC): ∀ (k:Nat) (acc:List GC),
  FH (fun x1 x2=>x1++x2) acc.toArray (List.replicate k its.toArray)=(acc++(List.replicate k its).flatten).toArray
 |0,acc=>by simp
 |k+1,acc=>by
  have e:acc.toArray++its.toArray=(acc++its).toArray:=by simp
  have e2:(acc++its)++(List.replicate k its).flatten=acc++(List.replicate (k+1) its).flatten:=by
   rw[Ev,EB,DL]
  rw[<-e2,<-mR its k (acc++its),<-e,Ev,FI]
section
variable {X:Cx}{pins:List (GH×GK)}{σ:St}{H:Hp}{s:GJ}{l b:GH}{xs ys zs:List V}
theorem Inv.lset {its its':List GC}{n:Nat}{f:Array GC->Array GC}{t':Nat}(I:Inv X pins σ H s)(hH:H l=some (.lst xs))
  (e:s.heap.get? l=some {cls:=.type "list",data:=.seq its.toArray n})(hf:f its.toArray=its'.toArray)(hv:Vals ys its')(hz:ys.length<=sizeLine):
  Inv X pins σ (upd H l (.lst ys)) {s with heap:=s.heap.update l (GK.mapSeq f),toks:=t'}:=by
 have q:=PySem.IsL.update e f
 rw[hf] at q
 refine I.write (x:=l) (e:=l) (by rw[hH];exact trivial) (.inl rfl) (fun b' u hb hu=>(ET s.heap (GK.mapSeq f) (Ne.symm hb)).trans hu) ⟨_,q⟩ ?_
 exact⟨hz,its',_,hv,q⟩
theorem Inv.lnew {its:List GC}{t':Nat}(I:Inv X pins σ H s)(hv:Vals ys its)(hz:ys.length<=sizeLine):
  Inv X pins σ (upd H s.heap.objs.size (.lst ys)) {s with heap:=s.heap.push {cls:=.type "list",data:=.seq its.toArray},toks:=t'}:=
 I.laid (fun _ _ q=>DF _ q) (Dl _) ⟨hz,its,0,hv,D0 _ rfl⟩
theorem Inv.fresh (I:Inv X pins σ H s):H s.heap.objs.size=none:=I.hok.fresh (Dl _)
theorem Inv.lstM (I:Inv X pins σ H s)(hH:H l=some (.lst xs)):xs.length<=sizeLine/\ ∃ (its:List GC) (n:Nat),Vals xs its/\xs.length=its.length/\s.heap.get? l=some {cls:=.type "list",data:=.seq its.toArray n}:=by
 obtain⟨z,its,n,r,e⟩:=I.hok l _ hH
 exact⟨z,its,n,r,r.length,e⟩
theorem pC {n:Nat}(h:n<=sizeLine):GD.List.listTooLong n=false:=by
 unfold GD.List.listTooLong
 exact decide_eq_false (by omega)
end
section
variable {X:Cx}
def xC:V->List V->Hp->VK->Prop:=fun x vs H Q=> ∃l xs y,x=.ref l/\vs=[y]/\H l=some (.lst xs)/\xs.length<sizeLine/\Q .non (upd H l (.lst (xs++[y])))
theorem tU:MtM X "list.append" xC:=by
 intro pins s σ H x vs v us Q I rx rv h
 obtain⟨l,xs,y,rfl,rfl,hH,hz,q⟩:=h
 cases rx
 obtain⟨u,rfl,ru⟩:=rv.one
 obtain⟨z,its,n,r,hl,e⟩:=I.lstM hH
 refine Hz F.slot_list_append ⟨_,e,rfl⟩ F.entry_list_append (F.args_list_append_2 _ _) (PySem.list_append l its.toArray n u (by rw[Du];omega)) ⟨e,?_⟩
 refine⟨.non,_,I.lset (its':=its++[u]) hH e (by simp) (r.append (.cons ru .nil)) ?_,rfl,q⟩
 rw[Dk,DP]
 omega
def xB:V->List V->Hp->VK->Prop:=fun x vs H Q=> ∃l b xs zs,x=.ref l/\vs=[.ref b]/\H l=some (.lst xs)/\H b=some (.lst zs)/\xs.length+zs.length<=sizeLine/\Q .non (upd H l (.lst (xs++zs)))
theorem BC:MtM X "list.extend" xB:=by
 intro pins s σ H x vs v us Q I rx rv h
 obtain⟨l,b,xs,zs,rfl,rfl,hH,hB,hz,q⟩:=h
 cases rx
 obtain⟨u,rfl,ru⟩:=rv.one
 cases ru
 obtain⟨z,its,n,r,hl,e⟩:=I.lstM hH
 obtain⟨z2,its2,n2,r2,hl2,e2⟩:=I.lstM hB
 have hsz:its.toArray.size+its2.toArray.size<=sizeLine:=by rw[Du,Du];omega
 have hlong: ¬(!its.toArray.isEmpty && GD.List.listTooLong (its.toArray.size+its2.toArray.size))=true:=by
  rw[pC hsz,DZ]
  exact Ds
 refine Hz F.slot_list_extend ⟨_,e,rfl⟩ F.entry_list_extend (F.args_list_extend_2 _ _)
  (AutoSeq1.list_extend_list_list_0 l its.toArray n b its2.toArray n2 hlong (by rw[Du];omega) (by omega)) ⟨e,e2,?_⟩
 refine⟨.non,_,I.lset (its':=its++its2) hH e (by simp) (r.append r2) ?_,rfl,q⟩
 rw[Dk]
 omega
def rCat:R2:=fun x y H Q=> ∃l b xs zs,x=.ref l/\y=.ref b/\H l=some (.lst xs)/\H b=some (.lst zs)/\xs.length+zs.length<=sizeLine/\ ∀p,H p=none->Q (.ref p) (upd H p (.lst (xs++zs)))
theorem vq:OpR X (Hi .Add) rCat:=by
 intro pins s σ H x y v u Q I rx ry h
 obtain⟨l,b,xs,zs,rfl,rfl,hH,hB,hz,q⟩:=h
 cases rx
 cases ry
 obtain⟨z,its,n,r,hl,e⟩:=I.lstM hH
 obtain⟨z2,its2,n2,r2,hl2,e2⟩:=I.lstM hB
 refine PySem.P.add_list e e2 ?_ (by rw[Du,Du];omega)
 have ea:its.toArray++its2.toArray=(its++its2).toArray:=by simp
 rw[ea]
 exact⟨.ref _,_,I.lnew (t':=s.toks) (r.append r2) (by rw[Dk];omega),rfl,q _ I.fresh⟩
def rRep:R2:=fun x y H Q=> ∃l k xs,x=.ref l/\y=.int k/\H l=some (.lst xs)/\ -(2 ^ 63)<=k/\k<2 ^ 63/\xs.length * k.toNat<=sizeLine/\
 ∀p,H p=none->Q (.ref p) (upd H p (.lst (List.replicate k.toNat xs).flatten))
theorem yt {α:Type}(xs:List α)(k:Nat):(List.replicate k xs).flatten.length=k * xs.length:=by
 induction k with
 |zero=>simp
 |succ k ih=>rw[Ev,EB,Dk,ih,Nat.succ_mul,FJ]
theorem Aq:OpR X (Hi .Mult) rRep:=by
 intro pins s σ H x y v u Q I rx ry h
 obtain⟨l,k,xs,rfl,rfl,hH,h1,h2,hz,q⟩:=h
 cases rx
 obtain⟨t,rfl⟩:=ry
 obtain⟨z,its,n,r,hl,e⟩:=I.lstM hH
 have hlen:its.toArray.size * k.toNat<=sizeLine:=by rw[Du,<-hl];exact hz
 have hcap: ¬its.toArray.size * k.toNat>(2 ^ 63 - 1) / 8:=by
  have:(sizeLine:Nat)<=(2 ^ 63 - 1) / 8:=by decide
  omega
 have hfit: ¬(!GD.List.listFitsIndex k)=true:=by
  rw[fitsIndex_both h1 h2]
  exact Ds
 have hlong: ¬GD.List.listTooLong (its.toArray.size * k.toNat)=true:=by
  rw[pC hlen]
  exact Ds
 have hnew:FH (fun x1 x2=>x1++x2) #[] (List.replicate (if its.toArray.isEmpty=true then 0 else k.toNat) its.toArray)=(List.replicate k.toNat its).flatten.toArray:=by
  have f0: ∀m:Nat,FH (fun x1 x2=>x1++x2) #[] (List.replicate m its.toArray)=(List.replicate m its).flatten.toArray:=fun m=>by
   have:=mR its m []
   rw[DU] at this
   exact this
  rw[f0]
  cases its with
  |nil=>simp
  |cons a r'=>rw[if_neg (by simp)]
 refine wpAny_binaryOp_repeat_ref (T:= "list") (U:= "int") (by decide) ⟨_,e,rfl⟩ (fun s'=>typeIs_int s' k t) noFill_list_mul F.fills_int_mul F.slot_int_rmul repeat_list F.slot_int_index.lookup
  (Hz F.slot_int_rmul (typeIs_int s k t) F.entry_int_rmul (F.args_int_rmul_2 _ _) (int___rmul___int_list k t l its.toArray n)
   ⟨e,rfl,⟨_,e,rfl⟩,Hz F.slot_list_mul ⟨_,e,rfl⟩ F.entry_list_mul (F.args_list_mul_2 _ _) (AutoListH.list___mul___list_int_3 l its.toArray n k t hfit hcap hlong) ⟨e,?_⟩⟩)
 rw[hnew]
 exact⟨.ref _,_,I.lnew (t':=s.toks) (r.rep k.toNat) (by rw[yt,Nat.mul_comm];exact hz),rfl,q _ I.fresh⟩
end
section
variable {prog:GE}{w:GF}{A:GL}{E:GC->GJ->Prop}{s:GJ}
end
section
variable {X:Cx}
end
end
section
section
variable {κ:Type} [DecidableEq κ]
noncomputable def Nc (kvs:List (κ×V))(k:κ):Option V:=(kvs.find? fun kv=>decide (kv.1=k)).map (·.2)
noncomputable def LB (kvs:List (κ×V))(k:κ)(v:V):List (κ×V):=
 if (kvs.any fun kv=>decide (kv.1=k))=true then kvs.map (fun kv=>if kv.1=k then (kv.1,v) else kv) else kvs++[(k,v)]
theorem kh {p:κ×V}{r:List (κ×V)}{k:κ}(e:p.1=k):Nc (p::r) k=some p.2:=by simp [Nc,EC,e]
theorem ki {p:κ×V}{r:List (κ×V)}{k:κ}(e:¬p.1=k):Nc (p::r) k=Nc r k:=by simp [Nc,EC,e]
theorem oW (k:κ): ∀kvs:List (κ×V),(kvs.any fun kv=>decide (kv.1=k))=(Nc kvs k).isSome
 |[]=>rfl
 |p::r=>by
  rw[EU]
  by_cases e:p.1=k
  ·simp only[kh e,decide_eq_true e,Bool.true_or,Option.isSome_some]
  ·rw[ki e,decide_eq_false e,Bool.false_or];exact oW k r
theorem jH (kvs:List (κ×V))(k:κ)(v:V):(LB kvs k v).length<=kvs.length+1:=by
 unfold LB
 split
 ·rw[Dh];omega
 ·rw[Dk,Di,Ew];omega
theorem RelO.isSome_eq {o:Option V}{u:Option GC}(r:RelO o u):o.isSome=u.isSome:=by
 cases o with
 |none=>cases u with
  |none=>rfl
  |some _=>exact (show False from r).elim
 |some _=>cases u with
  |none=>exact (show False from r).elim
  |some _=>rfl
theorem KV.val {kvs:List (κ×V)}{vs:List (κ×GC)}(r:KV kvs vs)(k:κ):RelO (Nc kvs k) (valueAt vs k):=by
 unfold KV at r
 induction r with
 |nil=>exact True.intro
 | @cons p q ps qs h t ih=>
   obtain⟨h1,h2⟩:=h
   by_cases e:p.1=k
   ·have e':q.1=k:=h1.symm.trans e
    have b:valueAt (q::qs) k=some q.2:=by simp [valueAt,EC,e']
    rw[kh e,b];exact h2
   ·have e': ¬q.1=k:=fun z=>e (h1.trans z)
    have b:valueAt (q::qs) k=valueAt qs k:=by simp [valueAt,EC,e']
    rw[ki e,b];exact ih
theorem KV.any {kvs:List (κ×V)}{vs:List (κ×GC)}(r:KV kvs vs)(k:κ):(kvs.any fun kv=>decide (kv.1=k))=vs.any fun kv=>decide (kv.1=k):=by
 unfold KV at r
 induction r with
 |nil=>rfl
 |cons h t ih=>rw[EU,EU,ih,h.1]
theorem KV.repl {kvs:List (κ×V)}{vs:List (κ×GC)}(r:KV kvs vs)(k:κ){y:V}{u:GC}(ry:RelV y u):
  KV (kvs.map fun kv=>if kv.1=k then (kv.1,y) else kv) (vs.map fun kv=>if kv.1=k then (kv.1,u) else kv):=by
 unfold KV at r ⊢
 induction r with
 |nil=>exact .nil
 | @cons p q ps qs h t ih=>
   rw[Dj,Dj]
   refine .cons ?_ ih
   obtain⟨h1,h2⟩:=h
   by_cases e:p.1=k
   ·rw[if_pos e,if_pos (h1.symm.trans e)];exact⟨h1,ry⟩
   ·rw[if_neg e,if_neg (fun z=>e (h1.trans z))];exact⟨h1,h2⟩
theorem KV.put {kvs:List (κ×V)}{vs:List (κ×GC)}(r:KV kvs vs)(k:κ){y:V}{u:GC}(ry:RelV y u):KV (LB kvs k y) (stored vs k u):=by
 unfold LB stored
 rw[r.any k]
 by_cases e:(vs.any fun kv=>decide (kv.1=k))=true
 ·rw[if_pos e,if_pos e];exact r.repl k ry
 ·rw[if_neg e,if_neg e];exact Paired.snoc r ⟨rfl,ry⟩
theorem KV.length {kvs:List (κ×V)}{vs:List (κ×GC)}(r:KV kvs vs):kvs.length=vs.length:=Paired.length r
end
theorem pR {P:GE}{w:GF}{k:Key}{u:GC}(r:RelV (kV k) u):(cR P w).is k u=true:=by
 cases k with
 |inl i=>obtain⟨t,e⟩:=(show∃t,u=GC.int i t from r);subst e;exact pH P w i t
 |inr x=>obtain⟨t,e⟩:=(show∃t,u=GC.str x t from r);subst e;exact pG P w x t
theorem mP {P:GE}{w:GF}: ∀ {ks:List Key}{us:List GC},Vals (ks.map kV) us->ItemsAre (cR P w) ks us
 |[],_,r=>by rw[Dm] at r;cases r;exact .nil
 |k::ks,_,r=>by
  rw[Dj] at r
  cases r with
  |cons h t=>exact .cons (pR h) (mP t)
noncomputable abbrev KT (H:Hp):List (List Key×V)->List (List Key×GH×GC)->Prop:=Paired fun p q=>p.1=q.1/\H q.2.1=some (.tup (p.1.map kV))/\RelV p.2 q.2.2
theorem KT.val {H:Hp}{kvs:List (List Key×V)}{xs:List (List Key×GH×GC)}(r:KT H kvs xs)(k:List Key):RelO (Nc kvs k) ((HA xs k).map (·.2)):=by
 induction r with
 |nil=>exact True.intro
 | @cons p q ps qs h t ih=>
   obtain⟨h1,_,h2⟩:=h
   by_cases e:p.1=k
   ·have e':q.1=k:=h1.symm.trans e
    have b:HA (q::qs) k=some q.2:=by simp [HA,EC,e']
    rw[kh e,b];exact h2
   ·have e': ¬q.1=k:=fun z=>e (h1.trans z)
    have b:HA (q::qs) k=HA qs k:=by simp [HA,EC,e']
    rw[ki e,b];exact ih
theorem KT.repl {H:Hp}{kvs:List (List Key×V)}{xs:List (List Key×GH×GC)}(r:KT H kvs xs)(k:List Key){y:V}{u:GC}(ry:RelV y u):
  KT H (kvs.map fun kv=>if kv.1=k then (kv.1,y) else kv) (xs.map (putAt k u)):=by
 induction r with
 |nil=>exact .nil
 | @cons p q ps qs h t ih=>
   rw[Dj,Dj]
   refine .cons ?_ ih
   obtain⟨h1,h2,h3⟩:=h
   unfold putAt
   by_cases e:p.1=k
   ·rw[if_pos e,if_pos (h1.symm.trans e)];exact⟨h1,h2,ry⟩
   ·rw[if_neg e,if_neg (fun z=>e (h1.trans z))];exact⟨h1,h2,h3⟩
theorem KT.put {H:Hp}{kvs:List (List Key×V)}{xs:List (List Key×GH×GC)}(r:KT H kvs xs)(k:List Key){b:GH}{y:V}{u:GC}(hb:H b=some (.tup (k.map kV)))(ry:RelV y u):
  KT H (LB kvs k y) (storedH xs k b u):=by
 have e:(kvs.any fun kv=>decide (kv.1=k))=(HA xs k).isSome:=by
  rw[oW,(r.val k).isSome_eq,FK]
 unfold LB storedH
 rw[e]
 by_cases q:(HA xs k).isSome=true
 ·rw[if_pos q,if_pos q];exact r.repl k ry
 ·rw[if_neg q,if_neg q];exact Paired.snoc r ⟨rfl,hb,ry⟩
theorem KT.keeps {H H':Hp}{kvs:List (List Key×V)}{xs:List (List Key×GH×GC)}(r:KT H kvs xs)(ht: ∀b ys,H b=some (.tup ys)->H' b=some (.tup ys)):KT H' kvs xs:=
 Paired.mapP r fun _ _ z=>⟨z.1,ht _ _ z.2.1,z.2.2⟩
section
variable {P:GE}{w:GF}{H:Hp}{h:GG}{a:GH}
theorem y4 {u:HO}(ok:HOk P w H h)(e:Rd H a u):ObjOk P w H h a u:=e.ok ok
theorem qe {kvs:List (Key×V)}(ok:HOk P w H h)(e:Rd H a (.dK kvs)):kvs.length<=sizeLine/\(a==GU)=false/\ ∃vs,KV kvs vs/\h.DictOf (cR P w) a vs:=
 show ObjOk P w H h a (.dK kvs) from y4 ok e
theorem CA {kvs:List (Key×V)}(ok:HOk P w H h)(e:H a=some (.dK kvs)):kvs.length<=sizeLine/\(a==GU)=false/\ ∃vs,KV kvs vs/\h.DictOf (cR P w) a vs:=qe ok (.inl e)
theorem kX {ks:List Key}(ok:HOk P w H h)(e:H a=some (.tup (ks.map kV))):(GV (cR P w)).is h ks a:=by
 obtain⟨_,its,r,⟨o,h1,h2,n,h3⟩,_⟩:=(show ObjOk P w H h a (.tup (ks.map kV)) from ok a _ e)
 exact⟨o,its.toArray,n,h1,h2,h3,by simpa using mP r⟩
theorem qb {kvs:List (List Key×V)}(ok:HOk P w H h)(e:Rd H a (.dT kvs)):kvs.length<=sizeLine/\(a==GU)=false/\
  ∃xs,KT H kvs xs/\h.DictOfH (GV (cR P w)) a xs:=by
 obtain⟨z,y,xs,r,o,es,ep,h1,h2,h3,h4,h5⟩:=(show ObjOk P w H h a (.dT kvs) from y4 ok e)
 refine⟨z,y,xs,r,o,es,ep,h1,h2,h3,h4,fun x hx=>?_,h5⟩
 have all: ∀ {l:List (List Key×V)}{m:List (List Key×GH×GC)},KT H l m-> ∀x∈m,(GV (cR P w)).is h x.1 x.2.1:=by
  intro l m q
  induction q with
  |nil=>intro x hx;exact nomatch hx
  | @cons p q ps qs hq t ih=>
    intro x hx
    rcases Dp.mp hx with e|hx
    ·subst e
     exact kX ok (by rw[<-hq.1];exact hq.2.1)
    ·exact ih x hx
 exact all r x hx
theorem Cz {kvs:List (List Key×V)}(ok:HOk P w H h)(e:H a=some (.dT kvs)):kvs.length<=sizeLine/\(a==GU)=false/\
 ∃xs,KT H kvs xs/\h.DictOfH (GV (cR P w)) a xs:=qb ok (.inl e)
end
def HP (H:Hp)(a:GH)(y:V)(r:Option V):Prop:=
 (∃kvs k,Rd H a (.dK kvs)/\y=kV k/\r=Nc kvs k)\/ ∃kvs k b,Rd H a (.dT kvs)/\y=.ref b/\H b=some (.tup (k.map kV))/\r=Nc kvs k
def DPut (H:Hp)(a:GH)(y v:V)(H':Hp):Prop:=
 (∃kvs k,H a=some (.dK kvs)/\y=kV k/\kvs.length<sizeLine/\H'=upd H a (.dK (LB kvs k v)))\/
 ∃kvs k b,H a=some (.dT kvs)/\y=.ref b/\H b=some (.tup (k.map kV))/\kvs.length<sizeLine/\H'=upd H a (.dT (LB kvs k v))
section
variable {X:Cx}{pins:List (GH×GK)}{σ:St}{H:Hp}{s:GJ}{a:GH}{y v:V}{u r:GC}{o:Option V}{A:GL}{E:GC->GJ->Prop}
theorem uq {Q:GC->GJ->Prop}(hu:A.units+1<GM)(I:Inv X pins σ H s)(g:HP H a y (some v))(ry:RelV y u)(h:∀w' s',Inv X pins σ H s'->RelV v w'->Q w' s'):
  GN (GO X.prog X.w) A (getItem (.ref a) u) Q E s:=by
 rcases g with⟨kvs,k,e,ey,l⟩|⟨kvs,k,b,e,ey,eb,l⟩
 ·subst ey
  obtain⟨z,hd,vs,rel,dd⟩:=qe I.hok e
  obtain⟨w',hw,rw'⟩:=RelO.some_of (v:=v) (o:=valueAt vs k) (by rw[l];exact rel.val k)
  exact wpAny_getItem_of (pR ry) dd.mapOf hw (h w' _ (I.tok _) rw')
 ·subst ey
  cases (show u=GC.ref b from ry)
  obtain⟨z,hd,xs,rel,dd⟩:=qb I.hok e
  obtain⟨w',hw,rw'⟩:=RelO.some_of (v:=v) (o:=(HA xs k).map (·.2)) (by rw[l];exact rel.val k)
  obtain⟨p,hp,hp2⟩:=DX.mp hw
  refine wpAny_getItem_heap (HB hu) (kX I.hok eb) dd hp ?_
  rw[hp2]
  exact h w' _ (I.tok _) rw'
theorem Df {Q:GC->GJ->Prop}(hu:A.units+1<GM)(I:Inv X pins σ H s)(g:HP H a y o)(ry:RelV y u)(h:∀s',Inv X pins σ H s'->Q (.bool o.isSome) s'):
  GN (GO X.prog X.w) A (G7 .In u (.ref a)) Q E s:=by
 rcases g with⟨kvs,k,e,ey,l⟩|⟨kvs,k,b,e,ey,eb,l⟩
 ·subst ey
  obtain⟨z,hd,vs,rel,dd⟩:=qe I.hok e
  refine wpAny_in_of (pR ry) hd dd.mapOf ?_
  rw[<-(rel.val k).isSome_eq,<-l]
  exact h _ (I.tok _)
 ·subst ey
  cases (show u=GC.ref b from ry)
  obtain⟨z,hd,xs,rel,dd⟩:=qb I.hok e
  refine wpAny_in_heap (HB hu) (kX I.hok eb) hd dd ?_
  have q:=(rel.val k).isSome_eq
  rw[FK] at q
  rw[<-q,<-l]
  exact h _ (I.tok _)
theorem yN {Q:GC->GJ->Prop}(hu:A.units+1<GM)(I:Inv X pins σ H s)(g:HP H a y o)(ry:RelV y u)(h:∀s',Inv X pins σ H s'->Q (.bool (!o.isSome)) s'):
  GN (GO X.prog X.w) A (G7 .NotIn u (.ref a)) Q E s:=by
 rcases g with⟨kvs,k,e,ey,l⟩|⟨kvs,k,b,e,ey,eb,l⟩
 ·subst ey
  obtain⟨z,hd,vs,rel,dd⟩:=qe I.hok e
  refine wpAny_notIn_of (pR ry) hd dd.mapOf ?_
  rw[<-(rel.val k).isSome_eq,<-l]
  exact h _ (I.tok _)
 ·subst ey
  cases (show u=GC.ref b from ry)
  obtain⟨z,hd,xs,rel,dd⟩:=qb I.hok e
  refine wpAny_notIn_heap (HB hu) (kX I.hok eb) hd dd ?_
  have q:=(rel.val k).isSome_eq
  rw[FK] at q
  rw[<-q,<-l]
  exact h _ (I.tok _)
theorem sI {h':GG}{t':Nat}{ob:HO}(I:Inv X pins σ H s)(mu:Mut (H a))(hs:En a s.heap h')(he: ∃q,h'.get? a=some q)(new:ObjOk X.prog X.w (upd H a ob) h' a ob):
  Inv X pins σ (upd H a ob) {s with heap:=h',toks:=t'}:=
 I.write (x:=a) (e:=a) mu (.inl rfl) (fun b q hb z=>(hs.2 b hb).trans z) he new
theorem Bp {P:GE}{w:GF}{H':Hp}{h':GG}{kvs:List (Key×V)}{vs:List (Key×GC)}(z:kvs.length<=sizeLine)(hd:(a==GU)=false)(rel:KV kvs vs)(dd:h'.DictOf (cR P w) a vs):
 ObjOk P w H' h' a (.dK kvs):=⟨z,hd,vs,rel,dd⟩
theorem uo {H':Hp}{Q:Unit->GJ->Prop}(hu:A.units+1<GM)(I:Inv X pins σ H s)(g:DPut H a y v H')(ry:RelV y u)(rv:RelV v r)(h:∀s',Inv X pins σ H' s'->Q () s'):
  GN (GO X.prog X.w) A (setItem (.ref a) u r) Q E s:=by
 rcases g with⟨kvs,k,e,ey,l,eH⟩|⟨kvs,k,b,e,ey,eb,l,eH⟩
 ·subst ey eH
  obtain⟨z,hd,vs,rel,dd⟩:=CA I.hok e
  have hz:vs.length<=sizeLine:=by rw[<-rel.length];exact z
  have hl:(LB kvs k v).length<=sizeLine:=by have:=jH kvs k v;omega
  refine wpAny_setItem_pairs (hsz:=hz) (pR ry) dd fun h' dd' hs=>h _ ?_
  have he: ∃q,h'.get? a=some q:=let ⟨q,_,_,hq,_⟩:=dd';⟨q,hq⟩
  exact sI I (by rw[e];exact True.intro) hs he (Bp hl hd (rel.put k rv) dd')
 ·subst ey eH
  cases (show u=GC.ref b from ry)
  obtain⟨z,hd,xs,rel,dd⟩:=Cz I.hok e
  have hz:xs.length<=sizeLine:=by rw[<-Paired.length rel];exact z
  have hl:(LB kvs k v).length<=sizeLine:=by have:=jH kvs k v;omega
  refine wpAny_setItem_heap (hsz:=hz) (HB hu) (kX I.hok eb) dd fun h' dd' hs=>h _ ?_
  obtain⟨q,es,ep,hq,h2,h3,h4,_,h5⟩:=dd'
  refine sI I (by rw[e];exact True.intro) hs ⟨q,hq⟩ ⟨hl,hd,_,(rel.put k eb rv).keeps fun c ys ec=>?_,q,es,ep,hq,h2,h3,h4,h5⟩
  rw[ap (B5 ec e (fun z=>nomatch z))]
  exact ec
end
section
variable {X:Cx}{pins:List (GH×GK)}{σ:St}{H:Hp}{s:GJ}{a:GH}{kvs:List (Key×V)}{k:Key}{u:GC}{A:GL}{E:GC->GJ->Prop}
end
theorem qf {X:Cx}{pins:List (GH×GK)}{σ:St}{H:Hp}{s:GJ}{a:GH}{y:V}{o:Option V}(I:Inv X pins σ H s)(g:HP H a y o):s.TypeIs (.ref a) "dict":=by
 rcases g with⟨kvs,k,e,_,_⟩|⟨kvs,k,b,e,_,_,_⟩
 ·obtain⟨_,_,vs,_,dd⟩:=qe I.hok e
  exact dd.typeIs
 ·obtain⟨_,_,xs,_,dd⟩:=qb I.hok e
  exact dd.typeIs
section
variable {X:Cx}{o i e value:Expr}{pos pos' tpos:G1}{td ty tv:TE}
end
section
variable {X:Cx}{pos:G1}
end
section
variable {X:Cx}{pins:List (GH×GK)}{σ:St}{H:Hp}{s:GJ}{a:GH}{y d:V}{u r:GC}{o:Option V}{A:GL}{E:GC->GJ->Prop}
end
section
variable {X:Cx}{o e f:Expr}{apos cpos:G1}{td ty tx:TE}
end
section
variable {X:Cx}{pins:List (GH×GK)}{σ:St}{H:Hp}{s:GJ}{a:GH}{kvs:List (Key×V)}{A:GL}{E:GC->GJ->Prop}
end
section
variable {X:Cx}{pins:List (GH×GK)}{σ:St}{H:Hp}{s:GJ}{a:GH}{y:V}{u:GC}{A:GL}{E:GC->GJ->Prop}
end
end
end L2
namespace Att
open PySem PySem.W PySem.Calls PyProof.Rows
theorem jO {P:Params}{h:GG}: ∀ (ns:List Int) (vs:List GC),WellAll P h vs (ns.map WData.int)->IntsAre vs ns:=by
 intro ns
 induction ns with
 |nil=>
  intro vs w
  rw[Dm] at w
  cases w
  exact .nil
 |cons n ns ih=>
  intro vs w
  rw[Dj] at w
  cases w with
  |cons a b=>
   cases a
   exact .cons _ _ (ih _ b)
theorem sZ {l:OpenLaw}{n:Nat}(hn:l.most=some n){P:Params}{h:GG}{args:List WData}{vals:List GC}
  (hpre:l.row.toRowW.claim.pre args=true)(hwl:WellAll P h vals args):
  ∃a vs ns,vals=[GC.ref a]/\args=[WData.list (ns.map WData.int)]/\h.get? a=some {cls:=.type "list",data:=.seq vs.toArray}/\IntsAre vs ns/\ns.length<=n:=by
 have hsh:WShape.hasAll [] args [.list .int]=true:=(pre_splitW hpre).1
 have hc:l.pre.holds [] {args:=args}=true:=(pre_splitW hpre).2
 obtain⟨d,r,rfl,h1,h2⟩:=hasAllW_cons hsh
 obtain rfl:=hasAllW_nil h2
 obtain⟨xs,rfl,h3⟩:=hasW_list h1
 obtain⟨ns,rfl⟩:=items_int h3
 have hlen:ns.length<=n:=by
  unfold OpenLaw.pre at hc
  have h4:(WTm.not (.lt (.lit (.int (n:Int))) (.len (.arg 0)))).holds [] {args:=[.list (ns.map .int)]}=true:=by
   have h4:=(holds_andW hc).1
   rw[hn] at h4
   exact h4
  have h5:=condW_of h4 (w_not (w_lt w_lit (w_len_list (w_arg rfl))))
  rw[Dh] at h5
  refine Nat.le_of_not_lt fun q=>?_
  have q':(n:Int)<((ns.length:Nat):Int):=by omega
  first
   |(rw[decide_eq_true q'] at h5;exact absurd h5 (by decide))
   |(simp at h5;omega)
 cases hwl with
 |cons w1 w2=>
  cases w2
  cases w1 with
  |list ho hall=>exact⟨_,_,ns,rfl,rfl,ho,jO ns _ hall,hlen⟩
theorem tD (l:OpenLaw)(args:List WData):l.row.toRowW.claim.post args (.bool true) args=true:=
 postW_of (r:=l.row.toRowW) (X:=(true==true))
  (show WShape.has [] (.bool true) .bool=true by first|rfl|decide|simp [WShape.has,WShape.arms,WShape.armsAll])
  (show (WTm.eq .res (.lit (.bool true))).value [] {args:=args,res:=some (.bool true),after:=args}=some (.bool (true==true)) from w_eq_bool (w_res rfl) w_lit) rfl
theorem attach_call {l:OpenLaw}{n:Nat}{q:GE}{loose:List Str}{XP:(Str->Option GC)->GG->Prop}{YP:GF->GG->Prop}{d:DefRec}
  (hn:l.most=some n)(hdf:d.params.defaults=[])
  (call: ∀ (w:GF) (s₀ s₁:GJ) (mg mb:Str->Option GC) (fa:GH) (o:GK) (pm cd doc:GC) (a:GH) (vs:List GC) (ns:List Int),
   Ground q loose [] XP w s₀ mg mb s₁.heap->YP w s₁.heap->
   s₁.heap.get? fa=some o->o.data=.func (docDef d.name d.params d.body d.scope pm cd doc)->s₁.heap.CodeRec cd d.name->mg d.name=some (.ref fa)->
   s₁.heap.get? a=some {cls:=.type "list",data:=.seq vs.toArray}->IntsAre vs ns->ns.length<=n->s₁.gens= #[]->
   codeAny (GO l.prog w) callerA (.call (.ref fa) ⟨[.ref a],[]⟩) (fun r s'=>r=.ok (.ret (.bool true))/\OldK s₁.heap s'.heap/\s'.os=s₁.os/\GZ s'.gens) s₁):
  WalkO q loose XP YP l.row.toRowW d [] (fun f vs=>PySem.call f vs):=by
 intro w s₀ s₁ mg mb G Y fa o pm cd doc dV kV ho hd hcd hD hmg hg args vals as hpre hlay hrd hwl hlo
 obtain rfl:dV=.none:=Dflts.none hD hdf
 obtain rfl:kV=.none:=Dflts.noKw hD
 obtain⟨a,vs,ns,rfl,rfl,hobj,hints,hlen⟩:=sZ hn hpre hwl
 refine enter_call (Ho (call w s₀ s₁ mg mb fa o pm cd doc a vs ns G Y ho (fd_plain hd) hcd hmg hobj hints hlen hg) fun r s' hq=>?_)
 obtain⟨rfl,h2,h3,h4⟩:=hq
 exact⟨.inl ⟨.bool true,.bool true,[],rfl,fun _=>rfl,.bool true,tD l _,fun _=>⟨List.Pairwise.nil,fun _ hm=>(nomatch hm)⟩⟩,h2,h3,h4⟩
section
variable {prog:GE}{w:GF}{A:GL}{E:GC->GJ->Prop}{s:GJ}{K:Frag}
noncomputable def De (h:GG)(L d:GH):List (GH×GK):=(List.range h.objs.size).filterMap fun a=>if a=L\/a=d then none else (h.get? a).map fun o=>(a,o)
end
end Att
namespace L2
open PySem PySem.Spec PyProof.Rows
theorem mj: ∀ {vs:List GC}{ns:List Int},IntsAre vs ns->Vals (ns.map V.int) vs
 |_,_,.nil=>.nil
 |_,_,.cons n t h=>.cons ⟨t,rfl⟩ (mj h)
def H9 (H:Hp):Prop:= ∀b,H b=none\/ ∃o xs,H b=some (.frz o (.lst xs))
theorem v3 {P:GE}{w:GF}{K:PySem.W.Frag}{mg mb:Str->Option GC}{CX:CXT}{k:Nat}{fa a:GH}{fd:Hn}{x:Str}{sp:Sp}{s₁:GJ}{vs:List GC}{ns:List Int}
  (KX:K.In s₁.heap)(hns:s₁.heap.Ns GW mg)(hb:s₁.heap.Ns builtinsNs mb)(hbb: ∀x:Str,x≠ "__name__"->mb x=GX x)(hlim:s₁.heap.NoLimit)(hg:s₁.gens= #[])
  (ha:s₁.heap.get? a=some {cls:=.type "list",data:=.seq vs.toArray})(hi:IntsAre vs ns)(hl:ns.length<=sizeLine)(hr:Room k callerA)
  (F:∀base:GG,K.In base->base.Ns GW mg->FnOk P w K mg base CX k fa fd [x] sp)(hbind: ∀ (s:GJ) (u:GC),BindsTo s fd ⟨[u],[]⟩ [(x,u)])
  (hsp: ∀H:Hp,H9 H->SqL K H a (ns.map V.int)->sp [.ref a] H (fun v _=>v=.bl true) fun _ _ _=>False)
  (hCX: ∀H e s',CX [] H s₁ (fun _ _ _=>False) e s'->False):
  codeAny (GO P w) callerA (.call (.ref fa) ⟨[.ref a],[]⟩) (fun r s'=>r=.ok (.ret (.bool true))/\OldK s₁.heap s'.heap/\s'.os=s₁.os/\GZ s'.gens) s₁:=by
 have rv:=mj hi
 have lenV:=hi.length
 have core: ∀H:Hp,H9 H->SqL K H a (ns.map V.int)->HOk P w H s₁.heap->(∀b,H b≠none->b=a)->(H a≠none->K.lookup a=none)->
   codeAny (GO P w) callerA (.call (.ref fa) ⟨[.ref a],[]⟩) (fun r s'=>r=.ok (.ret (.bool true))/\OldK s₁.heap s'.heap/\s'.os=s₁.os/\GZ s'.gens) s₁:=by
  intro H hO hS hok hA hK
  have base_of: ∀ {b:GH}{o:GK},s₁.heap.get? b=some o->H b=none->(JH s₁.heap H).get? b=some o:=fun e n=>wg e n
  have noA: ∀ {b:GH}{o:GK}{es:Array DictEntry}{ep:Nat},s₁.heap.get? b=some o->o.data=.dict es ep->H b=none:=fun{b o es ep} e d=>by
   cases q:H b with
   |none=>rfl
   |some u=>
    have e':b=a:=hA b (by rw[q];simp)
    subst e'
    rw[ha] at e;cases e
    have d':Data.seq vs.toArray _=Data.dict es ep:=d
    cases d'
  have nsK: ∀ {b:GH}{m:Str->Option GC},s₁.heap.Ns b m->(JH s₁.heap H).Ns b m:=fun{b m} ⟨o,es,ep,e,d,r⟩=>⟨o,es,ep,base_of e (noA e d),d,r⟩
  have hKb:K.In (JH s₁.heap H):=fun b o e=>base_of (KX b o e) (by
   cases q:H b with
   |none=>rfl
   |some u=>
    have e':b=a:=hA b (by rw[q];simp)
    subst e'
    rw[hK (by rw[q];simp)] at e;cases e)
  have hM:Mod K mg (JH s₁.heap H):=⟨hKb,nsK hns,⟨mb,nsK hb,hbb⟩,let ⟨mc,h1,h2⟩:=hlim;⟨mc,nsK h1,h2⟩⟩
  have e0:Env0 P w K mg (JH s₁.heap H) callerA [] s₁ H:=⟨rfl,hM,fun b o e=>xV e,ER (ui _ _),trivial,fun b hb=>absurd (show b∈([]:List GH) from hb) (by simp),hok,.of_eq hg⟩
  refine Ho ((F _ hKb (nsK hns)).run callerA [] s₁ H ⟨[.ref a],[]⟩ [.ref a] [.ref a] _ _ hr e0 (hbind s₁ (.ref a)) (.cons rfl .nil) (hsp H hO hS)) fun r s' h=>?_
  cases r with
  |error e=>exact (hCX H e s' h).elim
  |ok fl=>
   cases fl with
   |next=>exact False.elim h
   |brk=>exact False.elim h
   |cont=>exact False.elim h
   |ret u=>
    obtain⟨v,H',os,bare,un,hok',r',q⟩:=h
    have q':v=.bl true:=q
    subst q'
    obtain rfl:u=GC.bool true:=r'
    refine⟨rfl,OldK.of_keep fun b o e=>?_,os,bare⟩
    cases q:H b with
    |none=>exact un.keep b o e q (by intro z;exact absurd (show b∈([]:List GH) from z) (by simp)) (by simp)
    |some u=>
     rcases hO b with z|⟨ob,xs,z⟩
     ·rw[q] at z;cases z
     ·have z2:=un.frzs b ob _ z
      obtain⟨e1,_⟩:=hok b _ z
      obtain⟨e2,_⟩:=hok' b _ z2
      rw[e] at e1;cases e1
      exact e2
 cases hk:K.lookup a with
 |some o=>
  have e:=KX a o hk
  rw[ha] at e
  cases e
  refine core (fun _=>none) (fun _=>.inl rfl) (.inr ⟨_,vs.toArray,_,hk,rfl,rfl,rfl,by rw[Du,lenV];exact hl,by simpa using rv⟩) (fun b u z=>by have z':(none:Option HO)=some u:=z;cases z') (fun b z=>absurd rfl z) fun z=>absurd rfl z
 |none=>
  refine core (fun b=>if b=a then some (.frz {cls:=.type "list",data:=.seq vs.toArray} (.lst (ns.map V.int))) else none) (fun b=>?_) (.inl (.inr ⟨{cls:=.type "list",data:=.seq vs.toArray},if_pos rfl⟩)) (fun b u z=>?_) (fun b z=>?_) fun _=>hk
  ·by_cases hb:b=a
   ·exact .inr ⟨_,_,if_pos hb⟩
   ·exact .inl (if_neg hb)
  ·by_cases hb:b=a
   ·have z':=(if_pos hb).symm.trans z
    cases z'
    subst hb
    exact⟨ha,by rw[Dh];exact hl,vs,_,rv,ha⟩
   ·have z':=(if_neg hb).symm.trans z
    cases z'
  ·by_cases hb:b=a
   ·exact hb
   ·exact absurd (if_neg hb) z
section
noncomputable abbrev KOf {K:PySem.W.Frag}{h:GG}(_:K.In h):PySem.W.Frag:=K
theorem walk_of {l:PySem.W.OpenLaw}{n k:Nat}{q:GE}{loose:List Str}{XP:(Str->Option GC)->GG->Prop}{YP:GF->GG->Prop}{d:DefRec}{K:Params->PySem.W.Frag}{CX:GF->CXT}{sp:GF->Sp}{x:Str}
  (hn:l.most=some n)(hn2:n<=sizeLine)(hdf:d.params.defaults=[])(hr:Room k callerA)
  (hY: ∀ (w:GF) (h:GG),YP w h->(K w.params).In h)
  (F:∀ (w:GF) (mg:Str->Option GC) (fa:GH) (h:GG),(K w.params).In h->h.Ns GW mg->mg d.name=some (.ref fa)->
    ∃fd:Hn,(∀ (s:GJ) (u:GC),BindsTo s fd ⟨[u],[]⟩ [(x,u)])/\
     ∀base:GG,(K w.params).In base->base.Ns GW mg->FnOk l.prog w (K w.params) mg base (CX w) k fa fd [x] (sp w))
  (hsp: ∀ (w:GF) (H:Hp) (a:GH) (ns:List Int),ns.length<=n->H9 H->SqL (K w.params) H a (ns.map V.int)->sp w [.ref a] H (fun v _=>v=.bl true) fun _ _ _=>False)
  (hCX: ∀ (w:GF) (H:Hp) (s:GJ) (e:GC) (s':GJ),CX w [] H s (fun _ _ _=>False) e s'->False):
  PySem.W.WalkO q loose XP YP l.row.toRowW d [] (fun f vs=>PySem.call f vs):=by
 refine Att.attach_call hn hdf fun w s₀ s₁ mg mb fa o pm cd doc a vs ns G Y ho hd hcd hmg hobj hints hlen hg=>?_
 have KX:=hY w _ Y
 obtain⟨fd,hb,hF⟩:=F w mg fa _ KX G.T.g hmg
 exact v3 KX G.T.g G.T.b G.T.builtins G.T.nolimit hg hobj hints (Dy hlen hn2) hr hF hb (fun H hO hS=>hsp w H a ns hlen hO hS) fun H e s'=>hCX w H s₁ e s'
end
section
noncomputable def cx (s:G5)(j:Nat):G5:=match s with
 |.ClassDef _ _ _ body _ _ _ _ _ _ _=>body.getD j (.Pass ⟨0,0,0,0⟩)
 |_=>.Pass ⟨0,0,0,0⟩
noncomputable def cT (s:G5):Arguments:=match s with
 |.FunctionDef _ a _ _ _ _ _ _ _ _=>a
 |_=>{posonlyargs:=[],args:=[],vararg:=none,kwonlyargs:=[],kw_defaults:=[],kwarg:=none,defaults:=[]}
noncomputable def br (s:G5):List G5:=match s with
 |.FunctionDef _ _ b _ _ _ _ _ _ _=>b
 |_=>[]
noncomputable def ae (s:G5):GY:=match s with
 |.FunctionDef _ _ _ _ _ _ sc _ _ _=>sc
 |_=>{kind:=.function,names:=[],isGenerator:=false,isCoroutine:=false}
noncomputable abbrev CX0:CXT:=fun _ _ _ _ _ _=>False
noncomputable abbrev E0:XK:=fun _ _ _=>False
theorem Lp {X:Cx}:b7 CX0 X E0:=fun _ _ _ _ _ _ _ h=>h.elim
structure Fun (K:PySem.W.Frag)(x qual:Str)(st:G5)(f:GH)(fd:Hn):Prop where
 ex: ∃ (oc:GC) (od:Option GH) (kV doc pm:GC) (an:Option GH) (cdv ct:GC) (osl:Array (Option GC)),
  fd=fnOf x qual (cT st) (br st) (ae st) .none kV doc pm an cdv ct/\K.lookup f=some ⟨oc,od,.func fd,osl⟩/\codeIn K cdv qual=true
 kp:Gz K (.ref f)=true
section
variable {P:GE}{w:GF}{K:PySem.W.Frag}{mg:Str->Option GC}{base:GG}
theorem Fun.ok {x qual:Str}{st:G5}{f:GH}{fd:Hn}{N ps:List Str}{k:Nat}{sp:Sp}(F:Fun K x qual st f fd)(S:HW N ps (ae st))(len: ∀vs H Q E,sp vs H Q E->vs.length=ps.length)
  (hbody: ∀ (cdv:GC) (A:GL) (outer:List Env) (s:GJ) (H:Hp) (vs:List V) (Q:VK) (E:XK),Room k (A.deeper (Ht qual (ae st) s.heap.objs.size f cdv))->sp vs H Q E->
   ∃t,PSs (IG CX0 P w K mg base N qual (ae st) f cdv A outer s H E).nox (br st) t/\t {nx:=fun _ H'=>Q .non H',rt:=Q} (MI N vs) H):FnOk P w K mg base CX0 (k+1) f fd ps sp:=by
 obtain⟨oc,od,kV,doc,pm,an,cdv,ct,osl,rfl,lk,hcd⟩:=F.ex
 refine zi lk hcd S len fun A outer s H vs Q E hr hsp=>?_
 obtain⟨t,h,q⟩:=hbody cdv A outer s H vs Q E hr hsp
 exact⟨t,h.nox,q⟩
theorem Fun.binds {x qual:Str}{st:G5}{f:GH}{fd:Hn}{ps:List Str}(F:Fun K x qual st f fd)
  (h:∀ (kV doc pm:GC) (an:Option GH) (cdv ct:GC) (us:List GC),us.length=ps.length->bindArgs (fnOf x qual (cT st) (br st) (ae st) .none kV doc pm an cdv ct) ⟨us,[]⟩=pure (ps.zip us)):Binds K fd ps []:=by
 obtain⟨oc,od,kV,doc,pm,an,cdv,ct,osl,rfl,lk,hcd⟩:=F.ex
 exact .all (h kV doc pm an cdv ct)
theorem wr {x qual:Str}{st:G5}{f:GH}{oc:GC}{od an:Option GH}{osl:Array (Option GC)}{kV doc pm cdv ct:GC}(l:K.lookup f=some ⟨oc,od,.func (fnOf x qual (cT st) (br st) (ae st) .none kV doc pm an cdv ct),osl⟩)
 (c:codeIn K cdv qual=true)(k:Gz K (.ref f)=true):Fun K x qual st f (fnOf x qual (cT st) (br st) (ae st) .none kV doc pm an cdv ct):=⟨⟨oc,od,kV,doc,pm,an,cdv,ct,osl,rfl,l,c⟩,k⟩
end
theorem wf {A:GL}{k:Nat}(hr:Room k A):A.units+1<GM:=Ec (Nat.add_le_add_left (by decide:1<=64) _) hr.units
theorem jo {n:Nat}(h:n<=1000):n<sizeLine:=Ec h (by decide)
section
variable {X:Cx}
theorem pv (i:Nat){x:Str}{pos:G1}(hN:X.N[i]?=some x:=by rfl)(hv:Vis X.env.scope x:=by first|exact Or.inl rfl|exact Or.inr (Or.inl rfl)|exact Or.inr (Or.inr rfl))(hd:(x==("__debug__":Str))=false:=by decide)
 (hcd:(x==("__classdict__":Str))=false:=by decide):PE X (.Name x pos) (M1 i):=z6 hN hv hd hcd
end
theorem J4 {A B:Prop}(h:B):if false=true then A else B:=by
 rw[if_neg Ds]
 exact h
theorem J5 {A B:Prop}(h:A):if true=true then A else B:=by
 rw[if_pos rfl]
 exact h
theorem J3 {c A B:Prop} [Decidable c] (h1:c->A)(h2: ¬c->B):if c then A else B:=by
 by_cases h:c
 ·rw[if_pos h]
  exact h1 h
 ·rw[if_neg h]
  exact h2 h
def Same (H H':Hp):Prop:= ∀b o,H b=some o->H' b=some o
theorem Same.refl (H:Hp):Same H H:=fun _ _ h=>h
section
variable {κ:Type} [DecidableEq κ]
end
end
section
theorem lm {α β:Type}{f:α->β->Sem (ForInStep β)}(g:α->β->β): ∀ (l:List α) (c:β),(∀x∈l,∀c,f x c=pure (.yield (g x c)))->forIn l c f=pure (l.foldl (fun c x=>g x c) c)
 |[],_,_=>rfl
 |x::l,c,h=>by
  rw[List.forIn_cons,h x Dt,pure_bind]
  exact lm g l (g x c) fun y hy=>h y (Dz _ hy)
noncomputable def cU (env:Env)(p:Str×Hs)(cs:List (Str×GH)):List (Str×GH):=if (p.2==Hs.free)=true then (p.1,(env.cells.lookup p.1).getD 0)::cs else cs
def Iz (scope:GY)(env:Env):List (Str×GH):=scope.names.foldl (fun c x=>cU env x c) []
theorem lE {scope:GY}{env:Env}(h:∀p∈scope.names,p.2=.free-> ∃c,env.cells.lookup p.1=some c):closureFor scope env=pure (Iz scope env):=by
 unfold Iz
 simp only[closureFor]
 rw[lm (cU env)]
 ·rfl
 ·intro x hx c
  obtain⟨n,k⟩:=x
  by_cases hk:k=.free
  ·subst hk
   obtain⟨a,ha⟩:=h _ hx rfl
   have ha:env.cells.lookup n=some a:=ha
   simp [cU,cellOf,ha]
  ·have:(k==Hs.free)=false:=by simpa using hk
   simp [cU,this]
theorem i8 (env:Env): ∀ (l:List (Str×Hs)) (c:List (Str×GH)),(∀p∈l,p.2=.free-> ∃a,env.cells.lookup p.1=some a)->
  (∀y a,c.lookup y=some a->env.cells.lookup y=some a)-> ∀y a,(l.foldl (fun c x=>cU env x c) c).lookup y=some a->env.cells.lookup y=some a
 |[],_,_,h,y,a,e=>h y a e
 |(n,k)::r,c,hf,h,y,a,e=>by
  refine i8 env r (cU env (n,k) c) (fun p hp=>hf p (Dz _ hp)) (fun z b q=>?_) y a e
  unfold cU at q
  split at q
  ·rename_i hk
   obtain⟨d,hd⟩:=hf (n,k) Dt (by simpa using hk)
   have hd:env.cells.lookup n=some d:=hd
   rw[Eg] at q
   split at q
   ·rename_i hz
    have:z=n:=by simpa using hz
    subst this
    rw[hd] at q ⊢
    simpa using q
   ·exact h z b q
  ·exact h z b q
theorem qi (env:Env): ∀ (l:List (Str×Hs)) (c:List (Str×GH)) (y:Str),(∃a,c.lookup y=some a)-> ∃a,(l.foldl (fun c x=>cU env x c) c).lookup y=some a
 |[],_,_,h=>h
 |(n,k)::r,c,y,h=>by
  refine qi env r _ y ?_
  show∃a,(cU env (n,k) c).lookup y=some a
  unfold cU
  split
  ·rw[Eg]
   split
   ·exact⟨_,rfl⟩
   ·exact h
  ·exact h
theorem sM (env:Env): ∀ (l:List (Str×Hs)) (c:List (Str×GH)) (y:Str),(y,Hs.free)∈l-> ∃a,(l.foldl (fun c x=>cU env x c) c).lookup y=some a
 |(n,k)::r,c,y,h=>by
  rcases Dp.mp h with e|h
  ·obtain⟨rfl,rfl⟩:=Prod.mk.inj e
   refine qi env r _ y ⟨(env.cells.lookup y).getD 0,?_⟩
   show (cU env (y,.free) c).lookup y=_
   unfold cU
   rw[if_pos (by rfl),Eg]
   simp
  ·exact sM env r _ y h
structure CScope (X:Cx)(ls:List Str)(scope:GY):Prop where
 kind:scope.kind=.function
 nocell: ∀y∈scope.names,y.2≠.cell
 names: ∀y∈scope.names,y.2=.local ->scope.names.lookup y.1=some .local
 loc: ∀y,scope.names.lookup y=some .local ->y∈ls
 free: ∀y∈scope.names,y.2=.free->X.env.kindOf y.1=some .cell\/X.env.kindOf y.1=some .free
 noq: ∀y∈ls,∀k,scope.names.lookup ⟨#[63]++y.cps⟩≠some k
noncomputable def hid (ls:List Str)(y:Str):Str:=if ls.contains y then⟨#[63]++y.cps⟩ else y
def cxC (X:Cx)(ls:List Str)(scope:GY)(C:GH)(s2:GJ)(H2:Hp)(fp:List GH):Cx where
 prog:=X.prog
 w:=X.w
 K:=X.K
 mg:=X.mg
 base:=X.base
 A:=X.A
 N:=ls++X.N.map (hid ls)
 s₀:=s2
 H₀:=H2
 env:=compEnvC scope (Iz scope X.env) C X.env
 outer:=X.stack
 stack:=X.stack
 ex:=fp
 calm:=X.calm
 fn:=fun _=>false
 pn:=[]
 xe:=fun _ _=>False
theorem cJ {env:Env}{y:Str}: ∀ {names:List (Str×Hs)}{k:Hs},(names.map fun (n,k)=>if (k==Hs.free && env.scope.kind==.function && env.kindOf n==some .cell) then (n,Hs.cell) else (n,k)).lookup y=some k->
  names.lookup y=some k\/(names.lookup y=some .free/\k=.cell)
 |[],_,h=>by simp at h
 |(n,j)::r,k,h=>by
  have ih:= @cJ env y r k
  replace h:Er y ((if (j==Hs.free && env.scope.kind==.function && env.kindOf n==some .cell)=true then (n,Hs.cell) else (n,j))::(r.map fun (n,k)=>if (k==Hs.free && env.scope.kind==.function && env.kindOf n==some .cell) then (n,Hs.cell) else (n,k)))=some k:=h
  by_cases hc:(j==Hs.free && env.scope.kind==.function && env.kindOf n==some .cell)=true
  ·rw[if_pos hc,Eg] at h
   rw[Eg]
   cases hx:y==n with
   |true=>
    rw[hx] at h
    simp only[Dx] at hc
    have hj:j=.free:=by simpa using hc.1.1
    subst hj
    have h:some Hs.cell=some k:=h
    cases h
    exact .inr ⟨rfl,rfl⟩
   |false=>
    rw[hx] at h
    exact ih h
  ·rw[if_neg hc,Eg] at h
   rw[Eg]
   cases hx:y==n with
   |true=>rw[hx] at h;exact .inl h
   |false=>rw[hx] at h;exact ih h
def JJ (N ls:List Str)(σ:St):Bool:=true
theorem mQ {X:Cx}{pins:List (GH×GK)}{σ:St}{H2:Hp}{s2:GJ}{ls:List Str}{scope:GY}{fp:List GH}{C:GH}{h1:GG}{m:Str->Option GC}{tk:Nat}
  (I:Inv X pins σ H2 s2)(S:CScope X ls scope)(hh:JJ X.N ls σ=true)(f2: ∀b∈fp,HX X pins H2 b)(ho: ∀b∈fp,∃o,s2.heap.get? b=some o)(hC:s2.heap.objs.size<=C)(hn:h1.Ns C m)
  (old: ∀b o,s2.heap.get? b=some o->h1.get? b=some o):
  Inv (cxC X ls scope C s2 H2 fp) [] (List.replicate ls.length none++σ) H2 {s2 with heap:=h1,toks:=tk}:=by
 have cf: ∀p∈scope.names,p.2=.free-> ∃c,X.env.cells.lookup p.1=some c:=fun p hp e=>I.ok.has _ (S.free p hp e)
 have c1: ∀y a,(Iz scope X.env).lookup y=some a->X.env.cells.lookup y=some a:=i8 X.env scope.names [] cf (fun y a e=>by simp at e)
 have c2: ∀y,scope.names.lookup y=some .free-> ∃a,(Iz scope X.env).lookup y=some a:=fun y hy=>sM X.env scope.names [] y (PySem.mem_of_lookup hy)
 have lt2: ∀b∈fp,b<s2.heap.objs.size:=fun b hb=>let ⟨o,e⟩:=ho b hb;Dn e
 have kinds: ∀y k,(HC scope X.env).names.lookup y=some k->k=.cell\/k=.free->scope.names.lookup y=some .free:=fun y k h hk=>by
  rcases cJ (env:=X.env) h with q|⟨q,_⟩
  ·rcases hk with rfl|rfl
   ·exact absurd rfl (S.nocell _ (PySem.mem_of_lookup q))
   ·exact q
  ·exact q
 refine⟨⟨I.ok.mod,S.kind,I.ok.glob,I.ok.blt,hC,fun x y c e1 e2=>I.ok.inj x y c (c1 x c e1) (c1 y c e2),fun x hx=>?_,fun x c h=>absurd h Ds,I.ok.hd,I.ok.frames,.inl rfl,fun b hb=>⟨?_,fun x c e=>(f2 b hb).2.2.2.2.1 x c (c1 x c e)⟩,I.bs,Dy I.ok.bsz I.sz,fun b o e hb=>?_,fun b hb hz=>?_,I.stack,I.stkFree⟩,
  rfl,I.bare,Un.kept old,⟨m,hn,fun i y v e1 e2 e3=>?_⟩,fun x c e=>?_,I.hok.fresh hC,fun x c e=>I.freeC x c (c1 x c e),fun p hp=>absurd (show p∈([]:List (GH×GK)) from hp) (by simp),I.hok.kept old,?_⟩
 ·have hx:(HC scope X.env).names.lookup x=some .cell\/(HC scope X.env).names.lookup x=some .free:=hx
  rcases hx with hx|hx
  ·exact c2 x (kinds x _ hx (.inl rfl))
  ·exact c2 x (kinds x _ hx (.inr rfl))
 ·exact Dw (Dv (lt2 b hb) hC)
 ·rcases (f2 b hb).2.2.2.1 with z|z
  ·exact I.ok.noex b o e z
  ·exact absurd (Dv (Dn e) (Dy I.ok.bsz z)) (Em _)
 ·rcases Dp.mp (I.stkSub b hz) with z|z
  ·exact (f2 b hb).2.1 z
  ·exact (f2 b hb).2.2.1 z
 ·have e1:(ls++X.N.map (hid ls))[i]?=some y:=e1
  by_cases hi:i<ls.length
  ·rw[DS (by simpa using hi),Fg] at e2
   rw[if_pos hi] at e2
   cases e2
  ·rw[Ei (by omega)] at e1
   rw[Ei (by simpa using hi),Ej] at e2
   rw[DA] at e1
   obtain⟨y0,e1',ey⟩:=DX.mp e1
   have e3:(HC scope X.env).names.lookup y=some .local \/(HC scope X.env).names.lookup y=some .cell\/(HC scope X.env).names.lookup y=some .free:=e3
   have ny:y0 ∉ ls:=fun hm=>by
    unfold hid at ey
    rw[if_pos (by simpa using hm)] at ey
    subst ey
    have no: ∀k,(HC scope X.env).names.lookup ⟨#[63]++y0.cps⟩=some k->False:=fun k q=>by
     rcases cJ (env:=X.env) q with z|⟨z,_⟩
     ·exact S.noq y0 hm _ z
     ·exact S.noq y0 hm _ z
    rcases e3 with q|q|q<;>exact no _ q
   unfold hid at ey
   rw[if_neg (by simpa using ny)] at ey
   rw[ey] at e1' ny
   have e1:=e1'
   have fr:scope.names.lookup y=some .free:=by
    rcases e3 with q|q|q
    ·rcases cJ (env:=X.env) q with z|⟨_,z⟩
     ·exact absurd (S.loc y z) ny
     ·cases z
    ·exact kinds y _ q (.inl rfl)
    ·exact kinds y _ q (.inr rfl)
   have kx:=S.free _ (PySem.mem_of_lookup fr) rfl
   obtain⟨m2,_,hl⟩:=I.loc
   obtain⟨u,r,l⟩:=hl _ y v e1 e2 (.inr kx)
   refine⟨u,r,?_⟩
   have knd:(HC scope X.env).names.lookup y=some .cell\/(HC scope X.env).names.lookup y=some .free:=by
    rcases e3 with q|q
    ·rcases cJ (env:=X.env) q with z|⟨_,z⟩
     ·exact absurd (S.loc y z) ny
     ·cases z
    ·exact q
   rcases l with⟨k1,_⟩|⟨_,c,hc,hcell⟩
   ·have kx:X.env.kindOf y=some .cell\/X.env.kindOf y=some .free:=kx
    rcases kx with z|z<;>(rw[k1] at z;cases z)
   ·obtain⟨c',hc'⟩:=c2 y fr
    have:=c1 y c' hc'
    rw[hc] at this
    cases this
    refine .inr ⟨knd,c,hc',?_⟩
    obtain⟨o,ho,hd⟩:=hcell
    exact⟨o,old _ _ ho,hd⟩
 ·obtain⟨v,o,ho,hd⟩:=I.cell x c (c1 x c e)
  exact⟨v,o,old _ _ ho,hd⟩
 ·show (List.replicate ls.length none++σ).length=(ls++X.N.map (hid ls)).length
  rw[Dk,Dk,Ej,Dh,I.len]
theorem pV {X:Cx}{pins:List (GH×GK)}{σ σ':St}{H2 H3:Hp}{s2 s':GJ}{ls:List Str}{scope:GY}{fp:List GH}{C D:GH}{h':GG}{ys:List V}{its:List GC}{n:Nat}{pl:List (GH×GK)}
  (I:Inv X pins σ H2 s2)(f2: ∀b∈fp,HX X pins H2 b)(J:Inv (cxC X ls scope C s2 H2 fp) pl σ' H3 s')(hD:s2.heap.objs.size<=D)(hC:s2.heap.objs.size<=C)(hDC:D≠C)
  (sb:En C s'.heap h')(hD3:H3 D=none)(e:s'.heap.get? D=some {cls:=.type "list",data:=.seq its.toArray n})(r:Vals ys its)(z:ys.length<=sizeLine):Inv X pins σ (upd H3 D (.lst ys)) {s' with heap:=h'}:=by
 have ext: ∀b o,b≠C->s'.heap.get? b=some o->h'.get? b=some o:=fun b o hb e=>sb.extBut b o hb e
 have neD: ∀b,b<s2.heap.objs.size->b≠D:=fun b hb=>Dw (Dv hb hD)
 have neC: ∀b,b<s2.heap.objs.size->b≠C:=fun b hb=>Dw (Dv hb hC)
 have lt: ∀b u,H2 b=some u->b<s2.heap.objs.size:=fun b u q=>by
  apply Classical.byContradiction
  intro hb
  have:=I.hok.fresh (Nat.le_of_not_lt hb)
  rw[this] at q
  cases q
 have fC:H3 C=none:=J.free
 refine I.call' (s':={s' with heap:=h'}) (ch:=fp) J.os ⟨fun b o q n hb hx=>?_,fun b o q n hb hx=>?_,fun b o q n hx=>?_,fun b o q hx=>?_,fun b xs q=>?_,fun b o u q=>?_,fun b ps q=>?_⟩ (fun b u q=>?_) J.bare fun b hb=>?_
 ·exact ext b o (neC b (Dn q)) (J.base.keep b o q n hb hx)
 ·obtain⟨sl,w⟩:=J.base.slot b o q n hb hx
  exact⟨sl,ext b _ (neC b (Dn q)) w⟩
 ·rw[ap (neD b (Dn q))]
  exact J.base.free b o q n hx
 ·obtain⟨o',w⟩:=J.base.there b o q hx
  exact⟨o',ext b _ (neC b (Dn q)) w⟩
 ·rw[ap (neD b (lt b _ q))];exact J.base.tups b xs q
 ·rw[ap (neD b (lt b _ q))];exact J.base.frzs b o u q
 ·rw[ap (neD b (lt b _ q))];exact J.base.tbls b ps q
 ·by_cases hb:b=D
  ·subst hb
   rw[aC] at q
   cases q
   exact⟨z,its,n,r,ext _ _ hDC e⟩
  ·rw[ap hb] at q
   have ne1:b≠C:=fun w=>by rw[w,fC] at q;cases q
   have ow: ∀c u,H3 c=some u->c≠D:=fun c u w z=>by rw[z,hD3] at w;cases w
   have oc: ∀c u,H3 c=some u->c≠C:=fun c u w z=>by rw[z,fC] at w;cases w
   refine (J.hok b u q).stay (fun c v hc w=>ext c v ?_ w) (fun c w=>by rw[ap (ow c _ w)];exact w) fun c xs w=>by rw[ap (ow c _ w)];exact w
   rcases hc with rfl|hc
   ·exact ne1
   ·exact oc c _ hc
 ·obtain⟨a1,a2,a3,a4,a5,a6⟩:=f2 b hb
  exact⟨a4,a2,a5,a6⟩
def Ia (X:Cx)(ifs:List Expr)(t:TT):Prop:=
 ∀ (pins:List (GH×GK)) (s:GJ) (σ:St) (H:Hp) (Q:Bool->Hp->Prop),Inv X pins σ H s->t σ H Q->
   GN (GO X.prog X.w) X.A (forIn ifs true fun c r=>if r=true then do let ok<-isTrue c X.env (G0 c X.env);pure (ForInStep.yield ok) else pure (ForInStep.yield r)) (TP X pins σ Q) X.xe s
def M2:TT:=fun _ H Q=>Q true H
theorem nX {X:Cx}:Ia X [] M2:=fun _ _ _ H _ I h=>wpAny_tests_nil ⟨H,I,h⟩
theorem xE {X:Cx}{c:Expr}{t:TT}(h:PT X c t):Ia X [c] t:=fun pins s σ H Q I q=>wpAny_tests_one (h pins s σ H Q I q)
def HM (J:It)(ls:List Str)(g:TG)(tt:TT)(te:TE)(σ:St)(H1:Hp)(Q:VK):Prop:= ∃W:Nat->Nat->List V->Hp->Prop,(∃m,W 0 m [] H1)/\ ∀i m ys H,W i m ys H->
 (J.stop i H/\ ∀D,H D=none->Q (.ref D) (upd H D (.lst ys)))\/
 (J.go i H/\ ∃R:List V->Hp->Prop,(∀ys' H',R ys' H'-> ∃m',m'<m/\W (i+1) m' ys' H')/\ ∀y H',J.yld i H y H'->
  g y (List.replicate ls.length none++σ) H' fun σ2 H2=>σ2.drop ls.length=σ/\σ2.length=ls.length+σ.length/\tt σ2 H2 fun b H3=>if b=true then te σ2 H3 fun v H4=>ys.length<sizeLine/\R (ys++[v]) H4 else R ys H3)
def MV (N ls:List Str)(wi:TI)(g:TG)(tt:TT)(te:TE):TE:=fun σ H Q=>JJ N ls σ=true/\wi σ H fun J H1=>HM J ls g tt te σ H1 Q
theorem eF {prog:GE}{w:GF}{A:GL}{R:Result->GJ->Prop}{s:GJ}{elt target iter:Expr}{ifs:List Expr}{scope:GY}{pos:G1}{it acc:GC}{env:Env}(I:Nat->GJ->Prop)
  (turn: ∀n s,I n s->GN (GO prog w) A (pyNext it) (fun r s₁=>match r with
   |none=>R (.ok .next) s₁
   |some v=>GN (GO prog w) A (Hf target it v) (fun _ s₁=>GN (GO prog w) A (assign target env v) (fun _ s₂=>
    GN (GO prog w) A (forIn ifs true fun c r=>if r=true then do let ok<-isTrue c env (G0 c env);pure (ForInStep.yield ok) else pure (ForInStep.yield r)) (fun ok s₃=>
     if ok=true then GN (GO prog w) A (G0 elt env) (fun x s₄=>
      GN (GO prog w) A (call (.builtin "list.append") [acc,x]) (fun _ s₅=> ∃m,m<n/\I m s₅) (notedBy (GO prog w) A env fun e s'=>R (.error e) s') s₄) (notedBy (GO prog w) A env fun e s'=>R (.error e) s') s₃
     else∃m,m<n/\I m s₃) (notedBy (GO prog w) A env fun e s'=>R (.error e) s') s₂) (notedBy (GO prog w) A env fun e s'=>R (.error e) s') s₁) (notedBy (GO prog w) A env fun e s'=>R (.error e) s') s₁) (notedBy (GO prog w) A env fun e s'=>R (.error e) s') s)
  (n:Nat)(h:I n s):
  codeAny (GO prog w) A (.compLoop (.ListComp elt [⟨target,iter,ifs,0⟩] scope pos) 0 it acc env) R s:=by
 refine codeAny_loop rfl I (fun n s hI=>?_) n h
 show GN _ A ((compTurn (.ListComp elt [⟨target,iter,ifs,0⟩] scope pos) 0 it acc env).onRaise (fun x=>do noteFrame x env;theTreesLotGoes x)) _ _ s
 refine wpAny_noted ?_
 rw[compTurn_list]
 refine GP (wpAny_standAt (GP (G6 (turn n s hI) (fun r s₁ h₁=>?_) fun _ _ h'=>h')))
 cases r with
 |none=>exact GQ h₁
 |some v=>
  refine GP (G6 h₁ (fun _ s₁ h₁=>?_) fun _ _ h'=>h')
  refine GP (G6 h₁ (fun _ s₂ h₂=>GP (G6 h₂ (fun ok s₃ h₃=>?_) fun _ _ h'=>h')) fun _ _ h'=>h')
  cases ok with
  |false=>exact GQ ⟨rfl,h₃⟩
  |true=>
   exact GP (GP (G6 h₃ (fun x s₄ h₄=>GP (G6 h₄ (fun _ s₅ h₅=>GQ (GQ ⟨rfl,h₅⟩)) fun _ _ h'=>h')) fun _ _ h'=>h'))
theorem thx {α:Type}{t:Sem α}{Q Q':α->GJ->Prop}{M:Model}{A:GL}{E:GC->GJ->Prop}{s:GJ}(h:GN M A t Q (fun _ _=>False) s)(hQ: ∀a s,Q a s->Q' a s):GN M A t Q' E s:=G6 h hQ fun _ _ x=>x.elim
section
variable {X:Cx}{elt iter tg:Expr}{ifs:List Expr}{scope:GY}{pos:G1}{ls:List Str}{wi:TI}{g:TG}{tt:TT}{te:TE}
theorem mW {use:Option (GC->Sem Unit)}{pins:List (GH×GK)}{s:GJ}{σ:St}{H:Hp}{Q:VK}{QQ:GC->GJ->Prop}{pos':G1}(hcalm:X.calm=true)(S:CScope X ls scope)(hi:PI X tg iter wi)
  (hg: ∀C s2 H2 fp,PG (cxC X ls scope C s2 H2 fp) tg g)(ht: ∀C s2 H2 fp,Ia (cxC X ls scope C s2 H2 fp) ifs tt)(he: ∀C s2 H2 fp,PE (cxC X ls scope C s2 H2 fp) elt te)
  (hs: ∀x,Hh iter X.env x=pure x)(I:Inv X pins σ H s)(h:MV X.N ls wi g tt te σ H Q)
  (hQQ: ∀ (D C:GH) (s':GJ) (H':Hp),(∃m,s'.heap.Ns C m)->HX X pins H' C->(∀h',En C s'.heap h'->Inv X pins σ H' {s' with heap:=h'})->Q (.ref D) H'->compPost (GO X.prog X.w) X.A X.xe use QQ (.ref D) C (.ok .next) s'):
  GN (GO X.prog X.w) X.A (comprehension (.ListComp elt [⟨tg,iter,ifs,0⟩] scope pos) scope X.env pos' (newList []) false (G0 iter X.env) use) QQ X.xe s:=by
 obtain⟨hh,h⟩:=h
 have cf: ∀p∈scope.names,p.2=.free-> ∃c,X.env.cells.lookup p.1=some c:=fun p hp e=>I.ok.has _ (S.free p hp e)
 refine wpAny_comprehension_free (use:=use) rfl hs (lE cf) S.kind S.names (thn (hi pins s σ H _ I h) fun v s1 h1=>thn h1 fun itv s2 h2=>?_)
 obtain⟨it,fp,tn,J,H2,rfl,I2,T,st2,f2,W,⟨m0,w0⟩,turn⟩:=h2
 refine Hv (wpAny_newFunctionEnv S.nocell (by intro y hy;simp at hy) (fun h₁ hns₁ hsb₁=>?_) S.kind)
 dsimp only at hns₁ hsb₁ ⊢
 generalize hH2:s2.heap.push {cls:=.type "list",dict:=none,data:=.seq ([]:List GC).toArray}=G2 at hns₁ hsb₁ ⊢
 have hC:G2.objs.size=s2.heap.objs.size+1:=by rw[<-hH2,Fb]
 have hDC:s2.heap.objs.size≠G2.objs.size:=by rw[hC];exact Dw (Fc _)
 have hCle:s2.heap.objs.size<=G2.objs.size:=by rw[hC];exact Fe _
 have old: ∀b o,s2.heap.get? b=some o->h₁.get? b=some o:=fun b o e=>hsb₁.extBut b o (Dw (Dv (Dn e) hCle)) (DF _ (hH2▸DF _ e))
 have hacc:h₁.get? s2.heap.objs.size=some {cls:=.type "list",data:=.seq ([]:List GC).toArray}:=hsb₁.extBut _ _ hDC (DF _ (hH2▸D0 _ rfl))
 have hobj: ∀b∈fp,∃o,s2.heap.get? b=some o:=fun b hb=>let ⟨o,e,_⟩:=T.obj 0 _ st2 b hb;⟨o,e⟩
 have ltf: ∀b∈fp,b<s2.heap.objs.size:=fun b hb=>let ⟨o,e⟩:=hobj b hb;Dn e
 have nofD:s2.heap.objs.size ∉ (cxC X ls scope G2.objs.size s2 H2 fp).fs:=fun z=>by
  rcases Dp.mp (I2.stkSub _ z) with z|z
  ·exact absurd I2.lt (by rw[<-z];exact Em _)
  ·exact I2.nofs (Dl _) z
 have st1:tn 0 h₁:=T.keep 0 _ _ st2 fun b _ o e=>old b o e
 have J0: ∀tk,Inv (cxC X ls scope G2.objs.size s2 H2 fp) [] (List.replicate ls.length none++σ) H2 {s2 with heap:=h₁,toks:=tk}:=fun tk=>mQ I2 S hh f2 hobj hCle hns₁ old
 have fpY: ∀ (Hx:Hp) (pl:List (GH×GK)),(∀b∈fp,Hx b=none)->(∀p∈pl,s2.heap.objs.size<=p.1)-> ∀b∈fp,HX (cxC X ls scope G2.objs.size s2 H2 fp) pl Hx b:=fun Hx pl hx hp b hb=>
  ⟨hx b hb,((J0 0).ok.exf b hb).1,(J0 0).ok.exfs b hb,.inl hb,((J0 0).ok.exf b hb).2,fun p hpp=>by
   have hpp:p∈pl:=by simpa [cxC] using hpp
   exact FD (Dv (ltf b hb) (hp p hpp))⟩
 have loop: ∀s₃:GJ,s₃={s2 with heap:=h₁,toks:=s2.toks+([]:List (Str×GC)).length}->
   codeAny (GO X.prog X.w) X.A (.compLoop (.ListComp elt [⟨tg,iter,ifs,0⟩] scope pos) 0 (.ref it) (.ref s2.heap.objs.size) (compEnvC scope (Iz scope X.env) G2.objs.size X.env))
    (compPost (GO X.prog X.w) X.A X.xe use QQ (.ref s2.heap.objs.size) G2.objs.size) s₃:=by
  rintro s₃ rfl
  refine eF (fun n s'=> ∃ (i:Nat) (ys:List V) (its:List GC) (k:Nat) (H':Hp),Inv (cxC X ls scope G2.objs.size s2 H2 fp) [] (List.replicate ls.length none++σ) H' s'/\tn i s'.heap/\(∀b∈fp,H' b=none)/\H' s2.heap.objs.size=none/\
   s'.heap.get? s2.heap.objs.size=some {cls:=.type "list",data:=.seq its.toArray k}/\Vals ys its/\ys.length<=sizeLine/\W i n ys H') ?_ m0
   ⟨0,[],[],0,H2,J0 _,st1,fun b hb=>(f2 b hb).1,I2.hok.fresh (Dl _),hacc,.nil,DB _,w0⟩
  rintro n s3 ⟨i,ys,its,k,H3,I3,st3,fr3,d3,e3,r3,z3,w3⟩
  have big: ∀p∈[((s2.heap.objs.size:GH),({cls:=.type "list",data:=.seq its.toArray k}:GK))],s2.heap.objs.size<=p.1:=fun p hp=>by
   have this:=DI.mp hp
   subst this
   exact Dl _
  rcases turn i n ys H3 w3 with⟨stop,qn⟩|⟨go,R,hR,step⟩
  ·
   have P3:Inv (cxC X ls scope G2.objs.size s2 H2 fp) [(s2.heap.objs.size,{cls:=.type "list",data:=.seq its.toArray k})] (List.replicate ls.length none++σ) H3 s3:=I3.pins_of fun p hp=>by
    have this:=DI.mp hp
    subst this
    exact⟨e3,d3,hDC,nofD,fun v z=>by cases z⟩
   refine thx (T.done (cxC X ls scope G2.objs.size s2 H2 fp) rfl rfl rfl hcalm i _ s3 _ H3 (fun _ _=>False) P3 (fpY H3 _ fr3 big) st3 stop) fun r s4 qz=>?_
   obtain⟨hr,I4⟩:=qz
   subst hr
   obtain⟨m,hm,_⟩:=I4.loc
   have e4:=(I4.pin _ (DW _ (DI.mpr rfl))).1
   exact hQQ _ _ s4 _ ⟨m,hm⟩ (I2.fpOk hCle (by rw[ap (Ne.symm hDC)];exact I4.free)) (fun h' sb=>pV I2 f2 I4 (Dl _) hCle hDC sb d3 e4 r3 z3) (qn _ d3)
  ·
   have P3:Inv (cxC X ls scope G2.objs.size s2 H2 fp) [(s2.heap.objs.size,{cls:=.type "list",data:=.seq its.toArray k})] (List.replicate ls.length none++σ) H3 s3:=I3.pins_of fun p hp=>by
    have this:=DI.mp hp
    subst this
    exact⟨e3,d3,hDC,nofD,fun v z=>by cases z⟩
   refine thx (T.item (cxC X ls scope G2.objs.size s2 H2 fp) rfl rfl rfl hcalm i _ s3 _ H3 (fun _ _=>False) P3 (fpY H3 _ fr3 big) st3 go) fun r s4 qz=>?_
   obtain⟨u,hr,h4⟩:=qz
   subst hr
   refine thx h4 fun _ s5 qz=>?_
   obtain⟨x,H5,I5,r5,y5,st5,fr5⟩:=qz
   have I5':=I5.pinned (fpY H5 _ fr5 big) (T.obj _ _ st5)
   refine thx (hg _ _ _ _ _ s5 _ H5 x u _ I5' r5 (step x H5 y5)) fun _ s6 qz=>?_
   obtain⟨σ6,H6,I6,q6⟩:=qz
   obtain⟨dr,ln,q6⟩:=q6
   have back: ∀ {s7:GJ}{H7:Hp},Inv (cxC X ls scope G2.objs.size s2 H2 fp) ([((s2.heap.objs.size:GH),({cls:=.type "list",data:=.seq its.toArray k}:GK))]++ju fp s5.heap) σ6 H7 s7->
     Inv (cxC X ls scope G2.objs.size s2 H2 fp) [] (List.replicate ls.length none++σ) H7 s7/\tn (i+1) s7.heap/\(∀b∈fp,H7 b=none)/\H7 s2.heap.objs.size=none/\s7.heap.get? s2.heap.objs.size=some {cls:=.type "list",data:=.seq its.toArray k}:=fun{s7 H7} I7=>by
    have pD:=I7.pin _ (DW _ (Eu _ (DI.mpr rfl)))
    have pF: ∀b∈fp,∀o,s5.heap.get? b=some o->s7.heap.get? b=some o/\H7 b=none:=fun b hb o e=>by
     have q:=I7.pin (b,o) (DW _ (DW _ (gy hb e)))
     exact⟨q.1,q.2.1⟩
    refine⟨(I7.pins_of (pins':=[]) fun p hp=>absurd hp (by simp)).weak ?_ ?_,T.keep _ _ _ st5 fun b hb o e=>(pF b hb o e).1,fun b hb=>?_,pD.2.1,pD.1⟩
    ·rw[ln,Dk,Ej]
    ·intro j v ej
     by_cases hj:j<ls.length
     ·rw[DS (by simpa using hj),Fg,if_pos hj] at ej
      cases ej
     ·rw[Ei (by simpa using hj),Ej,<-dr,Fi] at ej
      rw[<-ej]
      congr 1
      omega
    ·obtain⟨o,e,_⟩:=T.obj _ _ st5 b hb
     exact (pF b hb o e).2
   refine thx (ht _ _ _ _ _ s6 σ6 H6 _ I6 q6) fun b s7 qz=>?_
   obtain⟨H7,I7,q7⟩:=qz
   cases b with
   |false=>
    rw[if_neg Ds] at q7 ⊢
    obtain⟨m',hm,w7⟩:=hR _ _ q7
    obtain⟨a1,a2,a3,a4,a5⟩:=back I7
    exact⟨m',hm,i+1,ys,its,k,H7,a1,a2,a3,a4,a5,r3,z3,w7⟩
   |true=>
    rw[if_pos rfl] at q7 ⊢
    refine thx (he _ _ _ _ _ s7 σ6 H7 _ I7 q7) fun y s8 qz=>?_
    obtain⟨v,H8,I8,r8,z8,q8⟩:=qz
    obtain⟨m',hm,w8⟩:=hR _ _ q8
    obtain⟨a1,a2,a3,a4,a5⟩:=back I8
    have pl:s8.heap.PlainList s2.heap.objs.size its.toArray:=⟨k,a5⟩
    refine wpAny_list_append_plain (hsz:=by rw[Du,<-r3.length];exact z3) pl fun h9 hl9 hs9=>?_
    obtain⟨k9,e9⟩:=hl9
    have cellN: ∀ (y:Str) (c:GH),(cxC X ls scope G2.objs.size s2 H2 fp).env.cells.lookup y=some c->c≠s2.heap.objs.size:=fun y c e=>by
     have e1:X.env.cells.lookup y=some c:=i8 X.env scope.names [] cf (fun y a e=>by simp at e) y c e
     obtain⟨v,o,ho,_⟩:=I2.cell y c e1
     exact Dw (Dn ho)
    have I9:Inv (cxC X ls scope G2.objs.size s2 H2 fp) [] (List.replicate ls.length none++σ) H8 {s8 with heap:=h9}:=
     a1.turned (t':=s8.toks) (fun b o hb e=>hs9.extBut b o hb e) a4 hDC (.inr (Dl _)) cellN (fun p hp=>absurd (show p∈([]:List (GH×GK)) from hp) (by simp))
    refine⟨m',hm,i+1,ys++[v],its++[y],k9,H8,I9,T.keep _ _ _ a2 fun b hb o e=>hs9.extBut b o (Dw (ltf b hb)) e,a3,a4,?_,r3.append (.cons r8 .nil),?_,w8⟩
    ·simpa using e9
    ·rw[Dk,DP];exact z8
 exact codeAny_compStart_list (loop _ rfl) (T.self _ 0 _ _ _ st1 (loop _ rfl))
theorem nY (hcalm:X.calm=true)(S:CScope X ls scope)(hi:PI X tg iter wi)
  (hg: ∀C s2 H2 fp,PG (cxC X ls scope C s2 H2 fp) tg g)(ht: ∀C s2 H2 fp,Ia (cxC X ls scope C s2 H2 fp) ifs tt)(he: ∀C s2 H2 fp,PE (cxC X ls scope C s2 H2 fp) elt te)
  (hs: ∀x,Hh iter X.env x=pure x:=by intro _;rfl):PE X (.ListComp elt [⟨tg,iter,ifs,0⟩] scope pos) (MV X.N ls wi g tt te):=by
 intro pins s σ H Q I h
 rw[eval_ListComp]
 refine mW (use:=none) hcalm S hi hg ht he hs I h fun D C s' H' hm _ hI q=>?_
 obtain⟨m,hm⟩:=hm
 exact⟨m,hm,fun h' sb=>⟨.ref D,H',hI h' sb,rfl,q⟩⟩
theorem kD {i:Nat}{x:Str}{px spos:G1}(hN:X.N.Nodup)(hx1:X.N[i]?=some x)(hx:X.env.scope.names.lookup x=some .local)(hcalm:X.calm=true)(S:CScope X ls scope)(hi:PI X tg iter wi)
  (hg: ∀C s2 H2 fp,PG (cxC X ls scope C s2 H2 fp) tg g)(ht: ∀C s2 H2 fp,Ia (cxC X ls scope C s2 H2 fp) ifs tt)(he: ∀C s2 H2 fp,PE (cxC X ls scope C s2 H2 fp) elt te)
  (hsw:swapsWith (.ListComp elt [⟨tg,iter,ifs,0⟩] scope pos) (some (.Name x px)) spos.line X.env=pure true:=by rfl)
  (hs: ∀x,Hh iter X.env x=pure x:=by intro _;rfl):PS X (.Assign [.Name x px] (.ListComp elt [⟨tg,iter,ifs,0⟩] scope pos) spos) (MU (MV X.N ls wi g tt te) (Jd i)):=by
 intro pins s σ H D I h
 rw[exec_Assign_Name_used _ _ _ _ hsw]
 refine GP (wpAny_standAt (GP ?_))
 show GN _ X.A (do let _<-comprehension (.ListComp elt [⟨tg,iter,ifs,0⟩] scope pos) scope X.env _ (newList []) false (G0 iter X.env) (some (assign (.Name x px) X.env))) _ _ s
 refine GP (G6 (mW (use:=some (assign (.Name x px) X.env)) (QQ:=fun _ s'=>SP X pins D .next s') hcalm S hi hg ht he hs I h fun Dd C s' H' hm hf hI q=>?_) (fun _ s' hq=>GQ (GQ hq)) fun _ _ e=>e)
 obtain⟨m,hm⟩:=hm
 have I1:Inv X pins σ H' s':=hI s'.heap (.refl ..)
 show GN _ X.A (assign (.Name x px) X.env (.ref Dd)) _ _ _
 refine wpAny_assign_Name (ms (v:=.ref Dd) I1 hN hx1 (.inl hx) rfl (fun s2 I2 ch=>?_) (.inr hx))
 obtain⟨f0,f1,f2,f3,f4,f5⟩:=hf
 obtain⟨a,sb,ha⟩:=ch
 have hne:C≠a:=by
  rcases ha with ha|ha
  ·rw[ha];exact f1
  ·exact Ne.symm (f4 _ _ ha)
 refine⟨m,hm.sameBut sb hne,fun h' sb'=>?_⟩
 exact⟨_,H',I2.turned (t':=s2.toks) (fun b o hb e=>sb'.extBut b o hb e) f0 f1 f3 f4 f5,q⟩
end
end
section
noncomputable def sJ (ls:List Str)(sc outer:GY):Bool:=(sc.kind==.function && ls.all fun y=>(sc.names.lookup ⟨#[63]++y.cps⟩).isNone) && sc.names.all fun y=>(y.2 !=.cell) && (y.2 !=.local ||(sc.names.lookup y.1==some .local && ls.contains y.1)) && (y.2 !=.free||outer.names.lookup y.1==some .cell||outer.names.lookup y.1==some .free)
theorem CScope.of {X:Cx}{ls:List Str}{scope:GY}(outer:GY)(h:sJ ls scope outer=true:=by decide+kernel)(ho:X.env.scope=outer:=by rfl):CScope X ls scope:=by
 unfold sJ at h
 rw[Dx,DC] at h
 obtain⟨h0,h⟩:=h
 rw[Dx,DC] at h0
 obtain⟨h0,hq⟩:=h0
 refine⟨by simpa using h0,fun y hy e=>?_,fun y hy e=>?_,fun y hy=>?_,fun y hy e=>?_,fun y hy k e=>by have q:=hq y hy;rw[e] at q;cases q⟩
 ·have q:=h y hy
  simp [e] at q
 ·have q:=h y hy
  simp [e] at q
  exact q.1
 ·have q:=h _ (PySem.mem_of_lookup hy)
  simp at q
  exact q.2
 ·have q:=h y hy
  simp [e] at q
  show X.env.scope.names.lookup y.1=_\/X.env.scope.names.lookup y.1=_
  rw[ho]
  exact q
noncomputable def CMulB (i j:Int):Prop:=i.natAbs<2 ^ 65536/\j.natAbs<2 ^ 65536
theorem sO {i:Int}{n:Nat}(h:i.natAbs<2 ^ n):GD.Int.intBits i<=n:=by
 unfold GD.Int.intBits
 split
 ·exact DB _
 ·rename_i hz
  have hz':i.natAbs≠0:=by
   intro e
   exact hz (by simp_all)
  have:=(Fj hz').mpr h
  omega
theorem CMulB.ok {i j:Int}(h:CMulB i j):IntMulOk i j:=.of_bits (Dy (sO h.1) (by decide)) (Dy (sO h.2) (by decide))
section
variable {X:Cx}
theorem jF: ∀ {ns:List Int}{us:List GC},Vals (ns.map V.int) us->IntsAre us ns
 |[],_,.nil=>.nil
 |n::r,_,.cons h t=>by
  obtain⟨tk,rfl⟩:=h
  exact .cons n tk (jF t)
theorem wM (hc:X.calm=true):CallR X (.builtin "sum") (fun xs H Q=> ∃ (p:GH) (ns:List Int),xs=[.ref p]/\SqL X.K H p (ns.map V.int)/\Q (.int ns.sum) H):=by
 intro pins s σ H xs us Q I r h
 obtain⟨p,ns,rfl,hq,q⟩:=h
 obtain⟨u,rfl,ru⟩:=Nd r
 cases ru
 obtain⟨its,rv,pl,hz⟩:=I.list hq
 have hi:=jF rv
 obtain⟨xs,e⟩:=hi.allInts.items
 have hl:s.heap.IsList p (intItems xs):=by rw[<-e];exact pl.isList
 refine sum_intListG (I.ok.hd hc) hl fun h' tk t' hk=>?_
 have es:preSum (numAt xs) xs.size=ns.sum:=by
  rw[preSum_eq,ED (by simp),<-nums_intItems,<-e]
  rw[show its.toArray.toList=its from rfl,hi.numsOf]
 exact⟨.int ns.sum,H,I.kept (t':=tk) hk,⟨t',by rw[es]⟩,q⟩
mutual
inductive Den (K:PySem.W.Frag)(H:Hp):V->HD->Prop
 |non:Den K H .non .none
 |bl (b):Den K H (.bl b) (.bool b)
 |int (i):Den K H (.int i) (.int i)
 |str (x):Den K H (.str x) (.str x)
 |lst {a xs ds}:SqL K H a xs->HQ K H xs ds->Den K H (.ref a) (.list ds)
 |tup {a xs ds}:SqT K H a xs->HQ K H xs ds->Den K H (.ref a) (.tuple ds)
inductive HQ (K:PySem.W.Frag)(H:Hp):List V->List HD->Prop
 |nil:HQ K H [] []
 |cons {x xs d ds}:Den K H x d->HQ K H xs ds->HQ K H (x::xs) (d::ds)
end
mutual
theorem gf {pins:List (GH×GK)}{σ:St}{H:Hp}{s:GJ}(I:Inv X pins σ H s): ∀ {x:V}{d:HD}{u:GC},Den X.K H x d->RelV x u-> ∃as,Reads s.heap u d as
 |_,_,_,.non,r=>by cases r;exact⟨_,.none⟩
 |_,_,_,.bl b,r=>by cases r;exact⟨_,.bool b⟩
 |_,_,_,.int i,r=>by obtain⟨t,rfl⟩:=r;exact⟨_,.int i t⟩
 |_,_,_,.str i,r=>by obtain⟨t,rfl⟩:=r;exact⟨_,.str i t⟩
 |_,_,_,.lst hq ha,r=>by
  cases r
  obtain⟨its,rv,⟨o,n,e1,e2,e3,e4⟩,hz⟩:=I.list hq
  obtain⟨as,h⟩:=gJ I ha rv
  exact⟨_,.list e1 e2 e4 (by simpa using h)⟩
 |_,_,_,.tup hq ha,r=>by
  cases r
  obtain⟨its,rv,⟨o,e1,e2,n,e3⟩,hz⟩:=I.tuple hq
  obtain⟨as,h⟩:=gJ I ha rv
  exact⟨_,.tuple e1 e2 e3 (by simpa using h)⟩
theorem gJ {pins:List (GH×GK)}{σ:St}{H:Hp}{s:GJ}(I:Inv X pins σ H s): ∀ {xs:List V}{ds:List HD}{us:List GC},HQ X.K H xs ds->Vals xs us-> ∃as,ReadsAll s.heap us ds as
 |_,_,_,.nil,.nil=>⟨_,.nil⟩
 |_,_,_,.cons h t,.cons r rs=>by
  obtain⟨as,h1⟩:=gf I h r
  obtain⟨bs,h2⟩:=gJ I t rs
  exact⟨_,.cons h1 h2⟩
end
def LG (K:PySem.W.Frag)(A:GL)(neg:Bool):R2:=fun x y H Q=> ∃d e,Den K H x d/\Den K H y e/\d.canLay0=true/\e.canLay0=true/\A.units+min d.depth e.depth<GM/\Q (.bl (if neg then !HD.eqv d e else HD.eqv d e)) H
theorem Av:OpR X (G7 .Eq) (LG X.K X.A false):=by
 intro pins s σ H x y v u Q I rx ry h
 obtain⟨d,e,hd,he,cd,ce,hu,q⟩:=h
 obtain⟨as,ra⟩:=gf I hd rx
 obtain⟨bs,rb⟩:=gf I he ry
 exact SeqAt.compareEq_reads ra rb cd ce hu ⟨.bl _,H,I,rfl,q⟩
theorem As:OpR X (G7 .NotEq) (LG X.K X.A true):=by
 intro pins s σ H x y v u Q I rx ry h
 obtain⟨d,e,hd,he,cd,ce,hu,q⟩:=h
 obtain⟨as,ra⟩:=gf I hd rx
 obtain⟨bs,rb⟩:=gf I he ry
 exact SeqAt.compareNe_reads ra rb cd ce hu ⟨.bl _,H,I,rfl,q⟩
end
end
section
def CXx (P:GE)(w:GF):CXT:=fun outer H s E e s'=>
 ∃ (ea:GH) (cls a0:GC) (H':Hp) (B:GG),e=.ref ea/\s'.os=s.os/\GZ s'.gens/\Un (frs outer) [] H H' s.heap s'.heap/\HOk P w H' s'.heap/\EE B outer ea cls a0 s'.heap/\
   (∀b o,s'.heap.get? b=some o->b ∉ frs outer->(H' b≠none\/ ∃o',s.heap.get? b=some o')->B.get? b=some o)/\s.heap.get? ea=none/\H' ea=none/\E cls none H'
theorem HOk.there {P:GE}{w:GF}{H:Hp}{h:GG}(x:HOk P w H h){a:GH}{o:HO}(e:H a=some o): ∃ob,h.get? a=some ob:=by
 have q:=x a o e
 cases o with
 |lst xs=>obtain⟨_,its,n,_,e⟩:=q;exact⟨_,e⟩
 |tup xs=>obtain⟨_,its,_,⟨ob,e,_⟩,_⟩:=q;exact⟨_,e⟩
 |dK kvs=>obtain⟨_,_,vs,_,ob,es,ep,e,_⟩:=q;exact⟨_,e⟩
 |dT kvs=>obtain⟨_,_,xs,_,ob,es,ep,e,_⟩:=q;exact⟨_,e⟩
 |dN b xs ep=>obtain⟨_,_,xs,_,ob,es,e,_⟩:=q;exact⟨_,e⟩
 |set S n=>obtain⟨ob,_,_,_,e,_⟩:=q;exact⟨_,e⟩
 |ins C dx fs=>obtain⟨_,_,_,e,_⟩:=q;exact⟨_,e⟩
 |own y=>exact q
 |xd fs=>obtain⟨_,⟨_,_,_,e,_⟩,_⟩:=q;exact⟨_,e⟩
 |met f y=>exact⟨_,q⟩
 |rng lo hi=>obtain⟨_,_,_,e⟩:=q;exact⟨_,e⟩
 |frz ob u=>exact⟨_,q.1⟩
 |tbl ps=>exact⟨_,q⟩
 |ext φ=>exact q.2.1
structure InDef (X:Cx):Prop where
 stk:X.stack=X.env::X.outer
 fr:X.env.frame=some X.env.locals
 ex:X.ex=[]
theorem InDef.frs {X:Cx}(D:InDef X):frs X.stack=X.env.locals::X.fs:=by
 rw[D.stk]
 unfold L2.frs
 rw[Ef,D.fr]
 rfl
section
variable {X:Cx}{pins:List (GH×GK)}{σ:St}{H:Hp}{s:GJ}
theorem Inv.frame_obj (I:Inv X pins σ H s){b:GH}(hb:b∈frs X.stack): ∃o,s.heap.get? b=some o/\ ∀vs,o.data≠.fields vs:=(I.stack.mem hb).2
theorem pY (I:Inv X pins σ H s)(D:InDef X){h':GG}{e:GH}{C:GC}{args:List GC}(hx:FO s.heap h' e C args){M:Model}{Q:Unit->GJ->Prop}{E:GC->GJ->Prop}
  (hQ: ∀ (h'':GG) (a0:GC) (B:GG),EE B X.outer e C a0 h''->(∀b o,s.heap.get? b=some o->b ∉ frs X.stack->B.get? b=some o)->(∀b∈frs X.stack,B.get? b=none)->s.heap.UpToSlots h''->Q () {s with heap:=h''}):
  GN M X.A (leaving X.env (.ref e)) Q E {s with heap:=h'}:=by
 have hin: ∀env∈X.stack,∀b,env.frame=some b->b∈frs X.stack:=fun env he b hb=>FE.mpr ⟨env,he,hb⟩
 have hl:=PySem.W.funFrames_hide I.stack hin
 have fr:=I.ok.frames
 rw[D.stk] at fr
 have hl':s.heap.FunFrames (PySem.W.hideAll s.heap (frs X.stack)) (X.env::X.outer):=by rw[<-D.stk];exact hl
 exact wpAny_leaves_madeW (s:={s with heap:=h'}) fr D.fr (fun b o q=>PySem.W.of_hideAll _ q) hl' hx fun h'' t x1 x2 x3 x4=>
  hQ h'' (.ref t) _ x1 (fun b o q hb=>PySem.W.hideAll_get _ q hb) (fun b hb=>PySem.W.hideAll_none _ hb) ((GG.UpToSlots.of_keeps hx.keeps).trans x4)
end
section
variable {P:GE}{w:GF}{K:PySem.W.Frag}{mg:Str->Option GC}{base:GG}{N:List Str}{qual:Str}{scope:GY}{f:GH}{cd:GC}{A:GL}{outer:List Env}{s:GJ}{H:Hp}{E:XK}
theorem i5 {CX:CXT}:InDef (IG CX P w K mg base N qual scope f cd A outer s H E):=⟨rfl,rfl,rfl⟩
theorem nQ {pins:List (GH×GK)}{σ:St}{H1:Hp}{s1:GJ}{h':GG}{e:GH}{C:GC}{args:List GC}(I:Inv (IG (CXx P w) P w K mg base N qual scope f cd A outer s H E) pins σ H1 s1)
  (hx:FO s1.heap h' e C args)(hE:E C none H1):(IG (CXx P w) P w K mg base N qual scope f cd A outer s H E).xe (.ref e) {s1 with heap:=h'}:=by
 refine pY I i5 hx fun h'' a0 B fl cov nof up=>?_
 have fr2: ∀b,b∈frs (IG (CXx P w) P w K mg base N qual scope f cd A outer s H E).stack↔b=s.heap.objs.size\/b∈frs outer:=fun b=>by
  rw[(i5 (CX:=CXx P w)).frs]
  exact Dp
 have old: ∀b o,s.heap.get? b=some o->b≠s.heap.objs.size:=fun b o q=>Dw (Dn q)
 have keepB: ∀b o,s1.heap.get? b=some o->b≠s.heap.objs.size->b ∉ frs outer->h''.get? b=some o:=fun b o q h1 h2=>fl.1 b o (cov b o q fun z=>((fr2 b).mp z).elim h1 h2)
 have tr: ∀b u,H1 b=some u->b≠s.heap.objs.size/\b ∉ frs outer:=fun b u q=>by
  refine⟨fun z=>?_,fun z=>?_⟩
  ·have:=I.stkFree b ((fr2 b).mpr (.inl z));rw[this] at q;cases q
  ·have:=I.stkFree b ((fr2 b).mpr (.inr z));rw[this] at q;cases q
 have slotB: ∀b o,s1.heap.get? b=some o->b∈frs outer-> ∃sl,h''.get? b=some {o with slots:=sl}:=fun b o q hb=>by
  obtain⟨o',e',nd⟩:=I.frame_obj ((fr2 b).mpr (.inr hb))
  rw[q] at e';cases e'
  exact up b o q nd
 have baseU:Un (frs outer) [] H H1 s.heap s1.heap:=I.base
 refine⟨e,C,a0,H1,B,rfl,I.os,I.bare,⟨fun b o q n hb hx=>?_,fun b o q n hb hx=>?_,fun b o q n hx=>baseU.free b o q n hx,fun b o q hx=>?_,baseU.tups,baseU.frzs,baseU.tbls⟩,fun b u q=>?_,fl,fun b o q hb hh=>?_,?_,?_,hE⟩
 ·exact keepB b o (baseU.keep b o q n hb hx) (old b o q) hb
 ·obtain⟨sl,q1⟩:=baseU.slot b o q n hb hx
  obtain⟨sl',q2⟩:=slotB b _ q1 hb
  exact⟨sl',q2⟩
 ·obtain⟨o',q1⟩:=baseU.there b o q hx
  by_cases hb:b∈frs outer
  ·obtain⟨sl',q2⟩:=slotB b _ q1 hb
   exact⟨_,q2⟩
  ·exact⟨o',keepB b o' q1 (old b o q) hb⟩
 ·refine (I.hok b u q).stay (fun c v hc r=>?_) (fun _ r=>r) fun _ _ r=>r
  have: ∃u,H1 c=some u:=by
   rcases hc with rfl|hc
   ·exact⟨u,q⟩
   ·exact⟨_,hc⟩
  obtain⟨u',qu⟩:=this
  exact keepB c v r (tr c u' qu).1 (tr c u' qu).2
 ·have: ∃o1,s1.heap.get? b=some o1/\b≠s.heap.objs.size:=by
   rcases hh with hh|⟨o',hh⟩
   ·cases qu:H1 b with
    |none=>exact absurd qu hh
    |some u=>
     obtain⟨o1,q1⟩:=I.hok.there qu
     exact⟨o1,q1,(tr b u qu).1⟩
   ·obtain⟨o1,q1⟩:=baseU.there b o' hh (by simp)
    exact⟨o1,q1,old b o' hh⟩
  obtain⟨o1,q1,hne⟩:=this
  have q2:=keepB b o1 q1 hne hb
  rw[q] at q2
  cases q2
  exact cov b o q1 fun z=>((fr2 b).mp z).elim hne hb
 ·cases q:s.heap.get? e with
  |none=>rfl
  |some o'=>
   obtain⟨o1,q1⟩:=baseU.there e o' q (by simp)
   rw[hx.new] at q1;cases q1
 ·cases q:H1 e with
  |none=>rfl
  |some u=>
   obtain⟨o1,q1⟩:=I.hok.there q
   rw[hx.new] at q1;cases q1
theorem dy:b7 (CXx P w) (IG (CXx P w) P w K mg base N qual scope f cd A outer s H E) E:=by
 intro pins σ H1 s1 e s2 I hc
 obtain⟨ea,cls,a0,H2,B,rfl,os,bare,un,hok,fly,cov,new,hn,hE⟩:=hc
 have frm:=I.ok.frames
 refine wpAny_leaves_onW (show (A.deeper (Ht qual scope s.heap.objs.size f cd)).frames=some (Ht qual scope s.heap.objs.size f cd::outer) from frm) rfl fly fun h' fl up=>?_
 have fr2: ∀b,b∈frs (IG (CXx P w) P w K mg base N qual scope f cd A outer s H E).stack↔b=s.heap.objs.size\/b∈frs outer:=fun b=>by
  rw[(i5 (CX:=CXx P w)).frs]
  exact Dp
 have old: ∀b o,s.heap.get? b=some o->b≠s.heap.objs.size:=fun b o q=>Dw (Dn q)
 have baseU:Un (frs outer) [] H H1 s.heap s1.heap:=I.base
 have frN: ∀b,b∈frs (IG (CXx P w) P w K mg base N qual scope f cd A outer s H E).stack->H2 b=none:=fun b hb=>by
  obtain⟨o,q,_⟩:=I.frame_obj hb
  exact un.free b o q (I.stkFree b hb) (by simp)
 have tr: ∀b u,H2 b=some u->b ∉ frs (IG (CXx P w) P w K mg base N qual scope f cd A outer s H E).stack:=fun b u q z=>by rw[frN b z] at q;cases q
 have slotB: ∀b o,s2.heap.get? b=some o->b∈frs (IG (CXx P w) P w K mg base N qual scope f cd A outer s H E).stack-> ∃sl,h'.get? b=some {o with slots:=sl}:=fun b o q hb=>by
  obtain⟨o',e',nd⟩:=(fly.2.2.1.mem hb).2
  rw[q] at e';cases e'
  exact up b o q nd
 have noSt: ∀b o,s.heap.get? b=some o->b ∉ frs outer->b ∉ frs (IG (CXx P w) P w K mg base N qual scope f cd A outer s H E).stack:=fun b o q hb z=>((fr2 b).mp z).elim (old b o q) hb
 refine⟨ea,cls,a0,H2,B,rfl,os.trans I.os,bare,⟨fun b o q n hb hx=>?_,fun b o q n hb hx=>?_,fun b o q n hx=>?_,fun b o q hx=>?_,fun b xs q=>un.tups b xs (baseU.tups b xs q),fun b o u q=>un.frzs b o u (baseU.frzs b o u q),fun b ps q=>?_⟩,fun b u q=>?_,fl,fun b o q hb hh=>?_,?_,hn,hE⟩
 ·have q1:=baseU.keep b o q n hb hx
  have q2:=un.keep b o q1 (baseU.free b o q n hx) (noSt b o q hb) hx
  exact fl.1 b o (cov b o q2 (noSt b o q hb) (.inr ⟨o,q1⟩))
 ·obtain⟨sl,q1⟩:=baseU.slot b o q n hb hx
  obtain⟨sl2,q2⟩:=un.slot b _ q1 (baseU.free b o q n hx) ((fr2 b).mpr (.inr hb)) hx
  obtain⟨sl3,q3⟩:=slotB b _ q2 ((fr2 b).mpr (.inr hb))
  exact⟨sl3,q3⟩
 ·obtain⟨o1,q1⟩:=baseU.there b o q hx
  exact un.free b o1 q1 (baseU.free b o q n hx) hx
 ·obtain⟨o1,q1⟩:=baseU.there b o q hx
  obtain⟨o2,q2⟩:=un.there b o1 q1 hx
  by_cases hb:b∈frs outer
  ·obtain⟨sl,q3⟩:=slotB b o2 q2 ((fr2 b).mpr (.inr hb))
   exact⟨_,q3⟩
  ·exact⟨o2,fl.1 b o2 (cov b o2 q2 (noSt b o q hb) (.inr ⟨o1,q1⟩))⟩
 ·obtain⟨m1,e1⟩:=baseU.tbls b ps q
  obtain⟨m2,e2⟩:=un.tbls b _ e1
  exact⟨m1++m2,by rw[e2,FC]⟩
 ·refine (hok b u q).stay (fun c v hc r=>?_) (fun _ r=>r) fun _ _ r=>r
  have: ∃u,H2 c=some u:=by
   rcases hc with rfl|hc
   ·exact⟨u,q⟩
   ·exact⟨_,hc⟩
  obtain⟨u',qu⟩:=this
  exact fl.1 c v (cov c v r (tr c u' qu) (.inl (by rw[qu];simp)))
 ·have: ∃o2,s2.heap.get? b=some o2/\B.get? b=some o2:=by
   rcases hh with hh|⟨o',hh⟩
   ·cases qu:H2 b with
    |none=>exact absurd qu hh
    |some u=>
     obtain⟨o2,q2⟩:=hok.there qu
     exact⟨o2,q2,cov b o2 q2 (tr b u qu) (.inl hh)⟩
   ·obtain⟨o1,q1⟩:=baseU.there b o' hh (by simp)
    obtain⟨o2,q2⟩:=un.there b o1 q1 (by simp)
    exact⟨o2,q2,cov b o2 q2 (noSt b o' hh hb) (.inr ⟨o1,q1⟩)⟩
  obtain⟨o2,q2,q3⟩:=this
  have q4:=fl.1 b o2 q3
  rw[q] at q4
  cases q4
  exact q3
 ·cases q:s.heap.get? ea with
  |none=>rfl
  |some o'=>
   obtain⟨o1,q1⟩:=baseU.there ea o' q (by simp)
   rw[new] at q1;cases q1
end
end
section
noncomputable def Its (x:Str):It:=⟨fun i _=>i<x.cps.size,fun i H v H'=>H'=H/\ ∃c,x.cps.toList[i]?=some c/\v=.str ⟨#[c]⟩,fun i _=>i=x.cps.size⟩
theorem qE (x:Str):["enumerate", "zip", "dict_itemiterator", "dict_reverseitemiterator", "odict_iterator", "itertools.zip_longest", "itertools.pairwise"].contains (HE x)=false:=by
 unfold HE
 split<;>decide
theorem mh {prog:GE}{w:GF}{A:GL}(hh:A.handled=none)(I:GH)(x:Str)(t:Tok):Walks prog w A I [I] [I] x.cps.size (SignAt x) (fun i h=>h.IsStrIter I (HE x) x t i):=by
 unfold HE
 split
 ·exact Walks.strAscii hh I x t
 ·exact Walks.strWide hh I x t
theorem ue {prog:GE}{w:GF}{A:GL}{E:GC->GJ->Prop}{s:GJ}{it:GH}{x:Str}{t:Tok}{i:Nat}{Q:GC->GJ->Prop}(hit:s.heap.IsStrIter it (HE x) x t i)(h:Q (.ref it) s):
  GN (GO prog w) A (pyIter (.ref it)) Q E s:=by
 unfold HE at hit
 split at hit
 ·exact wpAny_pyIter_striter_ascii hit h
 ·exact wpAny_pyIter_striter_wide hit h
theorem uz {P:GE}{w:GF}{K:PySem.W.Frag}{tg:Expr}(it:GH)(x:Str)(t:Tok):Ij P w K tg (Its x) [it] it (fun i h=>h.IsStrIter it (HE x) x t i) where
 mem:=by simp
 obj:=fun i h st b hb=>by
  have e:b=it:=by simpa using hb
  subst e
  obtain⟨o,e,c,d⟩:=st
  exact⟨o,e,fun v z=>by rw[d] at z;cases z⟩
 keep:=fun i h h' st k=>by
  obtain⟨o,e,r⟩:=st
  exact⟨o,k it (by simp) o e,r⟩
 item:=by
  intro X hP hw hK hc i pins s σ H E I hf st hg
  subst hP hw hK
  obtain⟨f0,f1,f2,f3,f4,f5⟩:=hf it (by simp)
  refine (mh (I.ok.hd hc) it x t).item i s _ _ hg st fun v h' tk hv st' kk=>?_
  obtain⟨c,u,hcu,rfl⟩:=hv
  have I1:Inv X pins σ H {s with heap:=h',toks:=tk}:=I.turned (fun b o hb e=>kk b o (by simpa using hb) e) f0 f1 f3 f4 f5
  obtain⟨o,e,c',d⟩:=id st'
  exact⟨_,rfl,sA (s:={s with heap:=h',toks:=tk}) e c' d (qE x) ⟨.str ⟨#[c]⟩,H,I1,⟨u,rfl⟩,⟨rfl,c,by simpa using hcu,rfl⟩,st',fun b hb=>(hf b hb).1⟩⟩
 done:=by
  intro X hP hw hK hc i pins s σ H E I hf st hg
  subst hP hw hK
  obtain⟨f0,f1,f2,f3,f4,f5⟩:=hf it (by simp)
  have hg:i=x.cps.size:=hg
  subst hg
  exact (mh (I.ok.hd hc) it x t).done s _ _ st fun h' tk kk=>⟨rfl,I.turned (fun b o hb e=>kk b o (by simpa using hb) e) f0 f1 f3 f4 f5⟩
 self:=fun _ _ _ _ _ st h=>ue st h
section
variable {X:Cx}{tg:Expr}
def iStr (tl:TE):TI:=fun σ H R=>tl σ H fun v H1=> ∃x,v=.str x/\R (Its x) H1
theorem qW {l:Expr}{tl:TE}(hl:PE X l tl):PI X tg l (iStr tl):=by
 intro pins s σ H R I h
 refine thn (hl pins s σ H _ I h) fun v s1 qz=>?_
 obtain⟨y,H1,I1,r1,q1⟩:=qz
 obtain⟨x,rfl,q⟩:=q1
 obtain⟨t,rfl⟩:=r1
 refine wpAny_pyIter_strU ?_
 refine⟨s1.heap.objs.size,[s1.heap.objs.size],_,_,H1,rfl,I1.kept (t':=s1.toks) fun b o e=>DF _ e,uz _ x t,⟨_,D0 _ rfl,rfl,rfl⟩,fun b hb=>?_,q⟩
 have e:b=s1.heap.objs.size:=by simpa using hb
 subst e
 exact I1.fpOk (Dl _) (I1.hok.fresh (Dl _))
end
theorem C3 {x:Str}{g:TG}{tb:TS}{D:HS}{σ:St}{H:Hp}(Pv:Nat->St->Hp->Prop)(h0:Pv 0 σ H)
  (hs: ∀i c σ H,x.cps.toList[i]?=some c->Pv i σ H->g (.str ⟨#[c]⟩) σ H fun σ2 H2=>tb {D with nx:=Pv (i+1),ct:=Pv (i+1),bk:=D.nx} σ2 H2)(hd: ∀σ H,Pv x.cps.size σ H->D.nx σ H):
  ∃W:Nat->Nat->St->Hp->Prop,(∃m,W 0 m σ H)/\ ∀i m σ H,W i m σ H->
   ((Its x).stop i H/\D.nx σ H)\/((Its x).go i H/\ ∃N:St->Hp->Prop,(∀σ' H',N σ' H'-> ∃m',m'<m/\W (i+1) m' σ' H')/\ ∀v H',(Its x).yld i H v H'->g v σ H' fun σ2 H2=>tb {D with nx:=N,ct:=N,bk:=D.nx} σ2 H2):=by
 refine⟨fun i m σ H=>m=x.cps.size - i/\i<=x.cps.size/\Pv i σ H,⟨x.cps.size,by simp,DB _,h0⟩,?_⟩
 rintro i m σ H ⟨rfl,hi,p⟩
 by_cases hlt:i<x.cps.size
 ·refine .inr ⟨hlt,Pv (i+1),fun σ' H' p'=>⟨x.cps.size - (i+1),by omega,rfl,hlt,p'⟩,fun v H' y=>?_⟩
  obtain⟨e,c,hc,rfl⟩:=y
  subst e
  exact hs i c σ _ hc p
 ·have e:i=x.cps.size:=by omega
  subst e
  exact .inl ⟨rfl,hd σ H p⟩
theorem qh {x:Str}{ls:List Str}{g:TG}{tt:TT}{te:TE}{σ:St}{H:Hp}{Q:VK}(Pv:Nat->List V->Hp->Prop)(h0:Pv 0 [] H)
  (hs: ∀i c ys H,x.cps.toList[i]?=some c->Pv i ys H->g (.str ⟨#[c]⟩) (List.replicate ls.length none++σ) H fun σ2 H2=>σ2.drop ls.length=σ/\σ2.length=ls.length+σ.length/\tt σ2 H2 fun b H3=>if b=true then te σ2 H3 fun v H4=>ys.length<sizeLine/\Pv (i+1) (ys++[v]) H4 else Pv (i+1) ys H3)
  (hd: ∀ys H,Pv x.cps.size ys H-> ∀D,H D=none->Q (.ref D) (upd H D (.lst ys))):HM (Its x) ls g tt te σ H Q:=by
 refine⟨fun i m ys H=>m=x.cps.size - i/\i<=x.cps.size/\Pv i ys H,⟨x.cps.size,by simp,DB _,h0⟩,?_⟩
 rintro i m ys H ⟨rfl,hi,p⟩
 by_cases hlt:i<x.cps.size
 ·refine .inr ⟨hlt,Pv (i+1),fun ys' H' p'=>⟨x.cps.size - (i+1),by omega,rfl,hlt,p'⟩,fun v H' y=>?_⟩
  obtain⟨e,c,hc,rfl⟩:=y
  subst e
  exact hs i c ys _ hc p
 ·have e:i=x.cps.size:=by omega
  subst e
  exact .inl ⟨rfl,hd ys H p⟩
section
variable {X:Cx}
theorem qw: ∀ {bs:List Bool}{us:List GC},Vals (bs.map V.bl) us->LSm.BoolsAre us bs
 |[],_,.nil=>.nil
 |b::r,_,.cons h t=>by
  have h:_=GC.bool b:=h
  subst h
  exact .cons b (qw t)
theorem qm (hc:X.calm=true):CallR X (.builtin "all") (fun xs H Q=> ∃ (p:GH) (bs:List Bool),xs=[.ref p]/\SqL X.K H p (bs.map V.bl)/\Q (.bl (bs.all id)) H):=by
 intro pins s σ H xs us Q I r h
 obtain⟨p,bs,rfl,hq,q⟩:=h
 obtain⟨u,rfl,ru⟩:=Nd r
 cases ru
 obtain⟨its,rv,pl,hz⟩:=I.list hq
 have hb:=qw rv
 have hl:=pl.isList
 have hlt:p<s.heap.objs.size:=by obtain⟨_,e,_⟩:=hl;exact Dn e
 refine call_all_walk (wpAny_pyIter_list hl ?_)
 refine⟨s.heap.objs.size,[s.heap.objs.size,p],[s.heap.objs.size],its.toArray.size,_,_,fun i=>(bs[i]?).getD true,rfl,Walks.list (A:=X.A.in1) (I.ok.hd hc) _ p (Dw hlt) its.toArray,
  ⟨⟨_,D0 _ rfl,rfl,rfl⟩,hl.push _⟩,fun i v s' Q' E' hP hQ=>?_,fun h' tk hk=>?_⟩
 ·obtain⟨b,e,rfl⟩:=hb.get i v (by simpa using hP)
  simp only[e,FP] at hQ
  exact GT hQ
 ·have e:((List.range its.toArray.size).all fun i=>(bs[i]?).getD true)=bs.all id:=by
   rw[Du,hb.length];exact LSm.range_all bs
  rw[e]
  exact⟨.bl _,H,I.kept (t':=tk) (LSm.kept_iter hk),rfl,q⟩
theorem Mt:SlR X (fun x lo hi H Q=> ∃z,x=.str z/\z.length<=sizeLine/\Q (.str (StrLaws.sliceText z lo hi)) H):=by
 intro pins s σ H x v vl vu lo hi sl Q I rx hs pl pu h
 obtain⟨z,rfl,hz,q⟩:=h
 obtain⟨t,rfl⟩:=rx
 have part: ∀ {v:GC}{o:Option Int},IsPart v o-> ∃p:Option (Int×Tok),v=partValue p/\p.map (·.1)=o:=fun{v o} h=>by
  cases h with
  |none=>exact⟨none,rfl,rfl⟩
  |int i t=>exact⟨some (i,t),rfl,rfl⟩
 obtain⟨l,rfl,el⟩:=part pl
 obtain⟨u,rfl,eu⟩:=part pu
 refine⟨"str",_,slot_str_getitem.lookup,Hw s z t,?_⟩
 obtain⟨o,h1,h2,h3⟩:=hs
 refine wpAny_getItem_str_slice (l:=l) (u:=u) (st:=none) ⟨o,h1,h2,h3⟩ rfl ?_
 subst el eu
 unfold sliceMade slicePicked
 unfold StrLaws.sliceText at q
 simp only[Option.map_none,FG]
 split
 ·rename_i hc
  rw[if_pos hc] at q
  exact⟨.str z,H,I,⟨t,rfl⟩,q⟩
 ·rename_i hc
  rw[if_neg hc] at q
  refine⟨?_,.str _,H,I.tok _,⟨_,rfl⟩,q⟩
  show ((_:List Nat).toArray).size<=sizeLine
  rw[Du]
  exact Dy (F9 _ _) (Dy (sliceIndices_le _ _ _) hz)
theorem i9:CallR X (.type "int") (fun xs H Q=> ∃ (z:Str) (n:Int),xs=[.str z]/\PySem.intText? z=some n/\z.length<=640/\Q (.int n) H):=by
 intro pins s σ H xs us Q I r h
 obtain⟨z,n,rfl,hn,hl,q⟩:=h
 obtain⟨u,rfl,t,rfl⟩:=Nd r
 exact PySem.W.KIN.call_text hn hl ⟨.int n,H,I.tok _,⟨_,rfl⟩,q⟩
theorem oM:CallR X (.type "str") (fun xs H Q=> ∃ (z:Str),xs=[.str z]/\Q (.str z) H):=by
 intro pins s σ H xs us Q I r h
 obtain⟨z,rfl,q⟩:=h
 obtain⟨u,rfl,t,rfl⟩:=Nd r
 exact P.str_of_str ⟨.str z,H,I,⟨_,rfl⟩,q⟩
theorem Lg:OpR X (Hi .Mult) (fun x y H Q=> ∃ (z:Str) (n:Int),x=.str z/\y=.int n/\MulOk z n/\Q (.str (Txt.mul z n)) H):=by
 intro pins s σ H x y v u Q I rx ry h
 obtain⟨z,n,rfl,rfl,ho,q⟩:=h
 obtain⟨t,rfl⟩:=rx
 obtain⟨t',rfl⟩:=ry
 exact SB.mul ho fun t' k=>⟨.str _,H,I.tok k,⟨_,rfl⟩,q⟩
end
theorem rn (x:Str)(c:Nat):(!(GD.Str.occurrences x ⟨#[c]⟩ 0 x.length 1).isEmpty)=decide (c∈x.cps.toList):=StrLaws.found_one x c
def ji (X:Cx)(E:XK):Prop:= ∀ (pins:List (GH×GK)) (σ:St) (H:Hp) (s:GJ) (h':GG) (e:GH) (C:GC) (args:List GC),Inv X pins σ H s->FO s.heap h' e C args->E C none H->X.xe (.ref e) {s with heap:=h'}
theorem eC {P:GE}{w:GF}{K:PySem.W.Frag}{mg:Str->Option GC}{base:GG}{N:List Str}{qual:Str}{scope:GY}{f:GH}{cd:GC}{A:GL}{outer:List Env}{s:GJ}{H:Hp}{E:XK}:
 ji (IG (CXx P w) P w K mg base N qual scope f cd A outer s H E) E:=fun _ _ _ _ _ _ _ _ I hx hE=>nQ I hx hE
def zB (C:GC)(E:XK)(t:TA):TS:=fun _ σ H=>t σ H fun vs H1=>vs.length<=sizeLine/\E C none H1
abbrev Ip:List GC:=[.type "ValueError",.type "Exception",.type "BaseException",.type "object"]
section
variable {X:Cx}{C:GH}{E:XK}{x:Str}{np cpos pos:G1}{a:Expr}{es:List Expr}{t:TA}
theorem eS (hX:ji X E)(hc:X.calm=true)(hg:Gl X x)(hm:X.mg x=some (.ref C))(q:excIn X.K C Ip "ValueError.__new__"=true)(ha:PA X (a::es) t)
  (he:G4 (a::es) X.env=(false,G0 a X.env)::G4 es X.env:=by rfl)(hplain:(G3 cpos (G4 es X.env)).any (·.1)=false:=by rfl)(hd:(x==("__debug__":Str))=false:=by decide):
  PS X (.Raise (some (.Call (.Name x np) (a::es) [] cpos)) none pos) (zB (.ref C) E t):=by
 intro pins s σ H D I h
 unfold excIn at q
 split at q
 ·rename_i dd cd sl ho
  split at q
  ·rename_i C' bm k0 k1 k2 k3 n k5 hm' hs
   simp only[Dx,beq_iff_eq,Ga] at q
   obtain⟨⟨⟨⟨⟨rfl,rfl⟩,hdel⟩,ht⟩,hok⟩,hni⟩:=q
   obtain⟨nm,bs,mro,ns,qn,hd',sn,sub,ab,col,del⟩:=cd
   dsimp only at hm' hdel hok hni
   subst hm' hdel
   have hsl:sl= #[k0,k1,k2,k3,some (.builtin "ValueError.__new__"),k5]:=by
    obtain⟨l⟩:=sl
    simp only at hs
    rw[hs]
   subst hsl
   have obj: ∀ {hh:GG},X.K.In hh->_:=fun{hh} (XX:X.K.In hh)=>(⟨XX _ _ ho,PySem.Heap.Ns.of_isNs (PySem.W.isNs_of_in XX hok),PySem.W.nsMap_none_of_in XX hok hni,PySem.W.tail_of_in XX ht⟩:
    hh.get? C'=some (excClassObj nm qn C' ns bs bm hd' sn sub ab col dd k0 k1 k2 k3 k5 "ValueError.__new__")/\hh.Ns ns (hh.nsMap ns)/\hh.nsMap ns "__init__"=none/\OwnTail hh Ip bm)
   have o0:=obj I.ok.mod.kin
   refine wpAny_Raise_call_subT (C:=C') (nm:=nm) (q:=qn) (N:=ns) (bs:=bs) (bm:=bm) (hdct:=hd') (sn:=sn) (sub:=sub) (ab:=ab) (col:=col) (dd:=dd) (k0:=k0) (k1:=k1) (k2:=k2) (k3:=k3) (k5:=k5)
    F.excBase_ValueError (mN:=X.base.nsMap ns) (o0.2.2.2.hasType F.excBase_ValueError.hasBase) (I.ok.hd hc) (by rw[he];show (false||(G3 cpos (G4 es X.env)).any (·.1))=false;rw[hplain];rfl) o0.2.2.1 (gB I hg hm ⟨rfl,?_⟩ hd)
   rw[he]
   refine Calls.evalArgs_plain ?_
   have hq:=ha cpos pins s σ H _ I h
   rw[he] at hq
   refine thn hq fun us s2 qz=>?_
   obtain⟨vs,H1,I1,r1,z,q1⟩:=qz
   have kp: ∀b o,X.base.get? b=some o->s2.heap.get? b=some o:=I1.bk
   exact⟨rfl,by rw[<-r1.length];exact z,(obj I1.kIn).1,o0.2.1.keeps kp,(obj I1.kIn).2.2.2,fun h' e hx=>hX pins σ H1 s2 h' e _ _ I1 hx q1⟩
  ·cases q
 ·cases q
end
end
section
noncomputable def IR (ea:GH)(cls:GC):HO:=.ext fun h=> ∃o vs,h.get? ea=some o/\o.cls=cls/\o.data=.fields vs
theorem v4 {X:Cx}{pins:List (GH×GK)}{σ:St}{H1 H2:Hp}{s1 s':GJ}{B h5:GG}{ea:GH}{cls a0:GC}(I:Inv X pins σ H1 s1)(os:s'.os=s1.os)(bare:GZ s'.gens)
  (un:Un (frs X.stack) [] H1 H2 s1.heap s'.heap)(hok:HOk X.prog X.w H2 s'.heap)(fly:EE B X.stack ea cls a0 s'.heap)
  (cov: ∀b o,s'.heap.get? b=some o->b ∉ frs X.stack->(H2 b≠none\/ ∃o',s1.heap.get? b=some o')->B.get? b=some o)(new:s1.heap.get? ea=none)(hn:H2 ea=none)
  (fl5:EE B X.stack ea cls a0 h5)(up:s'.heap.UpToSlots h5):Inv X pins σ (upd H2 ea (IR ea cls)) {s' with heap:=h5}:=by
 have frN: ∀b,b∈frs X.stack->H2 b=none:=fun b hb=>by
  obtain⟨o,q,_⟩:=I.frame_obj hb
  exact un.free b o q (I.stkFree b hb) (by simp)
 have tr: ∀b u,H2 b=some u->b ∉ frs X.stack:=fun b u q z=>by rw[frN b z] at q;cases q
 have slotB: ∀b o,s'.heap.get? b=some o->b∈frs X.stack-> ∃sl,h5.get? b=some {o with slots:=sl}:=fun b o q hb=>by
  obtain⟨o',e',nd⟩:=(fly.2.2.1.mem hb).2
  rw[q] at e';cases e'
  exact up b o q nd
 have neE: ∀b o,s1.heap.get? b=some o->b≠ea:=fun b o q z=>by rw[z,new] at q;cases q
 have neT: ∀b u,H2 b=some u->b≠ea:=fun b u q z=>by rw[z,hn] at q;cases q
 refine I.call' (s':={s' with heap:=h5}) (ch:=[]) os ⟨fun b o q n hb hx=>?_,fun b o q n hb hx=>?_,fun b o q n hx=>?_,fun b o q hx=>?_,fun b xs q=>?_,fun b o u q=>?_,fun b ps q=>?_⟩ (fun b u q=>?_) bare (fun b z=>absurd z (by simp))
 ·exact fl5.1 b o (cov b o (un.keep b o q n hb hx) hb (.inr ⟨o,q⟩))
 ·obtain⟨sl,q1⟩:=un.slot b o q n hb hx
  obtain⟨sl2,q2⟩:=slotB b _ q1 hb
  exact⟨sl2,q2⟩
 ·rw[ap (neE b o q)];exact un.free b o q n hx
 ·obtain⟨o1,q1⟩:=un.there b o q hx
  by_cases hb:b∈frs X.stack
  ·obtain⟨sl,q2⟩:=slotB b _ q1 hb
   exact⟨_,q2⟩
  ·exact⟨o1,fl5.1 b o1 (cov b o1 q1 hb (.inr ⟨o,q⟩))⟩
 ·have z:=un.tups b xs q
  rw[ap (neT b _ z)];exact z
 ·have z:=un.frzs b o u q
  rw[ap (neT b _ z)];exact z
 ·obtain⟨m,z⟩:=un.tbls b ps q
  exact⟨m,by rw[ap (neT b _ z)];exact z⟩
 ·by_cases hb:b=ea
  ·subst hb
   rw[aC] at q
   cases q
   obtain⟨oe,vs,h1,h2,h3,_⟩:=fl5.first
   refine⟨⟨oe,vs,h1,h2,h3⟩,⟨oe,h1⟩,fun h1' h2' p k=>?_⟩
   obtain⟨o,vs,e1,e2,e3⟩:=p
   exact⟨o,vs,k o e1,e2,e3⟩
  ·rw[ap hb] at q
   refine (hok b u q).stay (fun c v hc r=>?_) (fun c r=>by rw[ap (neT c _ r)];exact r) fun c xs r=>by rw[ap (neT c _ r)];exact r
   have: ∃u,H2 c=some u:=by
    rcases hc with rfl|hc
    ·exact⟨u,q⟩
    ·exact⟨_,hc⟩
   obtain⟨u',qu⟩:=this
   exact fl5.1 c v (cov c v r (tr c u' qu) (.inl (by rw[qu];simp)))
noncomputable abbrev Na (X:Cx)(pn:List (GH×GK))(Z:St->XK):Cx:=
 {X with pn:=pn,xe:=fun e s'=> ∃ (pins:List (GH×GK)) (σ:St) (H:Hp) (s:GJ),Inv {X with pn:=pn} pins σ H s/\CXx X.prog X.w X.stack H s (Z σ) e s'}
noncomputable abbrev hW (X:Cx)(ea:GH):Cx:={X with A:=X.A.mark (some (.ref ea)),calm:=false,xe:=fun _ _=>False}
section
variable {X:Cx}{pins:List (GH×GK)}{σ:St}{H:Hp}{s:GJ}{pn:List (GH×GK)}{xe:GC->GJ->Prop}
theorem B3 (ok:X.Ok):Cx.Ok {X with pn:=pn,xe:=xe}:=
 ⟨ok.mod,ok.kind,ok.glob,ok.blt,ok.above,ok.inj,ok.has,ok.cab,ok.hd,ok.frames,ok.stk,ok.exf,ok.bs,ok.bsz,ok.noex,ok.exfs,ok.funs,ok.frf⟩
theorem Inv.toPn (I:Inv X pins σ H s):Inv {X with pn:=X.pn++pins,xe:=xe} [] σ H s:=
 ⟨B3 I.ok,I.os,I.bare,I.base,I.loc,I.cell,I.free,I.freeC,fun p hp=>I.pin p (by simpa using hp),I.hok,I.len⟩
theorem Inv.ofPn (ok:X.Ok){pl:List (GH×GK)}(J:Inv {X with pn:=X.pn++pins,xe:=xe} pl σ H s):Inv X pins σ H s:=
 ⟨ok,J.os,J.bare,J.base,J.loc,J.cell,J.free,J.freeC,fun p hp=>J.pin p (Eu _ hp),J.hok,J.len⟩
theorem vB {ea:GH}(ok:X.Ok):(hW X ea).Ok:=
 ⟨ok.mod,ok.kind,ok.glob,ok.blt,ok.above,ok.inj,ok.has,ok.cab,(fun z=>absurd z Ds),ok.frames,ok.stk,ok.exf,ok.bs,ok.bsz,ok.noex,ok.exfs,ok.funs,ok.frf⟩
theorem Inv.toSuite {ea:GH}(I:Inv X pins σ H s):Inv (hW X ea) pins σ H s:=⟨vB I.ok,I.os,I.bare,I.base,I.loc,I.cell,I.free,I.freeC,I.pin,I.hok,I.len⟩
theorem Inv.ofSuite {ea:GH}(ok:X.Ok)(I:Inv (hW X ea) pins σ H s):Inv X pins σ H s:=⟨ok,I.os,I.bare,I.base,I.loc,I.cell,I.free,I.freeC,I.pin,I.hok,I.len⟩
end
section
variable {X:Cx}{CX:CXT}{k:Nat}{f C:GH}{fd:Hn}{ps:List Str}{sp:Sp}{dvs:List V}{ds:List GC}{Z:St->XK}{x m:Str}{p pos apos:G1}{e o:Expr}{es:List Expr}{ta:TE}{t:TA}
def zH (sp:Sp)(dvs:List V)(Z:St->XK)(t:TA):TE:=fun σ H Q=>t σ H fun vs H1=>sp (vs++dvs) H1 Q (Z σ)
def oV (CX:CXT)(X:Cx)(Z:St->XK):Prop:= ∀ (pins:List (GH×GK)) (σ:St) (H:Hp) (s:GJ) (e:GC) (s':GJ),Inv X pins σ H s->CX X.stack H s (Z σ) e s'->X.xe e s'
theorem qX {pn:List (GH×GK)}:oV (CXx X.prog X.w) (Na X pn Z) Z:=fun pins σ H s e s' I h=>⟨pins,σ,H,s,⟨⟨I.ok.mod,I.ok.kind,I.ok.glob,I.ok.blt,I.ok.above,I.ok.inj,I.ok.has,I.ok.cab,I.ok.hd,I.ok.frames,I.ok.stk,I.ok.exf,I.ok.bs,I.ok.bsz,I.ok.noex,I.ok.exfs,I.ok.funs,I.ok.frf⟩,I.os,I.bare,I.base,I.loc,I.cell,I.free,I.freeC,I.pin,I.hok,I.len⟩,h⟩
theorem xx {pins:List (GH×GK)}{σ:St}{H:Hp}{s:GJ}{Q:VK}{us:List GC}{vs:List V}(F:FnOk X.prog X.w X.K X.mg X.base CX k f fd ps sp)(hr:Room k X.A)(hb:Binds X.K fd ps ds)(hd:Vals dvs ds)(hx:oV CX X Z)
  (I:Inv X pins σ H s)(r:Vals vs us)(h:sp (vs++dvs) H Q (Z σ)):GN (GO X.prog X.w) X.A (call (.ref f) us) (EP X pins σ Q) X.xe s:=by
 have r2:Vals (vs++dvs) (us++ds):=r.append hd
 have hl:(us++ds).length=ps.length:=by rw[<-r2.length];exact F.len _ _ _ _ h
 refine wpAny_call (Ho (F.run X.A X.stack s H ⟨us,[]⟩ (us++ds) (vs++dvs) Q (Z σ) hr I.env0 (hb s us I.kIn hl) r2 h) fun r s' hq=>?_)
 cases r with
 |error e=>exact hx pins σ H s e s' I hq
 |ok fl=>
  cases fl with
  |ret u=>exact I.after hq
  |next=>exact False.elim hq
  |brk=>exact False.elim hq
  |cont=>exact False.elim hq
theorem vh (F:FnOk X.prog X.w X.K X.mg X.base CX k f fd ps sp)(hr:Room k X.A)(hg:Gl X x)(hm:X.mg x=some (.ref f))(hk:Gz X.K (.ref f)=true)(hb:Binds X.K fd ps ds)(hd:Vals dvs ds)(hx:oV CX X Z)
  (ha:PA X (e::es) t)(hdb:(x==("__debug__":Str))=false:=by decide)(he:G4 (e::es) X.env=(false,G0 e X.env)::G4 es X.env:=by rfl)(hpl:(G3 pos (G4 es X.env)).any (·.1)=false:=by rfl):
  PE X (.Call (.Name x p) (e::es) [] pos) (zH sp dvs Z t):=by
 intro pins s σ H Q I h
 refine Hq (gB I hg hm ?_ hdb)
 refine PySem.W.callWith_K (h₀:=X.base) I.ok.mod.kin hk (thn (ha pos pins s σ H _ I h) fun us s1 ⟨vs,H1,I1,r,q⟩=>⟨I1.kIn,?_⟩) he hpl
 exact xx F hr hb hd hx I1 r q
end
section
variable {X:Cx}{x:Str}{C:GC}{body suite:List G5}{b0:G5}{np hpos pos:G1}{tb:(St->XK)->TS}{ts:TS}
end
section
variable {P:GE}{w:GF}{K:PySem.W.Frag}{mg:Str->Option GC}{base:GG}
theorem Fun.okX {x qual:Str}{st:G5}{f:GH}{fd:Hn}{N ps:List Str}{k:Nat}{sp:Sp}(F:Fun K x qual st f fd)(S:HW N ps (ae st))(len: ∀vs H Q E,sp vs H Q E->vs.length=ps.length)
  (hbody: ∀ (cdv:GC) (A:GL) (outer:List Env) (s:GJ) (H:Hp) (vs:List V) (Q:VK) (E:XK),Room k (A.deeper (Ht qual (ae st) s.heap.objs.size f cdv))->sp vs H Q E->
   ∃t,PSs (IG (CXx P w) P w K mg base N qual (ae st) f cdv A outer s H E) (br st) t/\t {nx:=fun _ H'=>Q .non H',rt:=Q} (MI N vs) H):FnOk P w K mg base (CXx P w) (k+1) f fd ps sp:=by
 obtain⟨oc,od,kV,doc,pm,an,cdv,ct,osl,rfl,lk,hcd⟩:=F.ex
 exact zi lk hcd S len fun A outer s H vs Q E hr hsp=>hbody cdv A outer s H vs Q E hr hsp
end
end
section
section
variable {X:Cx}
end
end
section
section
variable {X:Cx}
end
def Ite (K:PySem.W.Frag)(a:GH):It:=
 ⟨fun i H=> ∃xs x,SqL K H a xs/\xs[i]?=some x,fun i H v H'=> ∃T x,H T=none/\v=.ref T/\(∀xs,SqL K H a xs->xs[i]?=some x)/\H'=upd H T (.tup [.int i,x]),fun i H=> ∃xs,SqL K H a xs/\xs.length=i⟩
theorem sS {P:GE}{w:GF}{K:PySem.W.Frag}{elts:List Expr}{x1}{tpos:G1}(a e it:GH)(hei:e≠it):Ij P w K (.Tuple elts x1 tpos) (Ite K a) [e,it] e (fun i h=>(∃old,IsEnum h e it i old)/\h.IsListIter it a i) where
 mem:=by simp
 obj:=fun i h st b hb=>by
  obtain⟨⟨old,he⟩,st⟩:=st
  rcases Dp.mp hb with rfl|hb
  ·exact⟨_,he,fun v z=>by cases z⟩
  ·have e':b=it:=by simpa using hb
   subst e'
   obtain⟨o,e,c,d⟩:=st
   exact⟨o,e,fun v z=>by rw[d] at z;cases z⟩
 keep:=fun i h h' st k=>⟨let ⟨old,he⟩:=st.1;⟨old,k e (by simp) _ he⟩,st.2.at fun o e=>k it (by simp) o e⟩
 item:=by
  intro X hP hw hK hc i pins s σ H E I hf st hg
  subst hP hw hK
  obtain⟨⟨old,he⟩,st⟩:=st
  obtain⟨xs,x,hq,hx⟩:=hg
  obtain⟨its,rv,p,hz⟩:=I.list hq
  obtain⟨u,hu,ru⟩:=rv.get hx
  have fe:=hf e (by simp)
  have fi:=hf it (by simp)
  obtain⟨oi,hoi,hoc,hod⟩:=id st
  have nai:a≠it:=fun z=>by
   obtain⟨o,h1,h2,_⟩:=p.isList
   rw[z,hoi] at h1
   cases h1
   rw[hoc] at h2
   exact absurd h2 (by decide)
  have nae:e≠a:=fun z=>by
   obtain⟨o,h1,h2,_⟩:=p.isList
   rw[<-z,show s.heap.get? e=_ from he] at h1
   cases h1
   exact absurd (show GC.type "enumerate"=GC.type "list" from h2) (by decide)
  have D:=Draws.list (prog:=X.prog) (w:=X.w) (A:=X.A.in1) (I.ok.hd hc) it a nai its.toArray
  refine wpAny_pyNext_enum_itemD D he ⟨st,p.isList⟩ (by
   have:=DK.mp hu
   obtain⟨z,_⟩:=this
   simpa using z) hei (by simp [hei,nae]) fun v h' tk hP hout hst hT hsz hk=>?_
  have hv:v=u:=by
   have hP:its.toArray[i]?=some v:=hP
   rw[Gb,hu] at hP
   exact (Option.some.inj hP).symm
  subst hv
  have nT:H s.heap.objs.size=none:=I.hok.fresh (Dl _)
  have lt: ∀b o,s.heap.get? b=some o->b≠s.heap.objs.size:=fun b o q=>Dw (Dn q)
  have ltH: ∀b o,H b=some o->b≠s.heap.objs.size:=fun b o q z=>by rw[z,nT] at q;cases q
  have neH: ∀b o,H b=some o->b≠e/\b≠it:=fun b o q=>⟨fun z=>by (rw[z,fe.1] at q;cases q),fun z=>by (rw[z,fi.1] at q;cases q)⟩
  have I1:Inv X pins σ (upd H s.heap.objs.size (.tup [.int i,x])) {s with heap:=h',toks:=tk+1}:=by
   refine I.call' (s':={s with heap:=h',toks:=tk+1}) (ch:=[e,it]) rfl ⟨fun b o q n hb hx=>?_,fun b o q n hb hx=>?_,fun b o q n hx=>?_,fun b o q hx=>?_,fun b xs q=>?_,fun b o u q=>?_,fun b ps q=>?_⟩ (fun b o q=>?_) I.bare fun b hb=>?_
   ·exact hk b o (fun z=>hx (by simp [z])) (fun z=>hx (by simp [z])) q
   ·exact⟨o.slots,hk b o (fun z=>hx (by simp [z])) (fun z=>hx (by simp [z])) q⟩
   ·rw[ap (lt b o q)];exact n
   ·exact⟨o,hk b o (fun z=>hx (by simp [z])) (fun z=>hx (by simp [z])) q⟩
   ·rw[ap (ltH b _ q)];exact q
   ·rw[ap (ltH b _ q)];exact q
   ·exact⟨#[],by rw[ap (ltH b _ q),q];simp⟩
   ·by_cases hb:b=s.heap.objs.size
    ·subst hb
     rw[aC] at q
     cases q
     exact⟨by show 2<=sizeLine;decide,_,.cons ⟨tk,rfl⟩ (.cons ru .nil),⟨_,hT,rfl,_,rfl⟩,_,hT,rfl⟩
    ·rw[ap hb] at q
     refine (I.hok b o q).stay (fun c v hc r=>?_) (fun c r=>by rw[ap (ltH c _ r)];exact r) fun c xs r=>by rw[ap (ltH c _ r)];exact r
     have: ∃o,H c=some o:=by
      rcases hc with rfl|hc
      ·exact⟨o,q⟩
      ·exact⟨_,hc⟩
     obtain⟨o',qo⟩:=this
     exact hk c v (neH c o' qo).1 (neH c o' qo).2 r
   ·have fb:HX X pins H b:=by
     rcases Dp.mp hb with rfl|hb
     ·exact fe
     ·have e':b=it:=by simpa using hb
      subst e';exact fi
    exact⟨fb.2.2.2.1,fb.2.1,fb.2.2.2.2.1,fb.2.2.2.2.2⟩
  refine⟨_,rfl,wpAny_letOwnedTupleGo_enum (s:={s with heap:=h',toks:=tk+1}) hout fun h2 he2 hs2=>?_⟩
  have neT: ∀b∈[e,it],b≠s.heap.objs.size:=fun b hb=>by
   rcases Dp.mp hb with rfl|hb
   ·exact lt _ _ he
   ·have e':b=it:=by simpa using hb
    subst e';exact lt _ _ hoi
  have fe':(upd H s.heap.objs.size (.tup [.int i,x])) e=none:=by rw[ap (neT e (by simp))];exact fe.1
  refine⟨.ref s.heap.objs.size,upd H s.heap.objs.size (.tup [.int i,x]),?_,rfl,⟨s.heap.objs.size,x,nT,rfl,fun ys hy=>by rw[I.list_inj hy hq];exact hx,rfl⟩,⟨⟨_,by simpa using he2⟩,hst.1.at fun o eo=>(hs2.2 it (Ne.symm hei)).trans eo⟩,fun b hb=>?_⟩
  ·exact I1.turned (t':=tk+1) (fun b o hb eo=>(hs2.2 b hb).trans eo) fe' fe.2.1 fe.2.2.2.1 fe.2.2.2.2.1 fe.2.2.2.2.2
  ·rw[ap (neT b hb)]
   exact (hf b hb).1
 done:=by
  intro X hP hw hK hc i pins s σ H E I hf st hg
  subst hP hw hK
  obtain⟨⟨old,he⟩,st⟩:=st
  obtain⟨xs,hq,hx⟩:=hg
  obtain⟨its,rv,p,hz⟩:=I.list hq
  have fi:=hf it (by simp)
  obtain⟨oi,hoi,hoc,hod⟩:=id st
  have nai:a≠it:=fun z=>by
   obtain⟨o,h1,h2,_⟩:=p.isList
   rw[z,hoi] at h1
   cases h1
   rw[hoc] at h2
   exact absurd h2 (by decide)
  have D:=Draws.list (prog:=X.prog) (w:=X.w) (A:=X.A.in1) (I.ok.hd hc) it a nai its.toArray
  have ei:i=its.toArray.size:=by rw[Du,<-rv.length];exact hx.symm
  refine wpAny_pyNext_enum_endD D he (by rw[<-ei];exact⟨st,p.isList⟩) fun h' eb=>⟨rfl,I.turned (t':=s.toks) (fun b o hb e=>eb b o hb e) fi.1 fi.2.1 fi.2.2.2.1 fi.2.2.2.2.1 fi.2.2.2.2.2⟩
 self:=fun _ _ _ _ _ st h=>let ⟨_,he⟩:=st.1;wpAny_pyIter_enum he h
section
variable {X:Cx}
def iEnum (K:PySem.W.Frag)(ta:TA):TI:=fun σ H R=>ta σ H fun vs H1=> ∃a,vs=[.ref a]/\(∃xs,SqL K H1 a xs)/\R (Ite K a) H1
theorem xH {a:Expr}{ta:TA}{p pos:G1}{elts:List Expr}{x1}{tpos:G1}(hg:Gl X "enumerate")(hm:X.mg "enumerate"=none)(ha:PA X [a] ta)(hs:G4 [a] X.env=[(false,G0 a X.env)]:=by rfl):PI X (.Tuple elts x1 tpos) (.Call (.Name "enumerate" p) [a] [] pos) (iEnum X.K ta):=by
 intro pins s σ H R I h
 refine Call_ (kW I hg hm boot_enumerate (PyProof.Rows.callWith_type1 (thn (ha pos pins s σ H _ I h) fun us s1 qz=>?_) hs rfl))
 obtain⟨vs,H1,I1,r1,q1⟩:=qz
 obtain⟨b,e,⟨xs,hq⟩,q⟩:=q1
 subst e
 cases r1 with
 |cons r rr=>
  cases rr
  cases r
  obtain⟨its,rv,pl,hz⟩:=I1.list hq
  refine call_enumerate_list pl.isList fun h' he hi hsz hk=>?_
  refine wpAny_pyIter_enum he ?_
  have I2:Inv X pins σ H1 {s1 with heap:=h'}:=I1.kept (t':=s1.toks) hk
  refine⟨s1.heap.objs.size+1,[s1.heap.objs.size+1,s1.heap.objs.size],_,_,H1,rfl,I2,sS b _ _ (by simp),⟨⟨_,he⟩,hi⟩,fun c hc=>?_,q⟩
  have hc':s1.heap.objs.size<=c:=by
   rcases Dp.mp hc with rfl|hc
   ·exact Fe _
   ·have:c=s1.heap.objs.size:=by simpa using hc
    exact ER this.symm
  exact I1.fpOk hc' (I1.hok.fresh hc')
end
end
end L2
namespace L2
open PySem PySem.Spec PyProof.Rows PySem.W
structure HV (K:PySem.W.Frag)(C:GH):Prop where
 ga:findIn K (.ref C) "__getattribute__"=some (some (.builtin "BaseException.__getattribute__"))
 gn:findIn K (.ref C) "__getattr__"=some none
 cl:findIn K (.ref C) "__class__"=some (some (.builtin "object.__class__"))
 sb:subIn K (.ref C) (.type "BaseException")=some true
 so:subIn K (.ref C) (.type "object")=some true
 ic:(clsIn K C).isSome=true
section
variable {prog:GE}{w:GF}{A:GL}{E:GC->GJ->Prop}{h:GG}{g:Array GenState}{d:Drawn}{t:Nat}{os:OsState}{a C:GH}{o:GK}{K:PySem.W.Frag}
theorem lX {R:Result->GJ->Prop}(X:K.In h)(T:HV K C)(hx:h.get? a=some o)(hc:o.cls=.ref C)(hq:R (.ok (.ret (.ref C))) ⟨h,g,d,t,os⟩):
  codeAny (GO prog w) A (.call (.builtin "getset_descriptor.__get__") ⟨[.builtin "object.__class__",.ref a,.ref C],[]⟩) R ⟨h,g,d,t,os⟩:=by
 have hT5:(⟨h,g,d,t,os⟩:GJ).TypeIs (.builtin "object.__class__") "getset_descriptor":=F.typeOf_object_class
 have f8: ∀M:Model,Looks M h (isSubtype (.ref C) (.type (".".intercalate ("object.__class__".cutAt '.').dropLast))) true:=fun M=>by rw[F.owner_object_class];exact looks_subIn X T.so
 refine codeAny_call_builtin F.slot_gs_get.plain F.entry_gs_get (F.slot_gs_get.check _ _ _ _ _ _ _ _ hT5 (F.args_gs_get _ _ _) ?_)
 repeat (any_goals (first|assumption|(with_reducible refine wpAny_loadPart_at hx ?_;rw[hc])|with_reducible refine (f8 _).at ?_|wp_step))
 refine⟨Code.quiet_builtin _ (by decide+kernel),codeAny_builtin F.entry_object_class ?_⟩
 repeat (any_goals (first|assumption|(with_reducible refine wpAny_loadPart_at hx ?_;rw[hc])|wp_step))
theorem jP {tk:Tok}{Q:Fin->GJ->Prop}(X:K.In h)(T:HV K C)(hx:h.get? a=some o)(hc:o.cls=.ref C)(hq:Q (.done (.ret (.ref C))) ⟨h,g,d,t,os⟩):
  GN (GO prog w) A (GD.«object.__getattribute__» ⟨[.ref a,.str "__class__" tk],[]⟩) Q E ⟨h,g,d,t,os⟩:=by
 have hT5:(⟨h,g,d,t,os⟩:GJ).TypeIs (.builtin "object.__class__") "getset_descriptor":=F.typeOf_object_class
 have f4: ∀M:Model,Looks M h (typeLookup (.ref C) "__class__") (some (.builtin "object.__class__")):=fun M=>looks_findIn X T.cl
 have f5:=F.typeOf_object_class
 have f6:=F.slot_gs_get.lookup
 have f7:=F.slot_gs_set.lookup
 repeat (any_goals (first|assumption|(with_reducible refine wpAny_loadPart_at hx ?_;rw[hc])|with_reducible refine (f4 _).at ?_|wp_step))
 refine lX X T hx hc ?_
 repeat (any_goals (first|assumption|wp_step))
theorem oJ {M:Model}{nameV:GC}{Q:Unit->GJ->Prop}(X:K.In h)(T:HV K C)(hx:h.get? a=some o)(hc:o.cls=.ref C)(hq:Q () ⟨h,g,d,t,os⟩):GN M A (checkBuiltinCall "BaseException.__getattribute__" ⟨[.ref a,nameV],[]⟩) Q E ⟨h,g,d,t,os⟩:=by
 have hk:builtinKind "BaseException.__getattribute__"=some .slot:=by decide+kernel
 have hsplit:splitId "BaseException.__getattribute__"=some ("BaseException", "__getattribute__"):=by decide+kernel
 have f8: ∀M:Model,Looks M h (isSubtype (.ref C) (.type "BaseException")) true:=fun M=>looks_subIn X T.sb
 have ha:=F.args_bexc_ga (.ref a) nameV
 simp only[checkBuiltinCall,hk,hsplit]
 refine GP ?_
 ·unfold isInstance
  repeat (first|(with_reducible refine wpAny_loadPart_at hx ?_;rw[hc])|with_reducible refine (f8 _).at ?_|wp_step)
  exact hq
theorem lx {tk:Tok}{R:Result->GJ->Prop}(X:K.In h)(T:HV K C)(hx:h.get? a=some o)(hc:o.cls=.ref C)(hq:R (.ok (.ret (.ref C))) ⟨h,g,d,t,os⟩):
  codeAny (GO prog w) A (.call (.builtin "BaseException.__getattribute__") ⟨[.ref a,.str "__class__" tk],[]⟩) R ⟨h,g,d,t,os⟩:=
 codeAny_call_builtin (by decide+kernel) F.entry_bexc_ga (oJ X T hx hc (jP X T hx hc hq))
theorem oI {tk:Tok}{Q:GC->GJ->Prop}(X:K.In h)(T:HV K C)(hx:h.get? a=some o)(hc:o.cls=.ref C)(hq:Q (.ref C) ⟨h,g,d,t,os⟩):
  GN (GO prog w) A (getAttrBy (.ref a) (.str "__class__" tk) false) Q E ⟨h,g,d,t,os⟩:=by
 have f3:=F.attrBase_ValueError.ga.bind (.ref a)
 have hx2:(GC.builtin "BaseException.__getattribute__"==GC.builtin "object.__getattribute__")=false:=by decide+kernel
 have hx1:(onTheHeap (GC.ref C) && GC.builtin "BaseException.__getattribute__"==GC.builtin "object.__getattribute__")=false:=by rw[hx2];rfl
 have f4: ∀M:Model,Looks M h (typeLookup (.ref C) "__getattribute__") (some (.builtin "BaseException.__getattribute__")):=fun M=>looks_findIn X T.ga
 have f5: ∀M:Model,Looks M h (typeLookup (.ref C) "__getattr__") none:=fun M=>looks_findIn X T.gn
 repeat (any_goals (first|assumption|(with_reducible refine wpAny_loadPart_at hx ?_;rw[hc])|with_reducible refine (f4 _).at ?_|with_reducible refine (f5 _).at ?_|wp_step))
 refine lx X T hx hc ?_
 repeat (any_goals (first|assumption|wp_step))
theorem ly {Q:Option GC->GJ->Prop}(X:K.In h)(T:HV K C)(hx:h.get? a=some o)(hc:o.cls=.ref C)(hq:Q (some (.ref C)) ⟨h,g,d,t+1,os⟩):GN (GO prog w) A (getAttr? (.ref a) "__class__") Q E ⟨h,g,d,t,os⟩:=by
 unfold getAttr? getAttrBy?
 repeat (any_goals (first|assumption|with_reducible apply oI X T hx hc|wp_step))
theorem v5 (T:HV K C):KitX K (.ref a) (.ref C) (fun h=> ∃o,h.get? a=some o/\o.cls=.ref C) where
 ty:=fun _ _ _ ⟨o,h1,h2⟩=>h2▸(Looks.ld h1).andThen .now
 it:=fun _ _ X _=>by
  have hcD:=T.ic
  unfold clsIn at hcD
  split at hcD
  ·rename_i c' d' cd' sl' ho
   intro A' Q' E' s' k q
   unfold isType loadHead
   exact GP (wpAny_loadPart (k _ _ (X _ _ ho)) (GQ q))
  ·cases hcD
 ne:=fun h tp dd its n sl X htp=>by
  have hcD:=T.ic
  refine Et.mpr fun q=>?_
  have e:C=tp:=GC.ref.inj (beq_iff_eq.mp q)
  subst e
  unfold clsIn at hcD
  split at hcD
  ·rename_i c' d' cd' sl' ho
   have z:=(X _ _ ho).symm.trans htp
   cases z
  ·cases hcD
 ca:=fun{_ _ _ _ _ s} X ⟨o,h1,h2⟩ k=>by
  obtain⟨h,g,d,t,os⟩:=s
  exact ly X T h1 h2 k
end
section
variable {X:Cx}
theorem oO:CallR X (.builtin "isinstance") (fun xs H Q=> ∃ (a C:GH) (c:V) (cv:GC) (b:Bool),xs=[.ref a,c]/\RelV c cv/\H a=some (IR a (.ref C))/\HV X.K C/\kitOne X.K (.ref C) cv=some b/\Q (.bl b) H):=by
 intro pins s σ H xs us Q I r h
 obtain⟨a,C,c,cv,b,rfl,rc,ha,T,e,q⟩:=h
 obtain⟨u,u',rfl,ru,ru'⟩:=Nf r
 cases ru
 have:u'=cv:=by
  cases c with
  |ref a=>cases rc;cases ru';rfl
  |ty n=>cases rc;cases ru';rfl
  |non=>cases rc;cases ru';rfl
  |bl _=>cases rc;cases ru';rfl
  |int _=>obtain⟨t1,rfl⟩:=rc;exact absurd e (by simp [kitOne,PySem.W.kitCls])
  |str _=>obtain⟨t1,rfl⟩:=rc;exact absurd e (by simp [kitOne,PySem.W.kitCls])
  |byt _=>obtain⟨t1,rfl⟩:=rc;exact absurd e (by simp [kitOne,PySem.W.kitCls])
  |flt _=>obtain⟨t1,rfl⟩:=rc;exact absurd e (by simp [kitOne,PySem.W.kitCls])
 subst this
 obtain⟨⟨o,vs,h1,h2,_⟩,_⟩:=I.hok a _ ha
 exact PySem.W.kia_one (v5 T) I.kIn ⟨o,h1,h2⟩ e (fun z=>nomatch z) fun tk=>⟨.bl b,H,I.tok tk,rfl,q⟩
end
section
section
variable {X:Cx}{pins:List (GH×GK)}{σ:St}{H:Hp}{s:GJ}
theorem j6 {M:Model}{A:GL}{E:GC->GJ->Prop}{i:Nat}{x:Str}{pos:G1}{Q:Unit->GJ->Prop}(I:Inv X pins σ H s)(hN:X.N.Nodup)(hi:X.N[i]?=some x)(hk:X.env.kindOf x=some .local)
  (h:∀s',Inv X pins (σ.set i none) H s'->Q () s'):GN M A (do bindName X.env x .none;unbindBehindTheSuite X.env x pos) Q E s:=by
 obtain⟨m,hn,hl⟩:=id I.loc
 have hcls:(X.env.scope.kind==.class||(X.env.scope.kind==.module && X.env.locals !=X.env.globals))=false:=by rw[I.ok.kind];rfl
 have cne:=I.cne
 have hiσ:i<σ.length:=by rw[I.len];exact (DK.mp hi).1
 have tracked: ∀ {a:GH}{h':GG},(∃o,s.heap.get? a=some o/\H a=none)->En a s.heap h'->HOk X.prog X.w H h':=fun{a h'} ha hs b ob e=>by
  obtain⟨_,_,hfree⟩:=ha
  refine (I.hok b ob e).stay (fun c w' hc q=>(hs.2 c ?_).trans q) (fun _ q=>q) fun _ _ q=>q
  rintro rfl
  rcases hc with rfl|hc
  ·rw[hfree] at e;cases e
  ·rw[hfree] at hc;cases hc
 refine wpAny_nameGoes_keeps hk hn hcls fun h' v hn' hs=>?_
 obtain⟨oL,_,_,hoL,_⟩:=id hn
 refine h _ ⟨I.ok,I.os,I.bare,⟨fun b o e n hb hx=>?_,fun b o e n hb hx=>?_,I.base.free,fun b o e hx=>?_,I.base.tups,I.base.frzs,I.base.tbls⟩,⟨_,hn',fun j y v' e1 e2 e3=>?_⟩,fun y c e=>?_,I.free,I.freeC,fun p hp=>?_,tracked ⟨oL,hoL,I.free⟩ hs,by simpa using I.len⟩
 ·exact (hs.2 b (Dw (Dv (Dn e) I.ok.above))).trans (I.base.keep b o e n hb hx)
 ·obtain⟨sl,e1⟩:=I.base.slot b o e n hb hx
  exact⟨sl,(hs.2 b (Dw (Dv (Dn e) I.ok.above))).trans e1⟩
 ·obtain⟨o',e1⟩:=I.base.there b o e hx
  exact⟨o',(hs.2 b (Dw (Dv (Dn e) I.ok.above))).trans e1⟩
 ·by_cases hj:j=i
  ·subst hj
   rw[Eo hiσ] at e2
   cases e2
  ·rw[Do (Ne.symm hj)] at e2
   obtain⟨u',r',q⟩:=hl j y v' e1 e2 e3
   refine⟨u',r',?_⟩
   rcases q with⟨k,e⟩|⟨k,c,e,z⟩
   ·refine .inl ⟨k,?_⟩
    have:y≠x:=fun e=>hj (kN hN e1 (e▸hi))
    simp [this,e]
   ·exact .inr ⟨k,c,e,z.sameBut hs (cne y c e)⟩
 ·obtain⟨w',z⟩:=I.cell y c e
  exact⟨w',z.sameBut hs (cne y c e)⟩
 ·obtain⟨e,n,ne,nf,d⟩:=I.pin p hp
  exact⟨(hs.2 p.1 ne).trans e,n,ne,nf,d⟩
end
def zy (K:PySem.W.Frag)(C:GC)(i:Nat)(tb:(St->XK)->TS)(ts:TS):TS:=fun D σ H=>
 tb (fun σ' cls _ H'=>PySem.W.exmOne K cls C=some true/\ ∀ea,H' ea=none->ts {nx:=fun σ2 H2=>D.nx (σ2.set i none) H2,rt:=D.rt,bk:=fun σ2 H2=>D.bk (σ2.set i none) H2,ct:=fun σ2 H2=>D.ct (σ2.set i none) H2} (σ'.set i (some (.ref ea))) (upd H' ea (IR ea cls))) D σ H
section
variable {X:Cx}{x n:Str}{C:GC}{body suite:List G5}{b0:G5}{np hpos pos:G1}{tb:(St->XK)->TS}{ts:TS}{i:Nat}
theorem uX (D:InDef X)(hg:Gl X x)(hm:X.mg x=some C)(hN:X.N.Nodup)(hi:X.N[i]?=some n)(hk:X.env.kindOf n=some .local)(hb: ∀pn Z,PSs (Na X pn Z) body (tb Z))(hs: ∀ea,PSs (hW X ea) (b0::suite) ts)(hd:(x==("__debug__":Str))=false:=by decide):
  PS X (.Try body [.ExceptHandler (some (.Name x np)) (some n) (b0::suite) hpos] [] [] pos) (zy X.K C i tb ts):=by
 intro pins s σ H DD I h
 refine wpAny_Try_except (G6 (hb (X.pn++pins) _ [] s σ H DD I.toPn h) (fun f s1 q=>?_) fun e s1 q=>?_)
 ·cases f with
  |next=>obtain⟨σ',H',J,q⟩:=q;exact Hb ⟨σ',H',J.ofPn I.ok,q⟩
  |brk=>obtain⟨σ',H',J,q⟩:=q;exact⟨σ',H',J.ofPn I.ok,q⟩
  |cont=>obtain⟨σ',H',J,q⟩:=q;exact⟨σ',H',J.ofPn I.ok,q⟩
  |ret u=>obtain⟨v,σ',H',J,r,q⟩:=q;exact⟨v,σ',H',J.ofPn I.ok,r,q⟩
 ·obtain⟨pins',σ1,H1,s0,J0,hc⟩:=q
  have J:Inv X pins σ1 H1 s0:=J0.ofPn (xe:=X.xe) I.ok
  obtain⟨ea,cls,a0,H2,B,rfl,os,bare,un,hok,fly,cov,new,hn,hx,hE⟩:=hc
  have frm:=J.ok.frames
  have fly':=fly
  rw[D.stk] at frm fly'
  refine wpAny_looks_onW frm D.fr fly' fun h4 held4 up4=>?_
  refine wpAny_landsW held4 fun h5 fl5' up5=>?_
  have fl5:EE B X.stack ea cls a0 h5:=by rw[D.stk];exact fl5'
  have L5:=v4 J os bare un hok fly cov new hn fl5 (up4.trans up5)
  have L5s:=L5.toSuite (ea:=ea)
  obtain⟨oe,vs,e1,e2,e3,_⟩:=fl5.first
  have LT:PySem.W.Looks (GO X.prog X.w) h5 (typeOf (.ref ea)) cls:=e2▸(PySem.W.Looks.ld e1).andThen .now
  refine wpAny_handleBy_cons (codeAny_handlers_test (gB (X:=hW X ea) L5s hg hm ?_ hd)) (by intro q;cases q)
  refine (PySem.W.exm_one L5.kIn LT hx).here ?_
  refine codeAny_handlers_suite_as ?_
  refine lands_againW fl5 fun h6 fl6 up6=>?_
  have L6:=v4 J os bare un hok fly cov new hn fl6 ((up4.trans up5).trans up6)
  refine kl (X:=hW X ea) (v:=.ref ea) L6.toSuite hN hi (.inl hk) rfl (fun s6 I6=>?_) (.inr hk)
  refine G6 (hs ea pins s6 (σ1.set i (some (.ref ea))) _ {nx:=fun σ2 H2=>DD.nx (σ2.set i none) H2,rt:=DD.rt,bk:=fun σ2 H2=>DD.bk (σ2.set i none) H2,ct:=fun σ2 H2=>DD.ct (σ2.set i none) H2} I6 (hE ea hn)) (fun f s7 q=>?_) (fun _ _ z=>z.elim)
  cases f with
  |next=>obtain⟨σ',H',J',q⟩:=q;exact j6 (J'.ofSuite I.ok) hN hi hk fun s8 J8=>⟨_,H',J8,q⟩
  |brk=>obtain⟨σ',H',J',q⟩:=q;exact j6 (J'.ofSuite I.ok) hN hi hk fun s8 J8=>⟨_,H',J8,q⟩
  |cont=>obtain⟨σ',H',J',q⟩:=q;exact j6 (J'.ofSuite I.ok) hN hi hk fun s8 J8=>⟨_,H',J8,q⟩
  |ret u=>obtain⟨v,σ',H',J',r,q⟩:=q;exact j6 (J'.ofSuite I.ok) hN hi hk fun s8 J8=>⟨v,_,H',J8,r,q⟩
end
end
end L2
namespace L2
open PySem PySem.Spec PyProof.Rows
theorem rN: ∀ {ts:List Str}{us:List GC},Vals (ts.map V.str) us-> ∃l:List (Str×Tok),us=strValues l/\l.map (·.1)=ts
 |[],_,.nil=>⟨[],rfl,rfl⟩
 |t::ts,_,.cons h r=>by
  obtain⟨k,rfl⟩:=h
  obtain⟨l,e,e2⟩:=rN r
  exact⟨(t,k)::l,by rw[e];rfl,by rw[<-e2];rfl⟩
theorem sQ (a b:Str):(a++b).length=a.length+b.length:=by
 show (a.cps++b.cps).size=_
 rw[Gd];rfl
theorem kZ (sep:Str): ∀ (ts:List Str),(Str.join sep ts).length<=(ts.map (·.length)).sum+ts.length * sep.length
 |[]=>DB _
 |[x]=>by
  show x.length<=_
  simp
 |x::y::r=>by
  show (x++sep++Str.join sep (y::r)).length<=_
  have ih:=kZ sep (y::r)
  rw[sQ,sQ,Dj,Ey,Di]
  have:((y::r).length+1) * sep.length=(y::r).length * sep.length+sep.length:=by rw[Nat.succ_mul]
  omega
section
variable {X:Cx}
def rJoin (K:PySem.W.Frag):V->List V->Hp->VK->Prop:=fun x vs H Q=> ∃ (sep:Str) (p:GH) (ts:List Str),x=.str sep/\vs=[.ref p]/\SqL K H p (ts.map V.str)/\(ts.map (·.length)).sum+ts.length * sep.length<=sizeLine/\Q (.str (Str.join sep ts)) H
theorem yb:MtM X "str.join" (rJoin X.K):=by
 intro pins s σ H x vs v us Q I rx rv h
 obtain⟨sep,p,ts,rfl,rfl,hq,hz,q⟩:=h
 obtain⟨t,rfl⟩:=rx
 obtain⟨u,rfl,ru⟩:=rv.one
 cases ru
 obtain⟨its,r,pl,_⟩:=I.list hq
 obtain⟨l,rfl,rfl⟩:=rN r
 refine Hz F.slot_str_join (Hw s sep t) F.entry_str_join (F.args_str_join_2 _ _) (meets_str_join_list sep t p l (by
  rw[StrLaws.joinTotal]
  unfold GD.Str.tooLong
  exact decide_eq_false (by omega))) ⟨pl.isList,?_⟩
 cases l with
 |nil=>exact⟨by rw[StrLaws.glued_eq_join];exact Dy (kZ sep _) hz,.str _,H,I.tok _,⟨_,by rw[StrLaws.glued_eq_join]⟩,q⟩
 |cons a l=>
  cases l with
  |nil=>exact⟨.str a.1,H,I,⟨a.2,rfl⟩,q⟩
  |cons b l=>exact⟨by rw[StrLaws.glued_eq_join];exact Dy (kZ sep _) hz,.str _,H,I.tok _,⟨_,by rw[StrLaws.glued_eq_join]⟩,q⟩
end
section
variable {X:Cx}
end
end L2
namespace L2
open PySem
theorem Af {P:GE}{w:GF}{X:Cx}:b7 (CXx P w) X (fun _ _ _=>False):=fun pins σ H s e s' I h=>by
 obtain⟨_,_,_,_,_,_,_,_,_,_,_,_,_,_,z⟩:=h
 exact z.elim
end L2
namespace L2
open PySem PySem.Spec PyProof.Rows
open Sem (wp)
open Builtin
section
variable {prog:GE}{w:GF}{A:GL}{E:GC->GJ->Prop}{s:GJ}
end
section
variable {prog:GE}{w:GF}{A:GL}{E:GC->GJ->Prop}{s:GJ}
end
section
variable {X:Cx}
end
section
open Sem (wp)
open Builtin
noncomputable def SeqAt (h:GG)(T:String)(l:GH)(its:Array GC):Prop:=(T= "list_iterator"/\h.IsList l its)\/(T= "tuple_iterator"/\h.IsTuple l its)
section
variable {prog:GE}{w:GF}{A:GL}{E:GC->GJ->Prop}{s:GJ}
end
section
variable {prog:GE}{w:GF}{A:GL}{E:GC->GJ->Prop}{s:GJ}
end
end
section
section
variable {X:Cx}{pins:List (GH×GK)}{σ:St}{H:Hp}{s:GJ}{a:GH}{xs ys:List V}{k:Bool}
end
section
variable {X:Cx}
end
end
section
open Builtin
section
variable {prog:GE}{w:GF}{A:GL}{E:GC->GJ->Prop}
end
section
variable {X:Cx}
end
end
section
section
variable {X:Cx}
variable {o e:Expr}{es:List Expr}{to:TE}{t:TA}{name:Str}{apos cpos:G1}{id:String}{r:V->List V->Hp->VK->Prop}
end
end
section
section
variable {X:Cx}
end
end
section
inductive W where
 |ty (n:String)|exc (c:Str)|cls (c:Str)|non|bl (b:Bool)|int (i:Int)|str (x:Str)
 |tup (l:List W)|tl (l:List W)|cl (l:List W)|dv (ks:List Key)(ws:List W)|dn (b:Bool)(ks:List PKy)(ws:List W)|kt (ks:List Key)|loc (k:Nat)
inductive Ob where
 |lst (l:List W)|dic (ks:List Key)(ws:List W)|dit (ks:List (List Key))(ws:List W)|din (b:Bool)(ks:List PKy)(ws:List W)|ins (c:Str)(ns:List Str)(ws:List W)|gone
structure Wo where
 mu:Nat->GH
 h:List Ob
 H:Hp
noncomputable def Lv (o:Wo)(a:GH):Prop:= ∃k b,o.h[k]?=some b/\b≠.gone/\o.mu k=a
def FrL (K:PySem.W.Frag)(a:GH)(xs:List V):Prop:= ∃ (o:GK) (its:Array GC) (n:Nat),K.lookup a=some o/\o.cls=.type "list"/\o.dict=none/\o.data=.seq its n/\its.size<=sizeLine/\Vals xs its.toList
def KeyN (K:PySem.W.Frag)(H:Hp)(b:Bool)(c:GH)(k:PKy):Prop:= ∃d,SqT K H c (match b with
 |false=>[.int k.1,.ref d]
 |true=>[.ref d,.int k.1])/\SqT K H d (k.2.map V.int)
mutual
def Rv (K:PySem.W.Frag)(o:Wo):W->V->Prop
 |.ty n,v=>v=.ty n
 |.exc c,v=> ∃a C,v=.ref a/\GA K GW c=some (some (.ref C))/\o.H a=some (IR a (.ref C))
 |.cls c,v=> ∃C,v=.ref C/\GA K GW c=some (some (.ref C))
 |.non,v=>v=.non
 |.bl b,v=>v=.bl b
 |.int i,v=>v=.int i
 |.str x,v=>v=.str x
 |.tup l,v=> ∃a vs,v=.ref a/\SqT K o.H a vs/\Rvs K o l vs
 |.tl l,v=> ∃a vs,v=.ref a/\o.H a=some (.lst vs)/\ ¬Lv o a/\Rvs K o l vs
 |.cl l,v=> ∃a vs,v=.ref a/\((Rd o.H a (.lst vs)/\ ¬Lv o a)\/FrL K a vs)/\Rvs K o l vs
 |.dv ks ws,v=> ∃a kvs,v=.ref a/\Rd o.H a (.dK kvs)/\ ¬Lv o a/\kvs.map (·.1)=ks/\Rvs K o ws (kvs.map (·.2))
 |.dn b ks ws,v=> ∃a,∃xs:List (PKy×GH×V)×Nat,v=.ref a/\o.H a=some (.dN b xs.1 xs.2)/\ ¬Lv o a/\xs.1.map (·.1)=ks/\(∀x∈xs.1,KeyN K o.H b x.2.1 x.1)/\Rvs K o ws (xs.1.map (·.2.2))
 |.kt ks,v=> ∃a,v=.ref a/\o.H a=some (.tup (ks.map kV))
 |.loc k,v=>k<o.h.length/\v=.ref (o.mu k)
def Rvs (K:PySem.W.Frag)(o:Wo):List W->List V->Prop
 |[],vs=>vs=[]
 |w::l,vs=> ∃v r,vs=v::r/\Rv K o w v/\Rvs K o l r
end
def Ro (K:PySem.W.Frag)(o:Wo)(a:GH):Ob->Prop
 |.lst l=> ∃vs,o.H a=some (.lst vs)/\Rvs K o l vs
 |.dic ks ws=> ∃kvs,o.H a=some (.dK kvs)/\kvs.map (·.1)=ks/\Rvs K o ws (kvs.map (·.2))
 |.dit ks ws=> ∃kvs,o.H a=some (.dT kvs)/\kvs.map (·.1)=ks/\Rvs K o ws (kvs.map (·.2))
 |.din b ks ws=> ∃xs:List (PKy×GH×V)×Nat,o.H a=some (.dN b xs.1 xs.2)/\xs.1.map (·.1)=ks/\(∀x∈xs.1,KeyN K o.H b x.2.1 x.1)/\Rvs K o ws (xs.1.map (·.2.2))
 |.ins c ns ws=> ∃C dx fs,GA K GW c=some (some (.ref C))/\o.H a=some (.ins C dx fs)/\fs.map (·.1)=ns/\Rvs K o ws (fs.map (·.2))
 |.gone=>True
structure Rel (K:PySem.W.Frag)(o:Wo):Prop where
 ob: ∀k b,o.h[k]?=some b->Ro K o (o.mu k) b
 inj: ∀j k b c,o.h[j]?=some b->o.h[k]?=some c->b≠.gone->c≠.gone->o.mu j=o.mu k->j=k
structure Ex (o p:Wo):Prop where
 le:o.h.length<=p.h.length
 mu: ∀k,k<o.h.length->p.mu k=o.mu k
 fr: ∀a u,o.H a=some u-> ¬Lv o a->p.H a=some u/\ ¬Lv p a
theorem Ex.refl (o:Wo):Ex o o:=⟨Dl _,fun _ _=>rfl,fun _ _ h n=>⟨h,n⟩⟩
theorem Ex.trans {o p q:Wo}(a:Ex o p)(b:Ex p q):Ex o q:=⟨Dy a.le b.le,fun k h=>(b.mu k (Dv h a.le)).trans (a.mu k h),fun c u h n=>let ⟨h1,n1⟩:=a.fr c u h n;b.fr c u h1 n1⟩
section
variable {K:PySem.W.Frag}{o p:Wo}
theorem Lv.kind (R:Rel K o){a:GH}(h:Lv o a):(∃vs,o.H a=some (.lst vs))\/(∃kvs,o.H a=some (.dK kvs))\/(∃C dx fs,o.H a=some (.ins C dx fs))\/(∃kvs,o.H a=some (.dT kvs))\/ ∃b,∃xs:List (PKy×GH×V)×Nat,o.H a=some (.dN b xs.1 xs.2):=by
 obtain⟨k,b,hk,hb,rfl⟩:=h
 have q:=R.ob k b hk
 cases b with
 |lst l=>exact .inl (let ⟨vs,e,_⟩:=q;⟨vs,e⟩)
 |dic ks ws=>exact .inr (.inl (let ⟨vs,e,_⟩:=q;⟨vs,e⟩))
 |ins c ns ws=>exact .inr (.inr (.inl (let ⟨C,dx,fs,_,e,_⟩:=q;⟨C,dx,fs,e⟩)))
 |dit ks ws=>exact .inr (.inr (.inr (.inl (let ⟨vs,e,_⟩:=q;⟨vs,e⟩))))
 |din b ks ws=>exact .inr (.inr (.inr (.inr (let ⟨vs,e,_⟩:=q;⟨b,vs,e⟩))))
 |gone=>exact absurd rfl hb
theorem Ex.keep (X:Ex o p)(R:Rel K o){a:GH}{u:HO}(h:o.H a=some u)(n1: ∀vs,u≠.lst vs)(n2: ∀kvs,u≠.dK kvs)(n3: ∀C dx fs,u≠.ins C dx fs)(n4: ∀kvs,u≠.dT kvs)(n5: ∀b (xs:List (PKy×GH×V)×Nat),u≠.dN b xs.1 xs.2):p.H a=some u:=by
 refine (X.fr a u h fun l=>?_).1
 rcases l.kind R with⟨vs,e⟩|⟨vs,e⟩|⟨C,dx,fs,e⟩|⟨vs,e⟩|⟨b,vs,e⟩
 ·rw[h] at e;exact n1 vs (Option.some.inj e)
 ·rw[h] at e;exact n2 vs (Option.some.inj e)
 ·rw[h] at e;exact n3 C dx fs (Option.some.inj e)
 ·rw[h] at e;exact n4 vs (Option.some.inj e)
 ·rw[h] at e;exact n5 b vs (Option.some.inj e)
theorem Ex.rdT (X:Ex o p)(R:Rel K o){a:GH}{vs:List V}(h:SqT K o.H a vs):SqT K p.H a vs:=by
 rcases h with (h|⟨ob,h⟩)|h
 ·exact .inl (.inl (X.keep R h (fun _ z=>nomatch z) (fun _ z=>nomatch z) (fun _ _ _ z=>nomatch z) (fun _ z=>nomatch z) fun _ _ z=>nomatch z))
 ·exact .inl (.inr ⟨ob,X.keep R h (fun _ z=>nomatch z) (fun _ z=>nomatch z) (fun _ _ _ z=>nomatch z) (fun _ z=>nomatch z) fun _ _ z=>nomatch z⟩)
 ·exact .inr h
theorem KeyN.mono (X:Ex o p)(R:Rel K o){b:Bool}{c:GH}{k:PKy}(h:KeyN K o.H b c k):KeyN K p.H b c k:=by
 obtain⟨d,h1,h2⟩:=h
 exact⟨d,X.rdT R h1,X.rdT R h2⟩
theorem Ex.rd (X:Ex o p){a:GH}{u:HO}(h:Rd o.H a u)(n:¬Lv o a):Rd p.H a u/\ ¬Lv p a:=by
 rcases h with h|⟨ob,h⟩
 ·exact⟨.inl (X.fr a _ h n).1,(X.fr a _ h n).2⟩
 ·exact⟨.inr ⟨ob,(X.fr a _ h n).1⟩,(X.fr a _ h n).2⟩
mutual
theorem Rv.mono (R:Rel K o)(X:Ex o p): ∀ (w:W) (v:V),Rv K o w v->Rv K p w v
 |.ty n,v,h=>h
 |.exc c,v,h=>by
  unfold Rv at h ⊢
  obtain⟨a,C,e,h1,h2⟩:=h
  exact⟨a,C,e,h1,X.keep R h2 (fun _ z=>nomatch z) (fun _ z=>nomatch z) (fun _ _ _ z=>nomatch z) (fun _ z=>nomatch z) fun _ _ z=>nomatch z⟩
 |.cls c,v,h=>by
  unfold Rv at h ⊢
  exact h
 |.non,v,h=>h
 |.bl b,v,h=>h
 |.int i,v,h=>h
 |.str x,v,h=>h
 |.tup l,v,h=>by
  unfold Rv at h ⊢
  obtain⟨a,vs,e,h1,h2⟩:=h
  exact⟨a,vs,e,X.rdT R h1,Rvs.mono R X l vs h2⟩
 |.tl l,v,h=>by
  unfold Rv at h ⊢
  obtain⟨a,vs,e,h1,n,h2⟩:=h
  exact⟨a,vs,e,(X.fr a _ h1 n).1,(X.fr a _ h1 n).2,Rvs.mono R X l vs h2⟩
 |.cl l,v,h=>by
  unfold Rv at h ⊢
  obtain⟨a,vs,e,h1,h2⟩:=h
  refine⟨a,vs,e,?_,Rvs.mono R X l vs h2⟩
  rcases h1 with⟨h1,n⟩|h1
  ·exact .inl (X.rd h1 n)
  ·exact .inr h1
 |.dv ks ws,v,h=>by
  unfold Rv at h ⊢
  obtain⟨a,vs,e,h1,n,h2,h3⟩:=h
  exact⟨a,vs,e,(X.rd h1 n).1,(X.rd h1 n).2,h2,Rvs.mono R X ws _ h3⟩
 |.dn b ks ws,v,h=>by
  unfold Rv at h ⊢
  obtain⟨a,xs,e,h1,n,h2,hn,h3⟩:=h
  exact⟨a,xs,e,(X.fr a _ h1 n).1,(X.fr a _ h1 n).2,h2,fun x hx=>(hn x hx).mono X R,Rvs.mono R X ws _ h3⟩
 |.kt ks,v,h=>by
  unfold Rv at h ⊢
  obtain⟨a,e,h⟩:=h
  exact⟨a,e,X.keep R h (fun _ z=>nomatch z) (fun _ z=>nomatch z) (fun _ _ _ z=>nomatch z) (fun _ z=>nomatch z) fun _ _ z=>nomatch z⟩
 |.loc k,v,h=>by
  unfold Rv at h ⊢
  exact⟨Dv h.1 X.le,by rw[X.mu k h.1];exact h.2⟩
theorem Rvs.mono (R:Rel K o)(X:Ex o p): ∀ (l:List W) (vs:List V),Rvs K o l vs->Rvs K p l vs
 |[],vs,h=>h
 |w::l,vs,h=>by
  unfold Rvs at h ⊢
  obtain⟨v,r,e,h1,h2⟩:=h
  exact⟨v,r,e,Rv.mono R X w v h1,Rvs.mono R X l r h2⟩
end
theorem Rel.keep (R:Rel K o)(X:Ex o p)(e1:p.h=o.h)(e2:p.mu=o.mu)(e3: ∀k b,o.h[k]?=some b->b≠.gone->p.H (o.mu k)=o.H (o.mu k)):Rel K p:=by
 refine⟨fun k b hk=>?_,fun j k b c h1 h2=>?_⟩
 ·rw[e1] at hk
  rw[e2]
  have q:=R.ob k b hk
  cases b with
  |lst l=>obtain⟨vs,h1,h2⟩:=q;exact⟨vs,by rw[e3 k _ hk (by simp)];exact h1,h2.mono R X⟩
  |dic ks ws=>obtain⟨vs,h1,h2,h3⟩:=q;exact⟨vs,by rw[e3 k _ hk (by simp)];exact h1,h2,h3.mono R X⟩
  |dit ks ws=>obtain⟨vs,h1,h2,h3⟩:=q;exact⟨vs,by rw[e3 k _ hk (by simp)];exact h1,h2,h3.mono R X⟩
  |din b ks ws=>obtain⟨vs,h1,h2,hn,h3⟩:=q;exact⟨vs,by rw[e3 k _ hk (by simp)];exact h1,h2,fun x hx=>(hn x hx).mono X R,h3.mono R X⟩
  |ins c ns ws=>obtain⟨C,dx,fs,h0,h1,h2,h3⟩:=q;exact⟨C,dx,fs,h0,by rw[e3 k _ hk (by simp)];exact h1,h2,h3.mono R X⟩
  |gone=>trivial
 ·rw[e1] at h1 h2
  rw[e2]
  exact R.inj j k b c h1 h2
theorem Lv.there (R:Rel K o){a:GH}(h:Lv o a):o.H a≠none:=by
 rcases h.kind R with⟨vs,e⟩|⟨vs,e⟩|⟨C,dx,fs,e⟩|⟨vs,e⟩|⟨b,vs,e⟩<;>(rw[e];simp)
theorem Ex.new {q:GH}{u:HO}(h:o.H q=none):Ex o ⟨o.mu,o.h,upd o.H q u⟩:=by
 refine⟨Dl _,fun _ _=>rfl,fun a w e n=>⟨?_,n⟩⟩
 show upd o.H q u a=some w
 rw[ap (bg e h)];exact e
theorem Rel.new (R:Rel K o){q:GH}{u:HO}(h:o.H q=none):Rel K ⟨o.mu,o.h,upd o.H q u⟩:=by
 refine R.keep (Ex.new h) rfl rfl fun k b hk hb=>?_
 have l:Lv o (o.mu k):=⟨k,b,hk,hb,rfl⟩
 show upd o.H q u (o.mu k)=_
 rw[ap fun z=>l.there R (by rw[z];exact h)]
theorem Ex.same {H':Hp}(g:Same o.H H'):Ex o ⟨o.mu,o.h,H'⟩:=⟨Dl _,fun _ _=>rfl,fun a w e n=>⟨g a w e,n⟩⟩
theorem Rel.same (R:Rel K o){H':Hp}(g:Same o.H H'):Rel K ⟨o.mu,o.h,H'⟩:=by
 refine R.keep (Ex.same g) rfl rfl fun k b hk hb=>?_
 cases e:o.H (o.mu k) with
 |none=>exact absurd e (Lv.there R ⟨k,b,hk,hb,rfl⟩)
 |some u=>exact g _ _ e
def Wo.add (o:Wo)(q:GH)(b:Ob)(u:HO):Wo:=⟨fun k=>if k=o.h.length then q else o.mu k,o.h++[b],upd o.H q u⟩
theorem Ex.add {q:GH}{b:Ob}{u:HO}(h:o.H q=none):Ex o (o.add q b u):=by
 refine⟨by show _<=(o.h++[b]).length;simp,fun k hk=>?_,fun a w e n=>⟨?_,fun l=>?_⟩⟩
 ·show (if k=o.h.length then q else o.mu k)=_
  rw[if_neg (by omega)]
 ·show upd o.H q u a=some w
  rw[ap (bg e h)];exact e
 ·obtain⟨k,c,hk,hc,ha⟩:=l
  have ha:(if k=o.h.length then q else o.mu k)=a:=ha
  have hk:(o.h++[b])[k]?=some c:=hk
  by_cases z:k=o.h.length
  ·rw[if_pos z] at ha
   exact absurd ha.symm (bg e h)
  ·rw[if_neg z] at ha
   have hl:k<o.h.length:=by
    have:=(DK.mp hk).1
    rw[Dk,DP] at this
    omega
   rw[DS hl] at hk
   exact n ⟨k,c,hk,hc,ha⟩
theorem Rel.add (R:Rel K o){q:GH}{b:Ob}{u:HO}(h:o.H q=none)(hb:Ro K (o.add q b u) q b):Rel K (o.add q b u):=by
 have X:Ex o (o.add q b u):=Ex.add h
 have old: ∀ {k:Nat}{c:Ob},(o.add q b u).h[k]?=some c->k≠o.h.length->o.h[k]?=some c/\(o.add q b u).mu k=o.mu k:=fun{k c} hk z=>by
  have hk:(o.h++[b])[k]?=some c:=hk
  have hl:k<o.h.length:=by
   have:=(DK.mp hk).1
   rw[Dk,DP] at this
   omega
  rw[DS hl] at hk
  exact⟨hk,X.mu k hl⟩
 have new: ∀ {k:Nat}{c:Ob},(o.add q b u).h[k]?=some c->k=o.h.length->c=b/\(o.add q b u).mu k=q:=fun{k c} hk z=>by
  subst z
  have hk:(o.h++[b])[o.h.length]?=some c:=hk
  rw[Ei (Dl _),EV] at hk
  exact⟨(Option.some.inj hk).symm,if_pos rfl⟩
 have ne: ∀ {k:Nat}{c:Ob},o.h[k]?=some c->c≠.gone->o.mu k≠q:=fun{k c} hk hc z=>Lv.there R ⟨k,c,hk,hc,rfl⟩ (by rw[z];exact h)
 refine⟨fun k c hk=>?_,fun j k c d h1 h2 n1 n2 e=>?_⟩
 ·by_cases z:k=o.h.length
  ·obtain⟨rfl,e⟩:=new hk z
   rw[e];exact hb
  ·obtain⟨hk,e⟩:=old hk z
   rw[e]
   have r:=R.ob k c hk
   have st: ∀ {w:HO},c≠.gone->o.H (o.mu k)=some w->(o.add q b u).H (o.mu k)=some w:=fun{w} hc e=>by
    show upd o.H q u (o.mu k)=some w
    rw[ap (ne hk hc)];exact e
   cases c with
   |lst l=>obtain⟨vs,h1,h2⟩:=r;exact⟨vs,st (by simp) h1,h2.mono R X⟩
   |dic ks ws=>obtain⟨vs,h1,h2,h3⟩:=r;exact⟨vs,st (by simp) h1,h2,h3.mono R X⟩
   |dit ks ws=>obtain⟨vs,h1,h2,h3⟩:=r;exact⟨vs,st (by simp) h1,h2,h3.mono R X⟩
   |din b ks ws=>obtain⟨vs,h1,h2,hn,h3⟩:=r;exact⟨vs,st (by simp) h1,h2,fun x hx=>(hn x hx).mono X R,h3.mono R X⟩
   |ins c ns ws=>obtain⟨C,dx,fs,h0,h1,h2,h3⟩:=r;exact⟨C,dx,fs,h0,st (by simp) h1,h2,h3.mono R X⟩
   |gone=>trivial
 ·by_cases z1:j=o.h.length
  ·by_cases z2:k=o.h.length
   ·omega
   ·obtain⟨_,e1⟩:=new h1 z1
    obtain⟨hk,e2⟩:=old h2 z2
    rw[e1,e2] at e
    exact absurd e.symm (ne hk n2)
  ·obtain⟨hj,e1⟩:=old h1 z1
   by_cases z2:k=o.h.length
   ·obtain⟨_,e2⟩:=new h2 z2
    rw[e1,e2] at e
    exact absurd e (ne hj n1)
   ·obtain⟨hk,e2⟩:=old h2 z2
    rw[e1,e2] at e
    exact R.inj j k c d hj hk n1 n2 e
theorem Rel.addL (R:Rel K o){q:GH}{l:List W}{vs:List V}(h:o.H q=none)(hl:Rvs K o l vs):Rel K (o.add q (.lst l) (.lst vs)):=R.add h ⟨vs,aC,hl.mono R (Ex.add h)⟩
def Wo.put (o:Wo)(k:Nat)(b:Ob)(u:HO):Wo:=⟨o.mu,o.h.set k b,upd o.H (o.mu k) u⟩
theorem Lv.put {k:Nat}{b c:Ob}{u:HO}{a:GH}(hk:o.h[k]?=some c)(hc:c≠.gone)(h:Lv (o.put k b u) a):Lv o a:=by
 obtain⟨j,d,hj,hd,rfl⟩:=h
 have hj:(o.h.set k b)[j]?=some d:=hj
 by_cases z:j=k
 ·subst z;exact⟨j,c,hk,hc,rfl⟩
 ·rw[Do (Ne.symm z)] at hj
  exact⟨j,d,hj,hd,rfl⟩
theorem Ex.put {k:Nat}{b c:Ob}{u:HO}(hk:o.h[k]?=some c)(hc:c≠.gone):Ex o (o.put k b u):=by
 refine⟨by show _<=(o.h.set k b).length;simp,fun _ _=>rfl,fun a w e n=>⟨?_,fun l=>n (l.put hk hc)⟩⟩
 show upd o.H (o.mu k) u a=some w
 rw[ap fun z=>n ⟨k,c,hk,hc,z.symm⟩];exact e
theorem Rel.put (R:Rel K o){k:Nat}{b c:Ob}{u:HO}(hk:o.h[k]?=some c)(hc:c≠.gone)(hb:Ro K (o.put k b u) (o.mu k) b):Rel K (o.put k b u):=by
 have X:Ex o (o.put k b u):=Ex.put hk hc
 have old: ∀ {j:Nat}{d:Ob},(o.put k b u).h[j]?=some d->j≠k->o.h[j]?=some d:=fun{j d} hj z=>by
  have hj:(o.h.set k b)[j]?=some d:=hj
  rw[Do (Ne.symm z)] at hj
  exact hj
 refine⟨fun j d hj=>?_,fun i j d e h1 h2 n1 n2 q=>?_⟩
 ·by_cases z:j=k
  ·subst z
   have hl:=(DK.mp hk).1
   have hj:(o.h.set j b)[j]?=some d:=hj
   rw[Eo hl] at hj
   cases hj
   exact hb
  ·have hj:=old hj z
   have r:=R.ob j d hj
   have st: ∀ {w:HO},d≠.gone->o.H (o.mu j)=some w->(o.put k b u).H (o.mu j)=some w:=fun{w} hd e=>by
    show upd o.H (o.mu k) u (o.mu j)=some w
    rw[ap fun q=>z (R.inj j k d c hj hk hd hc q)];exact e
   cases d with
   |lst l=>obtain⟨vs,h1,h2⟩:=r;exact⟨vs,st (by simp) h1,h2.mono R X⟩
   |dic ks ws=>obtain⟨vs,h1,h2,h3⟩:=r;exact⟨vs,st (by simp) h1,h2,h3.mono R X⟩
   |dit ks ws=>obtain⟨vs,h1,h2,h3⟩:=r;exact⟨vs,st (by simp) h1,h2,h3.mono R X⟩
   |din b ks ws=>obtain⟨vs,h1,h2,hn,h3⟩:=r;exact⟨vs,st (by simp) h1,h2,fun x hx=>(hn x hx).mono X R,h3.mono R X⟩
   |ins c ns ws=>obtain⟨C,dx,fs,h0,h1,h2,h3⟩:=r;exact⟨C,dx,fs,h0,st (by simp) h1,h2,h3.mono R X⟩
   |gone=>trivial
 ·have ex: ∀ {j:Nat}{d:Ob},(o.put k b u).h[j]?=some d->d≠.gone-> ∃d',o.h[j]?=some d'/\d'≠.gone:=fun{j d} hj n=>by
   by_cases z:j=k
   ·subst z;exact⟨c,hk,hc⟩
   ·exact⟨d,old hj z,n⟩
  obtain⟨d',h1',n1'⟩:=ex h1 n1
  obtain⟨e',h2',n2'⟩:=ex h2 n2
  exact R.inj i j d' e' h1' h2' n1' n2' q
theorem Rel.putL (R:Rel K o){k:Nat}{c:Ob}{l:List W}{vs:List V}(hk:o.h[k]?=some c)(hc:c≠.gone)(hl:Rvs K o l vs):Rel K (o.put k (.lst l) (.lst vs)):=R.put hk hc ⟨vs,aC,hl.mono R (Ex.put hk hc)⟩
theorem Rel.putD (R:Rel K o){k:Nat}{c:Ob}{ks:List Key}{ws:List W}{kvs:List (Key×V)}(hk:o.h[k]?=some c)(hc:c≠.gone)(h1:kvs.map (·.1)=ks)(hl:Rvs K o ws (kvs.map (·.2))):Rel K (o.put k (.dic ks ws) (.dK kvs)):=R.put hk hc ⟨kvs,aC,h1,hl.mono R (Ex.put hk hc)⟩
theorem Rel.putT (R:Rel K o){k:Nat}{c:Ob}{ks:List (List Key)}{ws:List W}{kvs:List (List Key×V)}(hk:o.h[k]?=some c)(hc:c≠.gone)(h1:kvs.map (·.1)=ks)(hl:Rvs K o ws (kvs.map (·.2))):Rel K (o.put k (.dit ks ws) (.dT kvs)):=R.put hk hc ⟨kvs,aC,h1,hl.mono R (Ex.put hk hc)⟩
noncomputable def Wo.ice (o:Wo)(k:Nat):Wo:=⟨o.mu,o.h.set k .gone,o.H⟩
theorem Lv.ice {k:Nat}{a:GH}(h:Lv (o.ice k) a): ∃j b,j≠k/\o.h[j]?=some b/\b≠.gone/\o.mu j=a:=by
 obtain⟨j,d,hj,hd,e⟩:=h
 have hj:(o.h.set k .gone)[j]?=some d:=hj
 by_cases z:j=k
 ·subst z
  have hl:=(DK.mp hj).1
  rw[DN] at hl
  rw[Eo hl] at hj
  cases hj
  exact absurd rfl hd
 ·rw[Do (Ne.symm z)] at hj
  exact⟨j,d,z,hj,hd,e⟩
theorem Ex.ice {k:Nat}:Ex o (o.ice k):=by
 refine⟨by show _<=(o.h.set k .gone).length;simp,fun _ _=>rfl,fun a w e n=>⟨e,fun l=>?_⟩⟩
 obtain⟨j,b,_,h1,h2,h3⟩:=l.ice
 exact n ⟨j,b,h1,h2,h3⟩
theorem Rel.ice (R:Rel K o){k:Nat}:Rel K (o.ice k):=by
 have X:Ex o (o.ice k):=Ex.ice
 have old: ∀ {j:Nat}{d:Ob},(o.ice k).h[j]?=some d->d≠.gone->o.h[j]?=some d:=fun{j d} hj n=>by
  have hj:(o.h.set k .gone)[j]?=some d:=hj
  by_cases z:j=k
  ·subst z
   have hl:=(DK.mp hj).1
   rw[DN] at hl
   rw[Eo hl] at hj
   cases hj
   exact absurd rfl n
  ·rw[Do (Ne.symm z)] at hj
   exact hj
 refine⟨fun j d hj=>?_,fun i j d e h1 h2 n1 n2 q=>R.inj i j d e (old h1 n1) (old h2 n2) n1 n2 q⟩
 cases d with
 |lst l=>obtain⟨vs,h1,h2⟩:=R.ob j _ (old hj (by simp));exact⟨vs,h1,h2.mono R X⟩
 |dic ks ws=>obtain⟨vs,h1,h2,h3⟩:=R.ob j _ (old hj (by simp));exact⟨vs,h1,h2,h3.mono R X⟩
 |dit ks ws=>obtain⟨vs,h1,h2,h3⟩:=R.ob j _ (old hj (by simp));exact⟨vs,h1,h2,h3.mono R X⟩
 |din b ks ws=>obtain⟨vs,h1,h2,hn,h3⟩:=R.ob j _ (old hj (by simp));exact⟨vs,h1,h2,fun x hx=>(hn x hx).mono X R,h3.mono R X⟩
 |ins c ns ws=>obtain⟨C,dx,fs,h0,h1,h2,h3⟩:=R.ob j _ (old hj (by simp));exact⟨C,dx,fs,h0,h1,h2,h3.mono R X⟩
 |gone=>trivial
theorem Rv.iceL (R:Rel K o){k:Nat}{l:List W}(hk:o.h[k]?=some (.lst l)):Rv K (o.ice k) (.tl l) (.ref (o.mu k)):=by
 obtain⟨vs,h1,h2⟩:=R.ob k _ hk
 unfold Rv
 refine⟨_,vs,rfl,h1,fun z=>?_,h2.mono R Ex.ice⟩
 obtain⟨j,b,n,q1,q2,q3⟩:=z.ice
 exact n (R.inj j k b _ q1 hk q2 (by simp) q3)
theorem Rv.iceD (R:Rel K o){k:Nat}{ks:List Key}{ws:List W}(hk:o.h[k]?=some (.dic ks ws)):Rv K (o.ice k) (.dv ks ws) (.ref (o.mu k)):=by
 obtain⟨vs,h1,h0,h2⟩:=R.ob k _ hk
 unfold Rv
 refine⟨_,vs,rfl,.inl h1,fun z=>?_,h0,h2.mono R Ex.ice⟩
 obtain⟨j,b,n,q1,q2,q3⟩:=z.ice
 exact n (R.inj j k b _ q1 hk q2 (by simp) q3)
theorem Rv.iceN (R:Rel K o){k:Nat}{b:Bool}{ks:List PKy}{ws:List W}(hk:o.h[k]?=some (.din b ks ws)):Rv K (o.ice k) (.dn b ks ws) (.ref (o.mu k)):=by
 obtain⟨vs,h1,h0,hn,h2⟩:=R.ob k _ hk
 unfold Rv
 refine⟨_,vs,rfl,h1,fun z=>?_,h0,fun x hx=>(hn x hx).mono Ex.ice R,h2.mono R Ex.ice⟩
 obtain⟨j,b,n,q1,q2,q3⟩:=z.ice
 exact n (R.inj j k b _ q1 hk q2 (by simp) q3)
theorem Rvs.len: ∀ {l:List W}{vs:List V},Rvs K o l vs->vs.length=l.length
 |[],_,h=>by unfold Rvs at h;rw[h];rfl
 |w::l,_,h=>by unfold Rvs at h;obtain⟨v,r,rfl,_,h2⟩:=h;rw[Di,Di,Rvs.len h2]
theorem Rvs.get: ∀ {l:List W}{vs:List V}{i:Nat}{w:W},Rvs K o l vs->l[i]?=some w-> ∃v,vs[i]?=some v/\Rv K o w v
 |[],_,_,_,_,e=>by simp at e
 |x::l,_,0,w,h,e=>by unfold Rvs at h;obtain⟨v,r,rfl,h1,h2⟩:=h;cases e;exact⟨v,rfl,h1⟩
 |x::l,_,i+1,w,h,e=>by unfold Rvs at h;obtain⟨v,r,rfl,h1,h2⟩:=h;obtain⟨u,q1,q2⟩:=Rvs.get (l:=l) (i:=i) (w:=w) h2 (by simpa using e);exact⟨u,by simpa using q1,q2⟩
theorem Rvs.nil:Rvs K o [] []:=by unfold Rvs;rfl
theorem Rvs.cons {w:W}{v:V}{l:List W}{vs:List V}(h:Rv K o w v)(t:Rvs K o l vs):Rvs K o (w::l) (v::vs):=by unfold Rvs;exact⟨v,vs,rfl,h,t⟩
theorem Rvs.app: ∀ {l m:List W}{vs us:List V},Rvs K o l vs->Rvs K o m us->Rvs K o (l++m) (vs++us)
 |[],_,_,_,h,t=>by unfold Rvs at h;rw[h];exact t
 |w::l,m,_,us,h,t=>by unfold Rvs at h;obtain⟨v,r,rfl,h1,h2⟩:=h;exact Rvs.cons h1 (Rvs.app h2 t)
theorem Rvs.take: ∀ {l:List W}{vs:List V} (n:Nat),Rvs K o l vs->Rvs K o (l.take n) (vs.take n)
 |[],_,n,h=>by unfold Rvs at h;rw[h,List.take_nil,List.take_nil];exact Rvs.nil
 |w::l,_,0,h=>by rw[FQ,FQ];exact Rvs.nil
 |w::l,_,n+1,h=>by unfold Rvs at h;obtain⟨v,r,rfl,h1,h2⟩:=h;exact Rvs.cons h1 (Rvs.take n h2)
theorem Rvs.drop: ∀ {l:List W}{vs:List V} (n:Nat),Rvs K o l vs->Rvs K o (l.drop n) (vs.drop n)
 |[],_,n,h=>by unfold Rvs at h;rw[h,List.drop_nil,List.drop_nil];exact Rvs.nil
 |w::l,_,0,h=>h
 |w::l,_,n+1,h=>by unfold Rvs at h;obtain⟨v,r,rfl,h1,h2⟩:=h;exact Rvs.drop n h2
theorem Rvs.set {x:W}{y:V}(hx:Rv K o x y): ∀ {l:List W}{vs:List V} (i:Nat),Rvs K o l vs->Rvs K o (l.set i x) (vs.set i y)
 |[],_,n,h=>by unfold Rvs at h;rw[h];exact Rvs.nil
 |w::l,_,0,h=>by unfold Rvs at h;obtain⟨v,r,rfl,h1,h2⟩:=h;exact Rvs.cons hx h2
 |w::l,_,n+1,h=>by unfold Rvs at h;obtain⟨v,r,rfl,h1,h2⟩:=h;exact Rvs.cons h1 (Rvs.set hx n h2)
noncomputable abbrev HU:=List (Option W)
def RvO (K:PySem.W.Frag)(o:Wo):Option W->Option V->Prop
 |some w,s=> ∃v,s=some v/\Rv K o w v
 |none,s=>s=none
def Re (K:PySem.W.Frag)(o:Wo):HU->St->Prop
 |[],s=>s=[]
 |w::r,s=> ∃x t,s=x::t/\RvO K o w x/\Re K o r t
theorem RvO.mono (R:Rel K o)(X:Ex o p): ∀ {w:Option W}{s:Option V},RvO K o w s->RvO K p w s
 |some w,_,⟨v,e,h⟩=>⟨v,e,h.mono R X⟩
 |none,_,h=>h
theorem Re.mono (R:Rel K o)(X:Ex o p): ∀ {r:HU}{s:St},Re K o r s->Re K p r s
 |[],_,h=>h
 |w::r,_,⟨x,t,e,h1,h2⟩=>⟨x,t,e,h1.mono R X,Re.mono R X h2⟩
theorem Re.get: ∀ {r:HU}{s:St}{i:Nat}{w:W},Re K o r s->r[i]?=some (some w)-> ∃v,s[i]?=some (some v)/\Rv K o w v
 |[],_,_,_,_,e=>by simp at e
 |x::r,_,0,w,⟨y,t,rfl,h1,h2⟩,e=>by cases e;obtain⟨v,rfl,q⟩:=h1;exact⟨v,rfl,q⟩
 |x::r,_,i+1,w,⟨y,t,rfl,h1,h2⟩,e=>by obtain⟨u,q1,q2⟩:=Re.get (r:=r) (i:=i) (w:=w) h2 (by simpa using e);exact⟨u,by simpa using q1,q2⟩
theorem Re.set {w:W}{v:V}(q:Rv K o w v): ∀ {r:HU}{s:St} (i:Nat),Re K o r s->Re K o (r.set i (some w)) (s.set i (some v))
 |[],_,_,h=>by rw[show _=[] from h];rfl
 |x::r,_,0,⟨y,t,rfl,h1,h2⟩=>⟨_,_,rfl,⟨v,rfl,q⟩,h2⟩
 |x::r,_,i+1,⟨y,t,rfl,h1,h2⟩=>⟨_,_,rfl,h1,Re.set q i h2⟩
theorem Re.front: ∀ {r:HU}{s:St} (n:Nat),Re K o r s->Re K o (List.replicate n none++r) (List.replicate n none++s)
 |_,_,0,h=>h
 |_,_,n+1,h=>⟨none,_,rfl,rfl,Re.front n h⟩
theorem Re.args: ∀ {ws:List W}{vs:List V} (n:Nat),Rvs K o ws vs->Re K o (ws.map some++List.replicate n none) (vs.map some++List.replicate n none)
 |[],_,n,h=>by
  unfold Rvs at h;rw[h]
  induction n with
  |zero=>rfl
  |succ n ih=>exact⟨none,_,rfl,rfl,ih⟩
 |w::l,_,n,h=>by unfold Rvs at h;obtain⟨v,r,rfl,h1,h2⟩:=h;exact⟨_,_,rfl,⟨v,rfl,h1⟩,Re.args n h2⟩
end
inductive Rs (α:Type) where
 |ok (a:α)(h:List Ob)|ex (c:Str)(h:List Ob)|bad
noncomputable abbrev M (α:Type):=List Ob->Rs α
def bd {α β:Type}(f:M α)(g:α->M β):M β:=fun h=>match f h with
 |.ok a h'=>g a h'
 |.ex c h'=>.ex c h'
 |.bad=>.bad
def pr {α:Type}(a:α):M α:=fun h=>.ok a h
def no {α:Type}:M α:=fun _=>.bad
def gd {α:Type}(p:Prop) [Decidable p] (m:M α):M α:=fun h=>if p then m h else .bad
structure Cg where
 K:PySem.W.Frag
 mg:Str->Option GC
 E:XK
def Ps {α β:Type}(c:Cg)(r:Wo->α->β->Prop)(o:Wo)(R:Rs α)(Q:β->Hp->Prop):Prop:=match R with
 |.ok a h'=> ∀p b,p.h=h'->Ex o p->Rel c.K p->r p a b->Q b p.H
 |.ex x h'=> ∃u,c.mg x=some u/\ ∀p,p.h=h'->Ex o p->Rel c.K p->c.E u none p.H
 |.bad=>False
def tG {α β:Type}(c:Cg)(r:Wo->α->β->Prop)(f:HU->M α)(σ:St)(H:Hp)(Q:β->Hp->Prop):Prop:= ∃o ρ,o.H=H/\Rel c.K o/\Re c.K o ρ σ/\Ps c r o (f ρ o.h) Q
noncomputable abbrev tM (c:Cg)(f:HU->M W):TE:=tG c (Rv c.K) f
noncomputable abbrev tT (c:Cg)(f:HU->M Bool):TT:=tG c (fun _ a b=>a=b) f
noncomputable abbrev tA (c:Cg)(f:HU->M (List W)):TA:=tG c (Rvs c.K) f
section
variable {c:Cg}{o p:Wo}{α β γ δ:Type}{r:Wo->α->β->Prop}{r2:Wo->γ->δ->Prop}
theorem Ps.after {R:Rs α}{Q:β->Hp->Prop}(X:Ex o p)(h:Ps c r o R Q):Ps c r p R Q:=by
 cases R with
 |ok a h'=>exact fun q b e X2 Rq rq=>h q b e (X.trans X2) Rq rq
 |ex x h'=>obtain⟨u,hu,h⟩:=h;exact⟨u,hu,fun q e X2 Rq=>h q e (X.trans X2) Rq⟩
 |bad=>exact h
theorem Ps.bd {f:M α}{g:α->M γ}{Q:δ->Hp->Prop}{N:β->Hp->Prop}(h:Ps c r2 o (bd f g o.h) Q)(k:∀p a b,Ex o p->Rel c.K p->r p a b->Ps c r2 p (g a p.h) Q->N b p.H):Ps c r o (f o.h) N:=by
 unfold L2.bd at h
 cases e:f o.h with
 |ok a h'=>
  rw[e] at h
  intro p b hp X R rb
  subst hp
  exact k p a b X R rb (h.after X)
 |ex x h'=>
  rw[e] at h
  exact h
 |bad=>
  rw[e] at h
  exact h
theorem Ps.pr {a:α}{Q:β->Hp->Prop}{b:β}(h:Ps c r o (pr a o.h) Q)(R:Rel c.K o)(hb:r o a b):Q b o.H:=h o b rfl (Ex.refl _) R hb
theorem Ps.at {a:α}{h':List Ob}{Q:β->Hp->Prop}{b:β}(h:Ps c r o (.ok a h') Q)(e:p.h=h')(X:Ex o p)(R:Rel c.K p)(hb:r p a b):Q b p.H:=h p b e X R hb
theorem Ps.gd {P:Prop} [Decidable P] {m:M α}{Q:β->Hp->Prop}(h:Ps c r o (gd P m o.h) Q):P/\Ps c r o (m o.h) Q:=by
 unfold L2.gd at h
 by_cases q:P
 ·rw[if_pos q] at h;exact⟨q,h⟩
 ·rw[if_neg q] at h;exact h.elim
end
end
section
noncomputable abbrev cg (X:Cx)(E:XK):Cg:=⟨X.K,X.mg,E⟩
def tF (c:Cg)(f:HU->M (List W)):TE:=fun σ H Q=>tG c (Rvs c.K) f σ H fun vs H1=> ∀q,H1 q=none->Q (.ref q) (upd H1 q (.lst vs))
structure JE (X:Cx)(E:XK)(e:Expr)(f:HU->M W):Prop where
 h:PE X e (tM (cg X E) f)
structure JT (X:Cx)(E:XK)(e:Expr)(f:HU->M Bool):Prop where
 h:PT X e (tT (cg X E) f)
structure JW (X:Cx)(E:XK)(e:Expr)(f:HU->M Bool):Prop where
 h:PW X e (tT (cg X E) f)
structure JA (X:Cx)(E:XK)(es:List Expr)(f:HU->M (List W)):Prop where
 h:PA X es (tA (cg X E) f)
structure JF (X:Cx)(E:XK)(e:Expr)(f:HU->M (List W)):Prop where
 h:PE X e (tF (cg X E) f)
theorem PE.imp {X:Cx}{E:XK}{e:Expr}{t:TE}{f:HU->M W}(h:PE X e t)(k:∀σ H Q,tM (cg X E) f σ H Q->t σ H Q):JE X E e f:=⟨fun pins s σ H Q I q=>h pins s σ H Q I (k σ H Q q)⟩
theorem PE.impF {X:Cx}{E:XK}{e:Expr}{t:TE}{f:HU->M (List W)}(h:PE X e t)(k:∀σ H Q,tF (cg X E) f σ H Q->t σ H Q):JF X E e f:=⟨fun pins s σ H Q I q=>h pins s σ H Q I (k σ H Q q)⟩
theorem PT.imp {X:Cx}{E:XK}{e:Expr}{t:TT}{f:HU->M Bool}(h:PT X e t)(k:∀σ H Q,tT (cg X E) f σ H Q->t σ H Q):JT X E e f:=⟨fun pins s σ H Q I q=>h pins s σ H Q I (k σ H Q q)⟩
theorem PW.imp {X:Cx}{E:XK}{e:Expr}{t:TT}{f:HU->M Bool}(h:PW X e t)(k:∀σ H Q,tT (cg X E) f σ H Q->t σ H Q):JW X E e f:=⟨fun w pins s σ H Q I q=>h w pins s σ H Q I (k σ H Q q)⟩
theorem PA.imp {X:Cx}{E:XK}{e:List Expr}{t:TA}{f:HU->M (List W)}(h:PA X e t)(k:∀σ H Q,tA (cg X E) f σ H Q->t σ H Q):JA X E e f:=⟨fun pos pins s σ H Q I q=>h pos pins s σ H Q I (k σ H Q q)⟩
theorem ze {X:Cx}{E:XK}{e:Expr}{f:HU->M Bool}(q:JW X E e f):JT X E e f:=⟨(q.h).pt⟩
section
variable {X:Cx}{E:XK}
def KL (i:Nat):HU->M W:=fun ρ=>match ρ[i]? with
 |some (some w)=>pr w
 |_=>no
def mC (w:W):HU->M W:=fun _=>pr w
theorem zD {i:Nat}{σ:St}{H:Hp}{Q:VK}(h:tM (cg X E) (KL i) σ H Q):M1 i σ H Q:=by
 obtain⟨o,ρ,rfl,R,S,h⟩:=h
 unfold KL at h
 cases e:ρ[i]? with
 |none=>rw[e] at h;exact h.elim
 |some x=>
  cases x with
  |none=>rw[e] at h;exact h.elim
  |some w=>
   rw[e] at h
   obtain⟨v,e1,r⟩:=S.get e
   exact⟨v,e1,h.pr R r⟩
theorem cq (i:Nat){x:Str}{pos:G1}(hN:X.N[i]?=some x:=by rfl)(hv:Vis X.env.scope x:=by first|exact Or.inl rfl|exact Or.inr (Or.inl rfl)|exact Or.inr (Or.inr rfl))(hd:(x==("__debug__":Str))=false:=by decide)
 (hcd:(x==("__classdict__":Str))=false:=by decide):JE X E (.Name x pos) (KL i):=(pv i hN hv hd hcd).imp fun _ _ _ h=>zD h
theorem uD {w:W}{v:V}(hr: ∀o,Rv X.K o w v){σ:St}{H:Hp}{Q:VK}(h:tM (cg X E) (mC w) σ H Q):tC v σ H Q:=by
 obtain⟨o,ρ,rfl,R,S,h⟩:=h
 exact Ps.pr (c:=cg X E) h R (hr o)
theorem A4 {i j pos}:JE X E (.Constant (.int i) j pos) (mC (.int i)):=Lq.imp fun _ _ _ h=>uD (fun o=>by unfold Rv;rfl) h
theorem vT {i j pos}:JE X E (.Constant (.str i) j pos) (mC (.str i)):=Lr.imp fun _ _ _ h=>uD (fun o=>by unfold Rv;rfl) h
theorem oq {x:Str}{w:W}{v:V}{u:GC}{pos:G1}(hg:Gl X x)(hm:X.mg x=some u)(r:RelV v u)(hr: ∀o,Rv X.K o w v)(hd:(x==("__debug__":Str))=false:=by decide):JE X E (.Name x pos) (mC w):=
 (cZ hg hm r hd).imp fun _ _ _ h=>uD hr h
def m2 (f:W->W->M W)(fa fb:HU->M W):HU->M W:=fun ρ=>bd (fa ρ) fun x=>bd (fb ρ) fun y=>f x y
def OpM (X:Cx)(E:XK)(r:R2)(f:W->W->M W):Prop:= ∀ (o:Wo) (x y:W) (vx vy:V) (Q:VK),Rel X.K o->Rv X.K o x vx->Rv X.K o y vy->Ps (cg X E) (Rv X.K) o (f x y o.h) Q->r vx vy o.H Q
theorem xi {r:R2}{f:W->W->M W}(hf:OpM X E r f){fa fb:HU->M W}{σ:St}{H:Hp}{Q:VK}(h:tM (cg X E) (m2 f fa fb) σ H Q):tOp r (tM (cg X E) fa) (tM (cg X E) fb) σ H Q:=by
 obtain⟨o,ρ,rfl,R,S,h⟩:=h
 exact⟨o,ρ,rfl,R,S,Ps.bd h fun p x vx e1 R1 r1 h1=>⟨p,ρ,rfl,R1,S.mono R e1,Ps.bd h1 fun q y vy e2 R2 r2 h2=>hf q x y vx vy Q R2 (r1.mono R1 e2) r2 h2⟩⟩
theorem kU {a b:Expr}{pos:G1}{op:Operator}{r:R2}{f:W->W->M W}{fa fb:HU->M W}(ho:OpR X (Hi op) r)(hf:OpM X E r f)(ha:JE X E a fa)(hb:JE X E b fb):
 JE X E (.BinOp a op b pos) (m2 f fa fb):=(rZ ho ha.h hb.h).imp fun _ _ _ h=>xi hf h
theorem A7 {a b:Expr}{pos:G1}{op:CmpOp}{r:R2}{f:W->W->M W}{fa fb:HU->M W}(ho:OpR X (G7 op) r)(hf:OpM X E r f)(ha:JE X E a fa)(hb:JE X E b fb)(hm:G8 op b=false):
 JE X E (.Compare a [op] [b] pos) (m2 f fa fb):=(iz ho ha.h hb.h hm).imp fun _ _ _ h=>xi hf h
def asB (w:W):M Bool:=match w with
 |.bl b=>pr b
 |_=>no
def mB (f:HU->M W):HU->M Bool:=fun ρ=>bd (f ρ) asB
theorem zG {f:HU->M W}{σ:St}{H:Hp}{Q:Bool->Hp->Prop}(h:tT (cg X E) (mB f) σ H Q):tM (cg X E) f σ H fun x H'=> ∃k,x=.bl k/\Q k H':=by
 obtain⟨o,ρ,rfl,R,S,h⟩:=h
 refine⟨o,ρ,rfl,R,S,Ps.bd h fun p x vx e1 R1 r1 h1=>?_⟩
 unfold asB at h1
 split at h1
 ·rename_i b
  unfold Rv at r1
  exact⟨b,r1,h1.pr R1 rfl⟩
 ·exact h1.elim
theorem AG {a b:Expr}{pos:G1}{op:CmpOp}{r:R2}{f:W->W->M W}{fa fb:HU->M W}(ho:OpR X (G7 op) r)(hf:OpM X E r f)(ha:JE X E a fa)(hb:JE X E b fb)(hm:G8 op b=false):
 JT X E (.Compare a [op] [b] pos) (mB (m2 f fa fb)):=(dW ho ha.h hb.h hm).imp fun _ _ _ h=>xi hf (zG h)
theorem AE {e:Expr}{f:HU->M W}(h:JE X E e f)(he: ∀whole,isTrue e X.env whole=(do let v<-whole;G9 e.pos;Ha [v] (truthy v)):=by intro _;rfl):JT X E e (mB f):=
 (gm h.h he).imp fun _ _ _ h=>zG h
def Ks (f g:HU->M Bool):HU->M Bool:=fun ρ=>bd (f ρ) fun b=>if b=true then g ρ else pr false
def mOr (f g:HU->M Bool):HU->M Bool:=fun ρ=>bd (f ρ) fun b=>if b=true then pr true else g ρ
def KC (f:HU->M Bool):HU->M Bool:=fun ρ=>bd (f ρ) fun b=>pr (!b)
variable {a b:Expr}{LH:List Expr}{pos:G1}{f g:HU->M Bool}
theorem zz {σ:St}{H:Hp}{Q:Bool->Hp->Prop}(h:tT (cg X E) (Ks f g) σ H Q):tAnd (tT (cg X E) f) (tT (cg X E) g) σ H Q:=by
 obtain⟨o,ρ,rfl,R,S,h⟩:=h
 refine⟨o,ρ,rfl,R,S,Ps.bd h fun p x vx e1 R1 r1 h1=>?_⟩
 subst r1
 cases x with
 |true=>exact J5 ⟨p,ρ,rfl,R1,S.mono R e1,h1⟩
 |false=>exact J4 (h1.pr R1 rfl)
theorem BF {σ:St}{H:Hp}{Q:Bool->Hp->Prop}(h:tT (cg X E) (mOr f g) σ H Q):tOr (tT (cg X E) f) (tT (cg X E) g) σ H Q:=by
 obtain⟨o,ρ,rfl,R,S,h⟩:=h
 refine⟨o,ρ,rfl,R,S,Ps.bd h fun p x vx e1 R1 r1 h1=>?_⟩
 subst r1
 cases x with
 |false=>exact J4 ⟨p,ρ,rfl,R1,S.mono R e1,h1⟩
 |true=>exact J5 (h1.pr R1 rfl)
theorem AF (ha:JT X E a f):JT X E (.UnaryOp .Not a pos) (KC f):=(qS ha.h).imp fun σ H Q h=>by
 obtain⟨o,ρ,rfl,R,S,h⟩:=h
 refine⟨o,ρ,rfl,R,S,Ps.bd h fun p x vx e1 R1 r1 h1=>?_⟩
 subst r1
 exact h1.pr R1 rfl
theorem x5 (ha:JT X E a f):JW X E (.BoolOp .And [a] pos) f:=⟨rV ha.h⟩
theorem AD (ha:JT X E a f):JW X E (.BoolOp .Or [a] pos) f:=⟨qR ha.h⟩
theorem vM (ha:JT X E a f)(hb:JW X E (.BoolOp .And (b::LH) pos) g):JW X E (.BoolOp .And (a::b::LH) pos) (Ks f g):=(uV ha.h hb.h).imp fun _ _ _ h=>zz h
theorem zb (ha:JT X E a f)(hb:JW X E (.BoolOp .Or (b::LH) pos) g):JW X E (.BoolOp .Or (a::b::LH) pos) (mOr f g):=(uU ha.h hb.h).imp fun _ _ _ h=>BF h
def Kt (f g:HU->M W):HU->M W:=fun ρ=>bd (f ρ) fun w=>bd (asB w) fun b=>if b=true then g ρ else pr (.bl false)
def KE (f g:HU->M W):HU->M W:=fun ρ=>bd (f ρ) fun w=>bd (asB w) fun b=>if b=true then pr (.bl true) else g ρ
def KD (f:HU->M W):HU->M W:=fun ρ=>bd (f ρ) fun w=>bd (asB w) fun b=>pr (.bl (!b))
theorem wW {α β:Type}{r:Wo->α->β->Prop}{o:Wo}{w:W}{v:V}{k:Bool->M α}{Q:β->Hp->Prop}(hr:Rv X.K o w v)(h:Ps (cg X E) r o (bd (asB w) k o.h) Q): ∃b,w=.bl b/\v=.bl b/\Ps (cg X E) r o (k b o.h) Q:=by
 cases w with
 |bl b=>unfold Rv at hr;exact⟨b,rfl,hr,h⟩
 |_=>exact h.elim
variable {u v:HU->M W}
theorem vV (ha:JE X E a u):JE X E (.UnaryOp .Not a pos) (KD u):=(ve ha.h).imp fun σ H Q h=>by
 obtain⟨o,ρ,rfl,R,S,h⟩:=h
 refine⟨o,ρ,rfl,R,S,Ps.bd h fun p x vx e1 R1 r1 h1=>?_⟩
 obtain⟨k,rfl,rfl,h2⟩:=wW r1 h1
 exact⟨k,rfl,h2.pr R1 (by unfold Rv;rfl)⟩
def mIf (f:HU->M Bool)(u v:HU->M W):HU->M W:=fun ρ=>bd (f ρ) fun b=>if b=true then u ρ else v ρ
def m1 (f:W->M W)(fa:HU->M W):HU->M W:=fun ρ=>bd (fa ρ) f
def KW (w:W):M W:=match w with
 |.int i=>pr (.int (-i))
 |_=>no
theorem AU (ha:JE X E a u):JE X E (.UnaryOp .USub a pos) (m1 KW u):=(BO zq ha.h).imp fun σ H Q h=>by
 obtain⟨o,ρ,rfl,R,S,h⟩:=h
 refine⟨o,ρ,rfl,R,S,Ps.bd h fun p x vx e1 R1 r1 h1=>?_⟩
 unfold KW at h1
 split at h1
 ·unfold Rv at r1
  exact⟨_,r1,h1.pr R1 (by unfold Rv;rfl)⟩
 ·exact h1.elim
def KB:HU->M (List W):=fun _=>pr []
def Kw (fa:HU->M W)(fr:HU->M (List W)):HU->M (List W):=fun ρ=>bd (fa ρ) fun x=>bd (fr ρ) fun l=>pr (x::l)
variable {es:List Expr}{l:HU->M (List W)}{e:Expr}
theorem b6:JA X E [] KB:=Ln.imp fun σ H Q h=>by
 obtain⟨o,ρ,rfl,R,S,h⟩:=h
 exact h.pr R Rvs.nil
theorem aq (ha:JE X E e u)(hr:JA X E es l)(hs:G4 (e::es) X.env=(false,G0 e X.env)::G4 es X.env:=by rfl):JA X E (e::es) (Kw u l):=(ak ha.h hr.h hs).imp fun σ H Q h=>by
 obtain⟨o,ρ,rfl,R,S,h⟩:=h
 exact⟨o,ρ,rfl,R,S,Ps.bd h fun p x vx e1 R1 r1 h1=>⟨p,ρ,rfl,R1,S.mono R e1,Ps.bd h1 fun q y vy e2 R2 r2 h2=>h2.pr R2 (Rvs.cons (r1.mono R1 e2) r2)⟩⟩
def Nb (l:List W):M W:=gd (l.length<=sizeLine) (pr (.tup l))
def KJ (l:HU->M (List W)):HU->M W:=fun ρ=>bd (l ρ) Nb
theorem Rv.newT {K:PySem.W.Frag}{o:Wo}(R:Rel K o){q:GH}{l:List W}{vs:List V}(h:o.H q=none)(hl:Rvs K o l vs):Rv K ⟨o.mu,o.h,upd o.H q (.tup vs)⟩ (.tup l) (.ref q):=by
 unfold Rv;exact⟨q,vs,rfl,.of aC,hl.mono R (Ex.new h)⟩
theorem Rv.newL {K:PySem.W.Frag}{o:Wo}(R:Rel K o){q:GH}{l:List W}{vs:List V}(h:o.H q=none)(hl:Rvs K o l vs):Rv K ⟨o.mu,o.h,upd o.H q (.lst vs)⟩ (.tl l) (.ref q):=by
 unfold Rv
 exact⟨q,vs,rfl,aC,fun z=>Lv.there R (show Lv o q from z) h,hl.mono R (Ex.new h)⟩
theorem AN {x1}(h:JA X E es l):JE X E (.Tuple es x1 pos) (KJ l):=(kF h.h).imp fun σ H Q h=>by
 obtain⟨o,ρ,rfl,R,S,h⟩:=h
 refine⟨o,ρ,rfl,R,S,Ps.bd h fun p x vx e1 R1 r1 h1=>?_⟩
 obtain⟨hz,h1⟩:=h1.gd
 exact⟨by rw[r1.len];exact hz,fun q hq=>Ps.at (p:=⟨p.mu,p.h,upd p.H q (.tup vx)⟩) h1 rfl (Ex.new hq) (R1.new hq) (Rv.newT R1 hq r1)⟩
def mTl (l:HU->M (List W)):HU->M W:=fun ρ=>bd (l ρ) fun x=>pr (.tl x)
def KY (x:List W):M W:=fun h=>.ok (.loc h.length) (h++[.lst x])
def KA (l:HU->M (List W)):HU->M W:=fun ρ=>bd (l ρ) KY
theorem pJ (h:JF X E e l):JE X E e (mTl l):=h.h.imp fun σ H Q h=>by
 obtain⟨o,ρ,rfl,R,S,h⟩:=h
 exact⟨o,ρ,rfl,R,S,Ps.bd h fun p x vx e1 R1 r1 h1=>fun q hq=>Ps.at (p:=⟨p.mu,p.h,upd p.H q (.lst vx)⟩) h1 rfl (Ex.new hq) (R1.new hq) (Rv.newL R1 hq r1)⟩
theorem iL (h:JF X E e l):JE X E e (KA l):=h.h.imp fun σ H Q h=>by
 obtain⟨o,ρ,rfl,R,S,h⟩:=h
 refine⟨o,ρ,rfl,R,S,Ps.bd h fun p x vx e1 R1 r1 h1=>fun q hq=>?_⟩
 refine Ps.at (p:=p.add q (.lst x) (.lst vx)) h1 rfl (Ex.add hq) (R1.addL hq r1) ?_
 unfold Rv
 exact⟨by show _<(p.h++[_]).length;simp,by show V.ref q=V.ref (if p.h.length=p.h.length then q else _);rw[if_pos rfl]⟩
def Kl (l:HU->M (List W)):HU->M (List W):=fun ρ=>bd (l ρ) fun x=>gd (x.length<=sizeLine) (pr x)
theorem kS (h:JA X E es l):JF X E (.List es pos) (Kl l):=(Aa h.h).impF fun σ H Q h=>by
 obtain⟨o,ρ,rfl,R,S,h⟩:=h
 refine⟨o,ρ,rfl,R,S,Ps.bd h fun p x vx e1 R1 r1 h1=>?_⟩
 obtain⟨hz,h1⟩:=h1.gd
 exact⟨by rw[r1.len];exact hz,h1.pr R1 r1⟩
end
end
section
section
variable {X:Cx}{E:XK}
theorem LN {K:PySem.W.Frag}{o:Wo}{i:Int}{v:V}:Rv K o (.int i) v↔v=.int i:=by unfold Rv;exact Iff.rfl
theorem LP {K:PySem.W.Frag}{o:Wo}{i:Str}{v:V}:Rv K o (.str i) v↔v=.str i:=by unfold Rv;exact Iff.rfl
theorem LM {K:PySem.W.Frag}{o:Wo}{i:Bool}{v:V}:Rv K o (.bl i) v↔v=.bl i:=by unfold Rv;exact Iff.rfl
theorem LO {K:PySem.W.Frag}{o:Wo}{v:V}:Rv K o .non v↔v=.non:=by unfold Rv;exact Iff.rfl
theorem LQ {K:PySem.W.Frag}{o:Wo}{n:String}{v:V}:Rv K o (.ty n) v↔v=.ty n:=by unfold Rv;exact Iff.rfl
def Kr (w:W):M (List W):=match w with
 |.tl l=>pr l
 |.cl l=>pr l
 |.loc k=>fun h=>match h[k]? with
  |some (.lst l)=>.ok l h
  |_=>.bad
 |_=>no
theorem gc {α β:Type}{r:Wo->α->β->Prop}{o:Wo}{w:W}{v:V}{k:List W->M α}{Q:β->Hp->Prop}(R:Rel X.K o)(hr:Rv X.K o w v)(h:Ps (cg X E) r o (bd (Kr w) k o.h) Q):
  ∃l a vs,v=.ref a/\SqL X.K o.H a vs/\Rvs X.K o l vs/\Ps (cg X E) r o (k l o.h) Q:=by
 cases w with
 |tl l=>unfold Rv at hr;obtain⟨a,vs,e,h1,_,h2⟩:=hr;exact⟨l,a,vs,e,.of h1,h2,h⟩
 |cl l=>
  unfold Rv at hr
  obtain⟨a,vs,e,h1,h2⟩:=hr
  rcases h1 with⟨h1,_⟩|h1
  ·exact⟨l,a,vs,e,.inl h1,h2,h⟩
  ·exact⟨l,a,vs,e,.inr h1,h2,h⟩
 |loc j=>
  unfold Rv at hr
  unfold Kr bd at h
  cases e:o.h[j]? with
  |none=>simp only[e] at h;exact h.elim
  |some b=>
   cases b with
   |lst l=>
    simp only[e] at h
    obtain⟨vs,h1,h2⟩:=R.ob j _ e
    exact⟨l,_,vs,hr.2,.of h1,h2,h⟩
   |_=>simp only[e] at h;exact h.elim
 |_=>exact h.elim
def Kp (w:W):M (List W):=match w with
 |.tl l=>pr l
 |.loc k=>fun h=>match h[k]? with
  |some (.lst l)=>.ok l h
  |_=>.bad
 |_=>no
theorem ft {α β:Type}{r:Wo->α->β->Prop}{o:Wo}{w:W}{v:V}{k:List W->M α}{Q:β->Hp->Prop}(R:Rel X.K o)(hr:Rv X.K o w v)(h:Ps (cg X E) r o (bd (Kp w) k o.h) Q):
  ∃l a vs,v=.ref a/\o.H a=some (.lst vs)/\Rvs X.K o l vs/\Ps (cg X E) r o (k l o.h) Q:=by
 cases w with
 |tl l=>unfold Rv at hr;obtain⟨a,vs,e,h1,_,h2⟩:=hr;exact⟨l,a,vs,e,h1,h2,h⟩
 |loc j=>
  unfold Rv at hr
  unfold Kp bd at h
  cases e:o.h[j]? with
  |none=>simp only[e] at h;exact h.elim
  |some b=>
   cases b with
   |lst l=>
    simp only[e] at h
    obtain⟨vs,h1,h2⟩:=R.ob j _ e
    exact⟨l,_,vs,hr.2,h1,h2,h⟩
   |_=>simp only[e] at h;exact h.elim
 |_=>exact h.elim
theorem nS {o:Wo}{q:GH}{l:List W}{vs:List V}{Q:VK}(R:Rel X.K o)(hq:o.H q=none)(hl:Rvs X.K o l vs)(h:Ps (cg X E) (Rv X.K) o (pr (.tup l) o.h) Q):Q (.ref q) (upd o.H q (.tup vs)):=
 Ps.at (p:=⟨o.mu,o.h,upd o.H q (.tup vs)⟩) h rfl (Ex.new hq) (R.new hq) (Rv.newT R hq hl)
theorem iS {o:Wo}{q:GH}{l:List W}{vs:List V}{Q:VK}(R:Rel X.K o)(hq:o.H q=none)(hl:Rvs X.K o l vs)(h:Ps (cg X E) (Rv X.K) o (pr (.tl l) o.h) Q):Q (.ref q) (upd o.H q (.lst vs)):=
 Ps.at (p:=⟨o.mu,o.h,upd o.H q (.lst vs)⟩) h rfl (Ex.new hq) (R.new hq) (Rv.newL R hq hl)
def Il (x y:W):M W:=match x,y with
 |.int i,.int j=>pr (.int (i+j))
 |.str a,.str b=>gd (a.length+b.length<=sizeLine) (pr (.str (a++b)))
 |.tup a,.tup b=>gd (a.isEmpty=false/\a.length+b.length<=sizeLine) (pr (.tup (a++b)))
 |x,y=>bd (Kp x) fun a=>bd (Kp y) fun b=>gd (a.length+b.length<=sizeLine) (pr (.tl (a++b)))
theorem xM:OpM X E (fun x y H Q=>rI0 (fun i j=>.int (i+j)) x y H Q\/(fun x y H Q=>(fun x y H Q=> ∃i j,x=.str i/\y=.str j/\i.length+j.length<=sizeLine/\Q (.str (i++j)) H) x y H Q\/(fun x y H Q=>LF X.K x y H Q\/rCat x y H Q) x y H Q) x y H Q) Il:=by
 intro o x y vx vy Q R rx ry h
 unfold Il at h
 split at h
 ·exact .inl ⟨_,_,LN.mp rx,LN.mp ry,h.pr R (LN.mpr rfl)⟩
 ·obtain⟨hz,h⟩:=h.gd
  exact .inr (.inl ⟨_,_,LP.mp rx,LP.mp ry,hz,h.pr R (LP.mpr rfl)⟩)
 ·obtain⟨hz,h⟩:=h.gd
  unfold Rv at rx ry
  obtain⟨a,vs,e1,s1,r1⟩:=rx
  obtain⟨b,us,e2,s2,r2⟩:=ry
  have n1:vs≠ []:=fun z=>by
   have:=r1.len
   rw[z] at this
   have q:=hz.1
   rw[List.eq_nil_of_length_eq_zero this.symm] at q
   cases q
  refine .inr (.inr (.inl ⟨a,b,vs,us,e1,e2,s1,s2,n1,by rw[r1.len,r2.len];exact hz.2,fun z=>?_,fun _ q hq=>nS R hq (r1.app r2) h⟩))
  refine h.pr R ?_
  unfold Rv
  exact⟨a,vs,rfl,s1,by have:=r1.app r2;rw[z,DM] at this;exact this⟩
 ·obtain⟨l,a,vs,e1,s1,r1,h⟩:=ft R rx h
  obtain⟨m,b,us,e2,s2,r2,h⟩:=ft R ry h
  obtain⟨hz,h⟩:=h.gd
  exact .inr (.inr (.inr ⟨a,b,vs,us,e1,e2,s1,s2,by rw[r1.len,r2.len];exact hz,fun q hq=>iS R hq (r1.app r2) h⟩))
theorem A8 {a b:Expr}{pos:G1}{fa fb:HU->M W}(ha:JE X E a fa)(hb:JE X E b fb):JE X E (.BinOp a .Add b pos) (m2 Il fa fb):=
 kU (K9.or (La.or (Lb.or vq))) xM ha hb
def iiW (C:Int->Int->Prop) [∀i j,Decidable (C i j)] (g:Int->Int->W)(x y:W):M W:=match x,y with
 |.int i,.int j=>gd (C i j) (pr (g i j))
 |_,_=>no
theorem gu {C:Int->Int->Prop} [∀i j,Decidable (C i j)] {g:Int->Int->W}{g':Int->Int->V}(hg: ∀o i j,Rv X.K o (g i j) (g' i j)):OpM X E (rI C g') (iiW C g):=by
 intro o x y vx vy Q R rx ry h
 unfold iiW at h
 split at h
 ·obtain⟨hz,h⟩:=h.gd
  exact⟨_,_,LN.mp rx,LN.mp ry,hz,h.pr R (hg _ _ _)⟩
 ·exact h.elim
theorem K8 {f:GC->GC->Sem GC}{g':Int->Int->V}(h:OpR X f (rI0 g')):OpR X f (rI (fun _ _=>True) g'):=fun pins s σ H x y v u Q I rx ry q=>h pins s σ H x y v u Q I rx ry (let ⟨i,j,e1,e2,_,q⟩:=q;⟨i,j,e1,e2,q⟩)
noncomputable abbrev CT:Int->Int->Prop:=fun _ _=>True
def MP:W->W->M W:=iiW CT fun i j=>.int (i - j)
theorem AQ {a b:Expr}{pos:G1}{fa fb:HU->M W}(ha:JE X E a fa)(hb:JE X E b fb):JE X E (.BinOp a .Sub b pos) (m2 MP fa fb):=
 kU (K8 Ao) (gu fun _ _ _=>LN.mpr rfl) ha hb
noncomputable def HH (i j:Int):Prop:=0<j/\j<2 ^ 200
instance (i j:Int):Decidable (HH i j):=by unfold HH;infer_instance
theorem vp:OpR X (Hi .FloorDiv) (rI HH fun i j=>.int (i / j)):=opI fun i j _ _ _ _ _ hc q=>by
 have h1:(0:Int)<j:=hc.1
 have h2:j<2 ^ 200:=hc.2
 refine floordiv_int (by omega) (by rw[F6 i (by omega)];exact q) (.inl (PyProof.noPylong_of_log2 ?_))
 have h3:j.natAbs<2 ^ 200:=by omega
 exact Dv ((Fj (by omega)).mpr h3) (by decide)
def IU:W->W->M W:=iiW HH fun i j=>.int (i / j)
theorem yp {a b:Expr}{pos:G1}{fa fb:HU->M W}(ha:JE X E a fa)(hb:JE X E b fb):JE X E (.BinOp a .FloorDiv b pos) (m2 IU fa fb):=
 kU vp (gu fun _ _ _=>LN.mpr rfl) ha hb
noncomputable abbrev CMod:Int->Int->Prop:=fun _ j=>0<j
def KQ:W->W->M W:=iiW CMod fun i j=>.int (i % j)
theorem AW {a b:Expr}{pos:G1}{fa fb:HU->M W}(ha:JE X E a fa)(hb:JE X E b fb):JE X E (.BinOp a .Mod b pos) (m2 KQ fa fb):=
 kU At (gu fun _ _ _=>LN.mpr rfl) ha hb
instance (i j:Int):Decidable (HK i j):=by unfold HK;infer_instance
def Lx:W->W->M W:=iiW HK fun i j=>.int (i ^ j.toNat)
theorem AT {a b:Expr}{pos:G1}{fa fb:HU->M W}(ha:JE X E a fa)(hb:JE X E b fb):JE X E (.BinOp a .Pow b pos) (m2 Lx fa fb):=
 kU Ar (gu fun _ _ _=>LN.mpr rfl) ha hb
noncomputable abbrev CShr:Int->Int->Prop:=fun _ j=>0<=j
def Mq:W->W->M W:=iiW CShr fun i j=>.int (i / 2 ^ j.toNat)
theorem AS {a b:Expr}{pos:G1}{fa fb:HU->M W}(ha:JE X E a fa)(hb:JE X E b fb):JE X E (.BinOp a .RShift b pos) (m2 Mq fa fb):=
 kU Ap (gu fun _ _ _=>LN.mpr rfl) ha hb
theorem x6 {z:Str}{n:Int}(h0:0<=n)(h1:n<=10000)(h:z.length<=30000)(hz:z.length * n.toNat<=1000000):MulOk z n:=by
 refine⟨?_,fun a b=>?_,fun a b=>?_⟩
 ·rw[EW,decide_eq_false_iff_not,decide_eq_false_iff_not];omega
 ·have:(100000000000000:Int)<=(2 ^ 63 - 1) / n:=Int.le_ediv_of_mul_le (by omega) (by omega)
  omega
 ·unfold GD.Str.tooLong
  have:sizeLine=16777216:=by decide
  exact decide_eq_false (by omega)
instance (i j:Int):Decidable (CMul i j):=by unfold CMul;infer_instance
instance (i j:Int):Decidable (CMulB i j):=by unfold CMulB;infer_instance
def HJ (i j:Int):Prop:=CMul i j\/CMulB i j
instance (i j:Int):Decidable (HJ i j):=by unfold HJ;infer_instance
theorem Lf:OpR X (Hi .Mult) (rI HJ fun i j=>.int (i * j)):=opI fun _ _ _ _ _ _ _ hc q=>mul_int q (by rcases hc with h|h;exact h.ok;exact h.ok)
def KU (x y:W):M W:=match x,y with
 |.int i,.int j=>gd (HJ i j) (pr (.int (i * j)))
 |.str z,.int n=>gd (0<=n/\n<=10000/\z.length<=30000/\z.length * n.toNat<=1000000) (pr (.str (Txt.mul z n)))
 |x,.int n=>bd (Kp x) fun l=>gd (0<=n/\n<=1000000/\l.length * n.toNat<=sizeLine) (pr (.tl (List.replicate n.toNat l).flatten))
 |_,_=>no
theorem Rvs.rep {K:PySem.W.Frag}{o:Wo}{l:List W}{vs:List V}(h:Rvs K o l vs): ∀n:Nat,Rvs K o (List.replicate n l).flatten (List.replicate n vs).flatten
 |0=>Rvs.nil
 |n+1=>by rw[Ev,Ev,EB,EB];exact h.app (Rvs.rep h n)
theorem xL:OpM X E (fun x y H Q=>rI HJ (fun i j=>.int (i * j)) x y H Q\/(fun x y H Q=>(fun x y H Q=> ∃ (z:Str) (n:Int),x=.str z/\y=.int n/\MulOk z n/\Q (.str (Txt.mul z n)) H) x y H Q\/rRep x y H Q) x y H Q) KU:=by
 intro o x y vx vy Q R rx ry h
 unfold KU at h
 split at h
 ·obtain⟨hz,h⟩:=h.gd
  exact .inl ⟨_,_,LN.mp rx,LN.mp ry,hz,h.pr R (LN.mpr rfl)⟩
 ·obtain⟨hz,h⟩:=h.gd
  exact .inr (.inl ⟨_,_,LP.mp rx,LN.mp ry,x6 hz.1 hz.2.1 hz.2.2.1 hz.2.2.2,h.pr R (LP.mpr rfl)⟩)
 ·obtain⟨l,a,vs,e1,s1,r1,h⟩:=ft R rx h
  obtain⟨hz,h⟩:=h.gd
  exact .inr (.inr ⟨a,_,vs,e1,LN.mp ry,s1,by omega,by omega,by rw[r1.len];exact hz.2.2,fun q hq=>iS R hq (r1.rep _) h⟩)
 ·exact h.elim
theorem AV {a b:Expr}{pos:G1}{fa fb:HU->M W}(ha:JE X E a fa)(hb:JE X E b fb):JE X E (.BinOp a .Mult b pos) (m2 KU fa fb):=
 kU (Lf.or (Lg.or Aq)) xL ha hb
def ltW:W->W->M W:=iiW CT fun i j=>.bl (decide (i<j))
def leW:W->W->M W:=iiW CT fun i j=>.bl (decide (i<=j))
def gtW:W->W->M W:=iiW CT fun i j=>.bl (decide (j<i))
def geW:W->W->M W:=iiW CT fun i j=>.bl (decide (j<=i))
theorem Ah:OpM X E (rI CT fun i j=>.bl (decide (i<j))) ltW:=gu fun _ _ _=>LM.mpr rfl
theorem Ai:OpM X E (rI CT fun i j=>.bl (decide (i<=j))) leW:=gu fun _ _ _=>LM.mpr rfl
theorem Al:OpM X E (rI CT fun i j=>.bl (decide (j<i))) gtW:=gu fun _ _ _=>LM.mpr rfl
theorem Am:OpM X E (rI CT fun i j=>.bl (decide (j<=i))) geW:=gu fun _ _ _=>LM.mpr rfl
theorem BR:OpR X (G7 .Lt) (rI CT fun i j=>.bl (decide (i<j))):=K8 vo
theorem BS:OpR X (G7 .LtE) (rI CT fun i j=>.bl (decide (i<=j))):=K8 B1
theorem BV:OpR X (G7 .Gt) (rI CT fun i j=>.bl (decide (j<i))):=K8 mI
theorem BW:OpR X (G7 .GtE) (rI CT fun i j=>.bl (decide (j<=i))):=K8 B2
noncomputable def vOf:W->Option V
 |.non=>some .non
 |.bl b=>some (.bl b)
 |.int i=>some (.int i)
 |.str x=>some (.str x)
 |_=>none
theorem nz {K:PySem.W.Frag}{o:Wo}{x:W}{v u:V}(e:vOf x=some u)(h:Rv K o x v):v=u:=by
 cases x with
 |non=>cases e;exact LO.mp h
 |bl _=>cases e;exact LM.mp h
 |int _=>cases e;exact LN.mp h
 |str _=>cases e;exact LP.mp h
 |_=>cases e
theorem oX {x:W}{u:V}(e:vOf x=some u):IW u=true:=by
 cases x<;>first|(cases e;done)|(cases e;rfl)
def Ng:List W->Option (List V)
 |[]=>some []
 |w::l=>match vOf w,Ng l with
  |some v,some vs=>some (v::vs)
  |_,_=>none
theorem rL {K:PySem.W.Frag}{o:Wo}: ∀ {l:List W}{vs us:List V},Ng l=some us->Rvs K o l vs->vs=us
 |[],vs,us,e,h=>by unfold Rvs at h;cases e;exact h
 |w::l,vs,us,e,h=>by
  unfold Rvs at h
  obtain⟨v,r,rfl,h1,h2⟩:=h
  unfold Ng at e
  split at e
  ·rename_i v' vs' e1 e2
   cases e
   rw[nz e1 h1,rL e2 h2]
  ·cases e
theorem mi: ∀ {l:List W}{us:List V},Ng l=some us->us.all IW=true
 |[],us,e=>by cases e;rfl
 |w::l,us,e=>by
  unfold Ng at e
  split at e
  ·rename_i v' vs' e1 e2
   cases e
   rw[Es,oX e1,mi e2];rfl
  ·cases e
end
end
section
noncomputable def Lm {α β:Type}(f:α->Option β):List α->Option (List β)
 |[]=>some []
 |a::l=>match f a,Lm f l with
  |some b,some r=>some (b::r)
  |_,_=>none
def IH (h:List Ob):Nat->W->Option HD
 |0,_=>none
 |_+1,.non=>some .none
 |_+1,.bl b=>some (.bool b)
 |_+1,.int i=>some (.int i)
 |_+1,.str x=>some (.str x)
 |n+1,.tup l=>(Lm (IH h n) l).map .tuple
 |n+1,.tl l=>(Lm (IH h n) l).map .list
 |n+1,.cl l=>(Lm (IH h n) l).map .list
 |n+1,.loc k=>match h[k]? with
  |some (.lst l)=>(Lm (IH h n) l).map .list
  |_=>none
 |_+1,_=>none
section
variable {K:PySem.W.Frag}{o:Wo}
theorem kH {n:Nat}(ih: ∀w v d,IH o.h n w=some d->Rv K o w v->Den K o.H v d/\d.depth<=n): ∀ {l:List W}{vs:List V}{ds:List HD},Lm (IH o.h n) l=some ds->Rvs K o l vs->HQ K o.H vs ds/\HD.depthAll ds<=n
 |[],vs,ds,e,h=>by unfold Rvs at h;cases e;rw[h];exact⟨.nil,by simp [HD.depthAll]⟩
 |w::l,vs,ds,e,h=>by
  unfold Rvs at h
  obtain⟨v,r,rfl,h1,h2⟩:=h
  unfold Lm at e
  split at e
  ·rename_i d ds' e1 e2
   cases e
   obtain⟨a1,a2⟩:=ih w v d e1 h1
   obtain⟨b1,b2⟩:=kH ih e2 h2
   exact⟨.cons a1 b1,by rw[HD.depthAll];omega⟩
  ·cases e
theorem jD (R:Rel K o): ∀ (n:Nat) (w:W) (v:V) (d:HD),IH o.h n w=some d->Rv K o w v->Den K o.H v d/\d.depth<=n
 |0,_,_,_,e,_=>by cases e
 |n+1,w,v,d,e,h=>by
  have ih:=jD R n
  have seq: ∀ {l:List W}{a:GH}{vs:List V}{ds:List HD},Lm (IH o.h n) l=some ds->SqL K o.H a vs->Rvs K o l vs->Den K o.H (.ref a) (.list ds)/\(HD.list ds).depth<=n+1:=fun{l a vs ds} e s r=>by
   obtain⟨b1,b2⟩:=kH ih e r
   refine⟨.lst s b1,?_⟩
   rw[HD.depth];omega
  cases w with
  |non=>cases e;rw[LO.mp h];exact⟨.non,by simp [HD.depth]⟩
  |bl b=>cases e;rw[LM.mp h];exact⟨.bl b,by simp [HD.depth]⟩
  |int b=>cases e;rw[LN.mp h];exact⟨.int b,by simp [HD.depth]⟩
  |str b=>cases e;rw[LP.mp h];exact⟨.str b,by simp [HD.depth]⟩
  |ty b=>cases e
  |exc b=>cases e
  |cls b=>cases e
  |dv a b=>cases e
  |dn a b c=>cases e
  |kt a=>cases e
  |tup l=>
   unfold IH at e
   obtain⟨ds,e1,rfl⟩:=DX.mp e
   unfold Rv at h
   obtain⟨a,vs,rfl,s,r⟩:=h
   obtain⟨b1,b2⟩:=kH ih e1 r
   refine⟨.tup s b1,?_⟩
   rw[HD.depth];omega
  |tl l=>
   unfold IH at e
   obtain⟨ds,e1,rfl⟩:=DX.mp e
   unfold Rv at h
   obtain⟨a,vs,rfl,s,_,r⟩:=h
   exact seq e1 (.of s) r
  |cl l=>
   unfold IH at e
   obtain⟨ds,e1,rfl⟩:=DX.mp e
   unfold Rv at h
   obtain⟨a,vs,rfl,s,r⟩:=h
   refine seq e1 ?_ r
   rcases s with⟨s,_⟩|s
   ·exact .inl s
   ·exact .inr s
  |loc k=>
   unfold IH at e
   split at e
   ·rename_i l hk
    obtain⟨ds,e1,rfl⟩:=DX.mp e
    unfold Rv at h
    obtain⟨vs,h1,h2⟩:=R.ob k _ hk
    rw[h.2]
    exact seq e1 (.of h1) h2
   ·cases e
end
def eqB (x y:W)(h:List Ob):Option Bool:=match vOf x,vOf y with
 |some a,some b=>if Mm a b=true then some (decide (a=b)) else match IH h 50 x,IH h 50 y with
  |some d,some e=>if d.canLay0=true/\e.canLay0=true then some (HD.eqv d e) else none
  |_,_=>none
 |_,_=>match IH h 50 x,IH h 50 y with
  |some d,some e=>if d.canLay0=true/\e.canLay0=true then some (HD.eqv d e) else none
  |_,_=>none
def eqW (x y:W):M W:=fun h=>match eqB x y h with
 |some b=>.ok (.bl b) h
 |none=>.bad
def neW (x y:W):M W:=fun h=>match eqB x y h with
 |some b=>.ok (.bl (!b)) h
 |none=>.bad
section
variable {X:Cx}{E:XK}
theorem wG {o:Wo}{x y:W}{vx vy:V}{b:Bool}(hu:X.A.units+64<GM)(R:Rel X.K o)(rx:Rv X.K o x vx)(ry:Rv X.K o y vy)(e:eqB x y o.h=some b):
  (Mm vx vy=true/\b=decide (vx=vy))\/ ∃d e,Den X.K o.H vx d/\Den X.K o.H vy e/\d.canLay0=true/\e.canLay0=true/\X.A.units+min d.depth e.depth<GM/\b=HD.eqv d e:=by
 have deep:(match IH o.h 50 x,IH o.h 50 y with
  |some d,some e=>if d.canLay0=true/\e.canLay0=true then some (HD.eqv d e) else none
  |_,_=>none)=some b-> ∃d e,Den X.K o.H vx d/\Den X.K o.H vy e/\d.canLay0=true/\e.canLay0=true/\X.A.units+min d.depth e.depth<GM/\b=HD.eqv d e:=fun q=>by
  split at q
  ·rename_i d e' e1 e2
   split at q
   ·rename_i hc
    obtain⟨a1,a2⟩:=jD R _ _ _ _ e1 rx
    obtain⟨b1,b2⟩:=jD R _ _ _ _ e2 ry
    exact⟨d,e',a1,b1,hc.1,hc.2,by omega,(Option.some.inj q).symm⟩
   ·cases q
  ·cases q
 unfold eqB at e
 split at e
 ·rename_i a c e1 e2
  split at e
  ·rename_i hs
   rw[nz e1 rx,nz e2 ry]
   exact .inl ⟨hs,(Option.some.inj e).symm⟩
  ·exact .inr (deep e)
 ·exact .inr (deep e)
theorem An (hu:X.A.units+64<GM):OpM X E (fun x y H Q=>rEq x y H Q\/LG X.K X.A false x y H Q) eqW:=by
 intro o x y vx vy Q R rx ry h
 unfold eqW at h
 cases e:eqB x y o.h with
 |none=>rw[e] at h;exact h.elim
 |some b=>
  rw[e] at h
  have q:Q (.bl b) o.H:=Ps.pr (c:=cg X E) (r:=Rv X.K) (a:=W.bl b) h R (LM.mpr rfl)
  rcases wG hu R rx ry e with⟨s,rfl⟩|⟨d,e',a1,a2,a3,a4,a5,rfl⟩
  ·exact .inl ⟨s,q⟩
  ·exact .inr ⟨d,e',a1,a2,a3,a4,a5,by rw[if_neg Ds];exact q⟩
theorem Ag (hu:X.A.units+64<GM):OpM X E (fun x y H Q=>rNe x y H Q\/LG X.K X.A true x y H Q) neW:=by
 intro o x y vx vy Q R rx ry h
 unfold neW at h
 cases e:eqB x y o.h with
 |none=>rw[e] at h;exact h.elim
 |some b=>
  rw[e] at h
  have q:Q (.bl (!b)) o.H:=Ps.pr (c:=cg X E) (r:=Rv X.K) (a:=W.bl (!b)) h R (LM.mpr rfl)
  rcases wG hu R rx ry e with⟨s,rfl⟩|⟨d,e',a1,a2,a3,a4,a5,rfl⟩
  ·exact .inl ⟨s,q⟩
  ·exact .inr ⟨d,e',a1,a2,a3,a4,a5,by rw[if_pos rfl];exact q⟩
theorem BX:OpR X (G7 .Eq) (fun x y H Q=>rEq x y H Q\/LG X.K X.A false x y H Q):=Lc.or Av
theorem BQ:OpR X (G7 .NotEq) (fun x y H Q=>rNe x y H Q\/LG X.K X.A true x y H Q):=Lh.or As
def Ke:W->Option Key
 |.int i=>some (.inl i)
 |.str x=>some (.inr x)
 |_=>none
theorem kY {K:PySem.W.Frag}{o:Wo}{x:W}{v:V}{k:Key}(e:Ke x=some k)(h:Rv K o x v):v=kV k:=by
 cases x with
 |int _=>cases e;exact LN.mp h
 |str _=>cases e;exact LP.mp h
 |_=>cases e
def II (w:W)(h:List Ob):Option (List Key×List W):=match w with
 |.dv ks ws=>some (ks,ws)
 |.loc k=>match h[k]? with
  |some (.dic ks ws)=>some (ks,ws)
  |_=>none
 |_=>none
theorem qg {o:Wo}{w:W}{v:V}{ks:List Key}{ws:List W}(R:Rel X.K o)(e:II w o.h=some (ks,ws))(h:Rv X.K o w v): ∃a kvs,v=.ref a/\Rd o.H a (.dK kvs)/\kvs.map (·.1)=ks/\Rvs X.K o ws (kvs.map (·.2)):=by
 cases w with
 |dv a b=>
  cases e
  unfold Rv at h
  obtain⟨a,kvs,e,h1,_,h2,h3⟩:=h
  exact⟨a,kvs,e,h1,h2,h3⟩
 |loc k=>
  unfold II at e
  dsimp only at e
  split at e
  ·rename_i a b hk
   cases e
   unfold Rv at h
   obtain⟨kvs,h1,h2,h3⟩:=R.ob k _ hk
   exact⟨_,kvs,h.2,.inl h1,h2,h3⟩
  ·cases e
 |_=>cases e
noncomputable def atK {κ:Type} [DecidableEq κ]:List κ->List W->κ->Option W
 |k::ks,w::ws,x=>if k=x then some w else atK ks ws x
 |_,_,_=>none
theorem oR {κ:Type} [DecidableEq κ] {K:PySem.W.Frag}{o:Wo}{x:κ}: ∀ {ks:List κ}{ws:List W}{kvs:List (κ×V)},kvs.map (·.1)=ks->Rvs K o ws (kvs.map (·.2))->match atK ks ws x with
  |some w=> ∃v,Nc kvs x=some v/\Rv K o w v
  |none=>Nc kvs x=none
 |[],_,[],_,_=>rfl
 |_,_,(k,v)::r,e,h=>by
  subst e
  cases ‹List W› with
  |nil=>unfold Rvs at h;cases h
  |cons w ws=>
   unfold Rvs at h
   obtain⟨v',r',e',h1,h2⟩:=h
   cases e'
   have ih:=oR (x:=x) (ks:=r.map (·.1)) (ws:=ws) (kvs:=r) rfl h2
   show match (if k=x then some w else atK (r.map (·.1)) ws x) with
    |some w=> ∃v',Nc ((k,v)::r) x=some v'/\Rv K o w v'
    |none=>Nc ((k,v)::r) x=none
   by_cases z:k=x
   ·rw[if_pos z]
    exact⟨v,by unfold Nc;rw[List.find?_cons_of_pos (by simpa using z)];rfl,h1⟩
   ·rw[if_neg z]
    have ev:Nc ((k,v)::r) x=Nc r x:=by unfold Nc;rw[List.find?_cons_of_neg (by simpa using z)]
    rw[ev]
    exact ih
def inB (x y:W)(h:List Ob):Option Bool:=match y with
 |.str b=>match x with
  |.str a=>some (!(GD.Str.occurrences b a 0 b.length 1).isEmpty)
  |_=>none
 |.tup l=>match vOf x,Ng l with
  |some v,some vs=>some (inV v vs)
  |_,_=>none
 |y=>match II y h with
  |some (ks,ws)=>match Ke x with
   |some k=>some (atK ks ws k).isSome
   |none=>none
  |none=>match Kr y h with
   |.ok l _=>match vOf x,Ng l with
    |some v,some vs=>some (inV v vs)
    |_,_=>none
   |_=>none
def inW (x y:W):M W:=fun h=>match inB x y h with
 |some b=>.ok (.bl b) h
 |none=>.bad
def cM (x y:W):M W:=fun h=>match inB x y h with
 |some b=>.ok (.bl (!b)) h
 |none=>.bad
theorem pL {o:Wo}{w:W}{v:V}{l:List W}{h':List Ob}(R:Rel X.K o)(hr:Rv X.K o w v)(e:Kr w o.h=.ok l h'):h'=o.h/\ ∃a vs,v=.ref a/\SqL X.K o.H a vs/\Rvs X.K o l vs:=by
 have hh:h'=o.h:=by
  cases w with
  |tl l'=>cases e;rfl
  |cl l'=>cases e;rfl
  |loc j=>
   unfold Kr at e
   dsimp only at e
   split at e
   ·cases e;rfl
   ·cases e
  |_=>cases e
 subst hh
 have h:Ps (cg X (fun _ _ _=>False)) (fun (_:Wo) (a:List W) (b:List W)=>a=b) o (bd (Kr w) (fun l=>pr l) o.h) (fun b _=>b=l):=by
  unfold bd
  rw[e]
  intro p b _ _ _ q
  exact q.symm
 obtain⟨m,a,vs,e1,e2,e3,h⟩:=gc R hr h
 have:m=l:=h.pr R rfl
 subst this
 exact⟨rfl,a,vs,e1,e2,e3⟩
def rInD:R2:=fun x y H Q=> ∃a ov,y=.ref a/\HP H a x ov/\Q (.bl ov.isSome) H
def rS:R2:=fun x y H Q=> ∃a ov,y=.ref a/\HP H a x ov/\Q (.bl (!ov.isSome)) H
theorem Au (hu:X.A.units+1<GM):OpR X (G7 .In) rInD:=by
 intro pins s σ H x y v u Q I rx ry h
 obtain⟨a,ov,rfl,g,q⟩:=h
 cases ry
 exact Df hu I g rx fun s3 I3=>⟨.bl ov.isSome,H,I3,rfl,q⟩
theorem tN (hu:X.A.units+1<GM):OpR X (G7 .NotIn) rS:=by
 intro pins s σ H x y v u Q I rx ry h
 obtain⟨a,ov,rfl,g,q⟩:=h
 cases ry
 exact yN hu I g rx fun s3 I3=>⟨.bl (!ov.isSome),H,I3,rfl,q⟩
theorem we {o:Wo}{x y:W}{vx vy:V}{b:Bool}(R:Rel X.K o)(rx:Rv X.K o x vx)(ry:Rv X.K o y vy)(e:inB x y o.h=some b):
  (∃i j,vx=.str i/\vy=.str j/\b=(!(GD.Str.occurrences j i 0 j.length 1).isEmpty))\/(∃p xs,vy=.ref p/\(SqL X.K o.H p xs\/SqT X.K o.H p xs)/\IW vx=true/\xs.all IW=true/\b=inV vx xs)\/ ∃a ov,vy=.ref a/\HP o.H a vx ov/\b=ov.isSome:=by
 have fl: ∀ {l:List W}{vs:List V},Rvs X.K o l vs->(match vOf x,Ng l with
    |some v,some vs=>some (inV v vs)
    |_,_=>none)=some b->IW vx=true/\vs.all IW=true/\b=inV vx vs:=fun{l vs} r q=>by
  split at q
  ·rename_i v us e1 e2
   rw[nz e1 rx,rL e2 r]
   exact⟨oX e1,mi e2,(Option.some.inj q).symm⟩
  ·cases q
 unfold inB at e
 split at e
 ·split at e
  ·exact .inl ⟨_,_,LP.mp rx,LP.mp ry,(Option.some.inj e).symm⟩
  ·cases e
 ·unfold Rv at ry
  obtain⟨a,vs,rfl,s,r⟩:=ry
  obtain⟨f1,f2,f3⟩:=fl r e
  exact .inr (.inl ⟨a,vs,rfl,.inr s,f1,f2,f3⟩)
 ·split at e
  ·rename_i ks ws hd
   split at e
   ·rename_i k hk
    obtain⟨a,kvs,rfl,h1,h2,h3⟩:=qg R hd ry
    rw[kY hk rx]
    refine .inr (.inr ⟨a,Nc kvs k,rfl,.inl ⟨kvs,k,h1,rfl,rfl⟩,?_⟩)
    rw[<-Option.some.inj e]
    have:=oR (x:=k) h2 h3
    cases q:atK ks ws k with
    |none=>rw[q] at this;rw[show Nc kvs k=none from this];rfl
    |some w=>rw[q] at this;obtain⟨v,hv,_⟩:=this;rw[hv];rfl
   ·cases e
  ·split at e
   ·rename_i l h' hl
    obtain⟨rfl,a,vs,rfl,s,r⟩:=pL R ry hl
    obtain⟨f1,f2,f3⟩:=fl r e
    exact .inr (.inl ⟨a,vs,rfl,.inl s,f1,f2,f3⟩)
   ·cases e
noncomputable abbrev rInA (X:Cx):R2:=fun x y H Q=>(fun x y H Q=> ∃i j,x=.str i/\y=.str j/\Q (.bl (!(GD.Str.occurrences j i 0 j.length 1).isEmpty)) H) x y H Q\/(fun x y H Q=>rIn X.K false x y H Q\/rInD x y H Q) x y H Q
noncomputable abbrev rT (X:Cx):R2:=fun x y H Q=>(fun x y H Q=> ∃i j,x=.str i/\y=.str j/\Q (.bl (!(!(GD.Str.occurrences j i 0 j.length 1).isEmpty))) H) x y H Q\/(fun x y H Q=>rIn X.K true x y H Q\/rS x y H Q) x y H Q
theorem BU (hu:X.A.units+1<GM):OpR X (G7 .In) (rInA X):=Le.or (Ld.or (Au hu))
theorem vn (hu:X.A.units+1<GM):OpR X (G7 .NotIn) (rT X):=Lj.or (Li.or (tN hu))
theorem Ak:OpM X E (rInA X) inW:=by
 intro o x y vx vy Q R rx ry h
 unfold inW at h
 cases e:inB x y o.h with
 |none=>rw[e] at h;exact h.elim
 |some b=>
  rw[e] at h
  have q:Q (.bl b) o.H:=Ps.pr (c:=cg X E) (r:=Rv X.K) (a:=W.bl b) h R (LM.mpr rfl)
  rcases we R rx ry e with⟨i,j,e1,e2,rfl⟩|⟨p,xs,e1,e2,e3,e4,rfl⟩|⟨a,ov,e1,e2,rfl⟩
  ·exact .inl ⟨i,j,e1,e2,q⟩
  ·exact .inr (.inl ⟨p,xs,e1,e2,e3,e4,by rw[if_neg Ds];exact q⟩)
  ·exact .inr (.inr ⟨a,ov,e1,e2,q⟩)
theorem tK:OpM X E (rT X) cM:=by
 intro o x y vx vy Q R rx ry h
 unfold cM at h
 cases e:inB x y o.h with
 |none=>rw[e] at h;exact h.elim
 |some b=>
  rw[e] at h
  have q:Q (.bl (!b)) o.H:=Ps.pr (c:=cg X E) (r:=Rv X.K) (a:=W.bl (!b)) h R (LM.mpr rfl)
  rcases we R rx ry e with⟨i,j,e1,e2,rfl⟩|⟨p,xs,e1,e2,e3,e4,rfl⟩|⟨a,ov,e1,e2,rfl⟩
  ·exact .inl ⟨i,j,e1,e2,q⟩
  ·exact .inr (.inl ⟨p,xs,e1,e2,e3,e4,by rw[if_pos rfl];exact q⟩)
  ·exact .inr (.inr ⟨a,ov,e1,e2,q⟩)
theorem Rvs.atI {K:PySem.W.Frag}{o:Wo}{l:List W}{vs:List V}{i:Int}{w:W}(h:Rvs K o l vs)(e:L2.atI l i=some w): ∃v,L2.atI vs i=some v/\Rv K o w v:=by
 unfold L2.atI at e ⊢
 rw[h.len]
 cases q:ixN l.length i with
 |none=>rw[q] at e;cases e
 |some j=>rw[q] at e;exact h.get e
def ixO (x y:W)(h:List Ob):Option W:=match II x h with
 |some (ks,ws)=>match Ke y with
  |some k=>atK ks ws k
  |none=>none
 |none=>match y with
  |.int i=>match x with
   |.str z=>if z.length<=sizeLine then (atI z.cps.toList i).map fun c=>.str ⟨#[c]⟩ else none
   |.tup l=>atI l i
   |x=>match Kr x h with
    |.ok l _=>atI l i
    |_=>none
  |_=>none
def ixW (x y:W):M W:=fun h=>match ixO x y h with
 |some w=>.ok w h
 |none=>.bad
def rIxD:R2:=fun x y H Q=> ∃a v,x=.ref a/\HP H a y (some v)/\Q v H
theorem yx (hu:X.A.units+1<GM):IxR X rIxD:=by
 intro value slice pins s σ H x y v u Q I rx ry h hs
 obtain⟨a,z,rfl,g,q⟩:=h
 cases rx
 exact tail_any (qf I g) PySem.F.slot_dict_getitem.lookup (uq hu I g ry fun w' s3 I3 rw'=>⟨z,H,I3,rw',q⟩) hs
theorem Aj:OpM X E (fun x y H Q=>rIx X.K x y H Q\/rIxD x y H Q) ixW:=by
 intro o x y vx vy Q R rx ry h
 unfold ixW at h
 cases e:ixO x y o.h with
 |none=>rw[e] at h;exact h.elim
 |some w=>
  rw[e] at h
  have q: ∀ {v:V},Rv X.K o w v->Q v o.H:=fun{v} hv=>Ps.pr (c:=cg X E) (r:=Rv X.K) (a:=w) h R hv
  unfold ixO at e
  split at e
  ·rename_i ks ws hd
   split at e
   ·rename_i k hk
    obtain⟨a,kvs,rfl,h1,h2,h3⟩:=qg R hd rx
    have:=oR (x:=k) h2 h3
    rw[e] at this
    obtain⟨v,hv,rv⟩:=this
    rw[kY hk ry]
    exact .inr ⟨a,v,rfl,.inl ⟨kvs,k,h1,rfl,hv.symm⟩,q rv⟩
   ·cases e
  ·split at e
   ·split at e
    ·split at e
     ·rename_i hz
      obtain⟨c,hc,rfl⟩:=DX.mp e
      exact .inl (.inr (.inr ⟨_,_,c,LP.mp rx,LN.mp ry,hz,hc,q (LP.mpr rfl)⟩))
     ·cases e
    ·unfold Rv at rx
     obtain⟨a,vs,rfl,s,r⟩:=rx
     obtain⟨v,hv,rv⟩:=r.atI e
     exact .inl (.inr (.inl ⟨a,vs,_,v,rfl,LN.mp ry,s,hv,q rv⟩))
    ·split at e
     ·rename_i l h' hl
      obtain⟨rfl,a,vs,rfl,s,r⟩:=pL R rx hl
      obtain⟨v,hv,rv⟩:=r.atI e
      exact .inl (.inl ⟨a,vs,_,v,rfl,LN.mp ry,s,hv,q rv⟩)
     ·cases e
   ·cases e
theorem Ce {a b:Expr}{pos:G1}{fa fb:HU->M W}(hu:X.A.units+1<GM)(ha:JE X E a fa)(hb:JE X E b fb)(hs:oU b):JE X E (.Subscript a b pos) (m2 ixW fa fb):=
 (r6 (J9.or (yx hu)) ha.h hb.h hs).imp fun _ _ _ h=>xi Aj h
def ID {α:Type}(xs:List α)(lo hi:Option Int):List α:=(xs.drop (HT.sIx xs.length 0 lo)).take (HT.sIx xs.length xs.length hi - HT.sIx xs.length 0 lo)
theorem Rvs.cut {K:PySem.W.Frag}{o:Wo}{l:List W}{vs:List V}(h:Rvs K o l vs)(lo hi:Option Int):Rvs K o (ID l lo hi) (IC vs lo hi):=by
 unfold ID IC
 rw[h.len]
 exact (h.drop _).take _
def aj:HU->M (Option Int):=fun _=>pr none
def KF (f:HU->M W):HU->M (Option Int):=fun ρ=>bd (f ρ) fun w=>match w with
 |.int i=>pr (some i)
 |_=>no
noncomputable abbrev tP (c:Cg)(f:HU->M (Option Int)):TO:=tG c (fun _ a b=>a=b) f
structure JO (X:Cx)(E:XK)(e:Option Expr)(f:HU->M (Option Int)):Prop where
 h:PO X e (tP (cg X E) f)
theorem PO.imp {e:Option Expr}{t:TO}{f:HU->M (Option Int)}(h:PO X e t)(k:∀σ H Q,tP (cg X E) f σ H Q->t σ H Q):JO X E e f:=⟨fun pins s σ H Q I q=>h pins s σ H Q I (k σ H Q q)⟩
theorem ye:JO X E none aj:=Lu.imp fun σ H Q h=>by
 obtain⟨o,ρ,rfl,R,S,h⟩:=h
 exact h.pr R rfl
theorem yd {e:Expr}{f:HU->M W}(he:JE X E e f):JO X E (some e) (KF f):=(nU he.h).imp fun σ H Q h=>by
 obtain⟨o,ρ,rfl,R,S,h⟩:=h
 refine⟨o,ρ,rfl,R,S,Ps.bd h fun p x vx e1 R1 r1 h1=>?_⟩
 cases x with
 |int i=>exact⟨i,LN.mp r1,h1.pr R1 rfl⟩
 |_=>exact h1.elim
def slW (x:W)(lo hi:Option Int):M W:=match x with
 |.str z=>gd (z.length<=sizeLine) (pr (.str (StrLaws.sliceText z lo hi)))
 |.tup l=>gd (¬(HT.sIx l.length 0 lo=0/\HT.sIx l.length l.length hi=l.length)) (pr (.tup (ID l lo hi)))
 |x=>bd (Kr x) fun l=>pr (.tl (ID l lo hi))
def m3 (f:W->Option Int->Option Int->M W)(fa:HU->M W)(fl fh:HU->M (Option Int)):HU->M W:=fun ρ=>bd (fa ρ) fun x=>bd (fl ρ) fun a=>bd (fh ρ) fun b=>f x a b
theorem Cc {e:Expr}{lo hi:Option Expr}{p2 pos:G1}{fa:HU->M W}{fl fh:HU->M (Option Int)}(he:JE X E e fa)(hl:JO X E lo fl)(hh:JO X E hi fh):
  JE X E (.Subscript e (.Slice lo hi none p2) pos) (m3 slW fa fl fh):=(pw (Mt.or (Mu.or xr)) he.h hl.h hh.h).imp fun σ H Q h=>by
 obtain⟨o,ρ,rfl,R,S,h⟩:=h
 refine⟨o,ρ,rfl,R,S,Ps.bd h fun p x vx e1 R1 r1 h1=>⟨p,ρ,rfl,R1,S.mono R e1,Ps.bd h1 fun q a va e2 R2 r2 h2=>⟨q,ρ,rfl,R2,(S.mono R e1).mono R1 e2,Ps.bd h2 fun w b vb e3 R3 r3 h3=>?_⟩⟩⟩
 subst r2 r3
 have rx:=(r1.mono R1 e2).mono R2 e3
 unfold slW at h3
 split at h3
 ·obtain⟨hz,h3⟩:=h3.gd
  exact .inl ⟨_,LP.mp rx,hz,h3.pr R3 (LP.mpr rfl)⟩
 ·obtain⟨hz,h3⟩:=h3.gd
  unfold Rv at rx
  obtain⟨a',vs,rfl,s,r⟩:=rx
  refine .inr (.inl ⟨a',vs,rfl,s,by rw[r.len];exact hz,fun q' hq=>nS R3 hq (r.cut _ _) h3⟩)
 ·obtain⟨l,a',vs,rfl,s,r,h3⟩:=gc R3 rx h3
  exact .inr (.inr ⟨a',vs,rfl,s,fun q' hq=>iS R3 hq (r.cut _ _) h3⟩)
def Ku (f:List W->M W)(l:HU->M (List W)):HU->M W:=fun ρ=>bd (l ρ) f
def HL (X:Cx)(E:XK)(r:List V->Hp->VK->Prop)(f:List W->M W):Prop:= ∀ (o:Wo) (ws:List W) (vs:List V) (Q:VK),Rel X.K o->Rvs X.K o ws vs->Ps (cg X E) (Rv X.K) o (f ws o.h) Q->r vs o.H Q
variable {x:Str}{p pos:G1}{e:Expr}{es:List Expr}{l:HU->M (List W)}{f:List W->M W}{r:List V->Hp->VK->Prop}{id T:String}
theorem yW (hf:HL X E r f){σ:St}{H:Hp}{Q:VK}(h:tM (cg X E) (Ku f l) σ H Q):tCB r (tA (cg X E) l) σ H Q:=by
 obtain⟨o,ρ,rfl,R,S,h⟩:=h
 exact⟨o,ρ,rfl,R,S,Ps.bd h fun p x vx e1 R1 r1 h1=>hf p x vx Q R1 r1 h1⟩
theorem iY (hc:CallR X (.builtin id) r)(hf:HL X E r f)(hg:Gl X x)(hm:X.mg x=none)(hv:GX x=some (.builtin id))(ha:JA X E (e::es) l)(hn:x≠ "__name__":=by decide)(hdb:(x==("__debug__":Str))=false:=by decide)
  (he:G4 (e::es) X.env=(false,G0 e X.env)::G4 es X.env:=by rfl)(hpl:(G3 pos (G4 es X.env)).any (·.1)=false:=by rfl):JE X E (.Call (.Name x p) (e::es) [] pos) (Ku f l):=
 (dt hc hg hm hv ha.h hn hdb he hpl).imp fun _ _ _ h=>yW hf h
theorem jy (hc:CallR X (.type T) r)(hf:HL X E r f)(hg:Gl X x)(hm:X.mg x=none)(hv:GX x=some (.type T))(ha:JA X E (e::es) l)(hn:x≠ "__name__":=by decide)(hdb:(x==("__debug__":Str))=false:=by decide)
  (he:G4 (e::es) X.env=(false,G0 e X.env)::G4 es X.env:=by rfl)(hpl:(G3 pos (G4 es X.env)).any (·.1)=false:=by rfl):JE X E (.Call (.Name x p) (e::es) [] pos) (Ku f l):=
 (mE hc hg hm hv ha.h hn hdb he hpl).imp fun _ _ _ h=>yW hf h
variable {CX:CXT}{k:Nat}{fA:GH}{fd:Hn}{ps:List Str}
end
end
section
inductive Fl where
 |nx (r:HU)|bk (r:HU)|ct (r:HU)|rt (w:W)
inductive FlV where
 |nx (s:St)|bk (s:St)|ct (s:St)|rt (v:V)
def RFl (K:PySem.W.Frag)(o:Wo):Fl->FlV->Prop
 |.nx r,f=> ∃s,f=.nx s/\Re K o r s
 |.bk r,f=> ∃s,f=.bk s/\Re K o r s
 |.ct r,f=> ∃s,f=.ct s/\Re K o r s
 |.rt w,f=> ∃v,f=.rt v/\Rv K o w v
def DQ (D:HS):FlV->Hp->Prop
 |.nx s,H=>D.nx s H
 |.bk s,H=>D.bk s H
 |.ct s,H=>D.ct s H
 |.rt v,H=>D.rt v H
def tS (c:Cg)(g:HU->M Fl):TS:=fun D σ H=>tG c (RFl c.K) g σ H (DQ D)
structure JS (X:Cx)(E:XK)(e:G5)(f:HU->M Fl):Prop where
 h:PS X e (tS (cg X E) f)
structure JSs (X:Cx)(E:XK)(e:List G5)(f:HU->M Fl):Prop where
 h:PSs X e (tS (cg X E) f)
theorem PSs.imp {X:Cx}{E:XK}{e:List G5}{t:TS}{f:HU->M Fl}(h:PSs X e t)(k:∀D σ H,tS (cg X E) f D σ H->t D σ H):JSs X E e f:=⟨fun pins s σ H D I q=>h pins s σ H D I (k D σ H q)⟩
theorem PS.imp {X:Cx}{E:XK}{e:G5}{t:TS}{f:HU->M Fl}(h:PS X e t)(k:∀D σ H,tS (cg X E) f D σ H->t D σ H):JS X E e f:=⟨fun pins s σ H D I q=>h pins s σ H D I (k D σ H q)⟩
theorem aa {α β γ:Type}(a:M α)(b:α->M β)(d:β->M γ):bd (bd a b) d=bd a fun x=>bd (b x) d:=by
 funext h
 unfold bd
 cases a h<;>rfl
section
variable {X:Cx}{E:XK}{pos:G1}
def LY:HU->M Fl:=fun ρ=>pr (.nx ρ)
def L7 (f g:HU->M Fl):HU->M Fl:=fun ρ=>bd (f ρ) fun x=>match x with
 |.nx r=>g r
 |x=>pr x
theorem yc:JSs X E [] LY:=Ly.imp fun D σ H h=>by
 obtain⟨o,ρ,rfl,R,S,h⟩:=h
 exact h.pr R ⟨σ,rfl,S⟩
theorem zA {f g:HU->M Fl}{D:HS}{σ:St}{H:Hp}(h:tS (cg X E) (L7 f g) D σ H):tSeq (tS (cg X E) f) (tS (cg X E) g) D σ H:=by
 obtain⟨o,ρ,rfl,R,S,h⟩:=h
 refine⟨o,ρ,rfl,R,S,Ps.bd h fun p x b e1 R1 r1 h1=>?_⟩
 cases x with
 |nx r=>obtain⟨s,rfl,re⟩:=r1;exact⟨p,r,rfl,R1,re,h1⟩
 |bk r=>have q:=h1.pr R1 r1;obtain⟨s,rfl,re⟩:=r1;exact q
 |ct r=>have q:=h1.pr R1 r1;obtain⟨s,rfl,re⟩:=r1;exact q
 |rt r=>have q:=h1.pr R1 r1;obtain⟨s,rfl,re⟩:=r1;exact q
theorem fZ {st:G5}{LH:List G5}{f g:HU->M Fl}(h1:JS X E st f)(h2:JSs X E LH g):JSs X E (st::LH) (L7 f g):=(ax h1.h h2.h).imp fun D σ H h=>zA h
theorem on {st:G5}{f:HU->M Fl}(h1:JS X E st f):JSs X E [st] f:=⟨aK h1.h⟩
variable {e:Expr}{f:HU->M W}
def L8 (i:Nat)(f:HU->M W):HU->M Fl:=fun ρ=>bd (f ρ) fun w=>pr (.nx (ρ.set i (some w)))
theorem kQ {i:Nat}{x:Str}{pos':G1}(hN:X.N.Nodup)(hi:X.N[i]?=some x)(hx:Loc X.env.scope x)(he:JE X E e f)(hs:swapsWith e (some (.Name x pos')) pos.line X.env=pure false:=by rfl)(hf:X.fn x=true\/X.env.scope.names.lookup x=some .local :=by first|exact .inl rfl|exact .inr rfl|assumption):
  JS X E (.Assign [.Name x pos'] e pos) (L8 i f):=(dJ hN hi hx he.h hs hf).imp fun D σ H h=>by
 obtain⟨o,ρ,rfl,R,S,h⟩:=h
 exact⟨o,ρ,rfl,R,S,Ps.bd h fun p x b e1 R1 r1 h1=>Ps.pr (b:=FlV.nx (σ.set i (some b))) h1 R1 ⟨_,rfl,(S.mono R e1).set r1 i⟩⟩
def L3 (f:HU->M W):HU->M Fl:=fun ρ=>bd (f ρ) fun w=>pr (.rt w)
theorem vQ (he:JE X E e f):JS X E (.Return (some e) pos) (L3 f):=(cK he.h).imp fun D σ H h=>by
 obtain⟨o,ρ,rfl,R,S,h⟩:=h
 exact⟨o,ρ,rfl,R,S,Ps.bd h fun p x b e1 R1 r1 h1=>Ps.pr (b:=FlV.rt b) h1 R1 ⟨_,rfl,r1⟩⟩
def sEx (f:HU->M W):HU->M Fl:=fun ρ=>bd (f ρ) fun _=>pr (.nx ρ)
theorem se (he:JE X E e f)(hs:swapsWith e none pos.line X.env=pure false:=by rfl):JS X E (.Expr e pos) (sEx f):=(jW he.h hs).imp fun D σ H h=>by
 obtain⟨o,ρ,rfl,R,S,h⟩:=h
 exact⟨o,ρ,rfl,R,S,Ps.bd h fun p x b e1 R1 r1 h1=>Ps.pr (b:=FlV.nx σ) h1 R1 ⟨_,rfl,S.mono R e1⟩⟩
def sIf (t:HU->M Bool)(f g:HU->M Fl):HU->M Fl:=fun ρ=>bd (t ρ) fun b=>if b=true then f ρ else g ρ
theorem B9 {c:Expr}{a b:List G5}{t:HU->M Bool}{f g:HU->M Fl}(hc:JT X E c t)(ha:JSs X E a f)(hb:JSs X E b g):JS X E (.If c a b pos) (sIf t f g):=(gW hc.h ha.h hb.h).imp fun D σ H h=>by
 obtain⟨o,ρ,rfl,R,S,h⟩:=h
 refine⟨o,ρ,rfl,R,S,Ps.bd h fun p x vx e1 R1 r1 h1=>?_⟩
 subst r1
 cases x with
 |true=>exact J5 ⟨p,ρ,rfl,R1,S.mono R e1,h1⟩
 |false=>exact J4 ⟨p,ρ,rfl,R1,S.mono R e1,h1⟩
def LZ:HU->M Fl:=fun ρ=>pr (.nx ρ)
def bv:HU->M Fl:=fun ρ=>pr (.bk ρ)
def LU:HU->M Fl:=fun ρ=>pr (.ct ρ)
def ux (t:HU->M Bool)(g:HU->M Fl):Nat->HU->M Fl
 |0,_=>no
 |n+1,ρ=>bd (t ρ) fun b=>if b=true then bd (g ρ) fun x=>match x with
   |.nx r=>ux t g n r
   |.ct r=>ux t g n r
   |.bk r=>pr (.nx r)
   |.rt w=>pr (.rt w)
  else pr (.nx ρ)
structure Ii (K:PySem.W.Frag)(m:Nat)(g:TG)(t:W->HU->Option HU):Prop where
 ok: ∀ (o:Wo) (w:W) (v:V) (ρ ρ2:HU) (σ:St),Rv K o w v->Re K o ρ σ->t w ρ=some ρ2-> ∃σ2,(∀Q:St->Hp->Prop,Q σ2 o.H->g v σ o.H Q)/\Re K o ρ2 σ2/\σ2.drop m=σ.drop m/\σ2.length=σ.length
def tgN (i:Nat):W->HU->Option HU:=fun w ρ=>some (ρ.set i (some w))
theorem dQ {K:PySem.W.Frag}(m i:Nat)(h:i<m):Ii K m (Jd i) (tgN i):=⟨fun o w v ρ ρ2 σ rv re e=>by
 cases e
 exact⟨_,fun Q q=>q,re.set rv i,by rw[Gf h],by rw[DN]⟩⟩
def gNs:List Nat->TGs
 |[]=>gNil
 |i::r=>Jc (Jd i) (gNs r)
def Mn:List Nat->List W->HU->Option HU
 |[],[],ρ=>some ρ
 |i::r,w::l,ρ=>Mn r l (ρ.set i (some w))
 |_,_,_=>none
theorem rM {K:PySem.W.Frag}{m:Nat}{o:Wo}: ∀ (is:List Nat) (l:List W) (vs:List V) (ρ ρ2:HU) (σ:St),(∀i∈is,i<m)->Rvs K o l vs->Re K o ρ σ->Mn is l ρ=some ρ2-> ∃σ2,(∀Q:St->Hp->Prop,Q σ2 o.H->gNs is vs σ o.H Q)/\Re K o ρ2 σ2/\σ2.drop m=σ.drop m/\σ2.length=σ.length
 |[],[],vs,ρ,ρ2,σ,_,rv,re,e=>by
  unfold Rvs at rv
  cases e
  exact⟨σ,fun Q q=>⟨rv,q⟩,re,rfl,rfl⟩
 |[],_::_,_,_,_,_,_,_,_,e=>by cases e
 |_::_,[],_,_,_,_,_,_,_,e=>by cases e
 |i::is,w::l,vs,ρ,ρ2,σ,hm,rv,re,e=>by
  unfold Rvs at rv
  obtain⟨v,r,rfl,h1,h2⟩:=rv
  obtain⟨σ2,a,b,c,d⟩:=rM is l r (ρ.set i (some w)) ρ2 (σ.set i (some v)) (fun j hj=>hm j (Dz _ hj)) h2 (re.set h1 i) e
  refine⟨σ2,fun Q q=>⟨v,r,rfl,a Q q⟩,b,?_,?_⟩
  ·rw[c,Gf (hm i Dt)]
  ·rw[d,DN]
def tgT (is:List Nat):W->HU->Option HU:=fun w ρ=>match w with
 |.tup l=>Mn is l ρ
 |_=>none
theorem iQ: ∀ {is:List Nat}{l:List W}{ρ ρ2:HU},Mn is l ρ=some ρ2->l.length=is.length
 |[],[],_,_,_=>rfl
 |[],_::_,_,_,e=>by cases e
 |_::_,[],_,_,e=>by cases e
 |_::is,_::l,_,_,e=>by rw[Di,Di,iQ (is:=is) (l:=l) e]
theorem kj {K:PySem.W.Frag}(m:Nat)(is:List Nat)(h:∀i∈is,i<m):Ii K m (gTup K is.length (gNs is)) (tgT is):=⟨fun o w v ρ ρ2 σ rv re e=>by
 cases w with
 |tup l=>
  unfold Rv at rv
  obtain⟨a,vs,rfl,s,r⟩:=rv
  have e:Mn is l ρ=some ρ2:=e
  obtain⟨σ2,a1,a2,a3,a4⟩:=rM is l vs ρ ρ2 σ h r re e
  exact⟨σ2,fun Q q=>⟨a,vs,rfl,s,by rw[r.len,iQ e],a1 Q q⟩,a2,a3,a4⟩
 |_=>cases e⟩
open Classical in
def gdh {α:Type}(G:List Ob->Prop)(m:M α):M α:=fun h=>if G h then m h else .bad
theorem pX {α:Type}(m:M α):gdh (fun _=>True) m=m:=by funext h;unfold gdh;rw[if_pos trivial]
theorem cI {α:Type}{G:List Ob->Prop}{m:M α}{h:List Ob}(q:G h):gdh G m h=m h:=by unfold gdh;rw[if_pos q]
theorem Ps.gdh {α β:Type}{c:Cg}{r:Wo->α->β->Prop}{o:Wo}{G:List Ob->Prop}{m:M α}{Q:β->Hp->Prop}(h:Ps c r o (gdh G m o.h) Q):G o.h/\Ps c r o (m o.h) Q:=by
 unfold L2.gdh at h
 by_cases q:G o.h
 ·rw[if_pos q] at h;exact⟨q,h⟩
 ·rw[if_neg q] at h;exact h.elim
structure Sr where
 l:List W
 G:List Ob->Prop
structure Ie (K:PySem.W.Frag)(o0:Wo)(J:It)(s:Sr):Prop where
 stop: ∀o,Ex o0 o->Rel K o->s.G o.h->J.stop s.l.length o.H
 go: ∀o i w,Ex o0 o->Rel K o->s.G o.h->s.l[i]?=some w->J.go i o.H/\ ∀x H',J.yld i o.H x H'-> ∃p,p.H=H'/\p.h=o.h/\Ex o p/\Rel K p/\Rv K p w x
def tI (c:Cg)(src:HU->M Sr):TI:=fun σ H R=>tG c (fun p s J=>Ie c.K p J s) src σ H R
structure JI (X:Cx)(E:XK)(tg iter:Expr)(f:HU->M Sr):Prop where
 h:PI X tg iter (tI (cg X E) f)
theorem PI.imp {tg iter:Expr}{t:TI}{f:HU->M Sr}(h:PI X tg iter t)(k:∀σ H R,tI (cg X E) f σ H R->t σ H R):JI X E tg iter f:=⟨fun pins s σ H R I q=>h pins s σ H R I (k σ H R q)⟩
def MF (w:W):M Sr:=match w with
 |.tl l=>pr ⟨l,fun _=>True⟩
 |.cl l=>pr ⟨l,fun _=>True⟩
 |.loc k=>fun h=>match h[k]? with
  |some (.lst l)=>.ok ⟨l,fun h=>h[k]?=some (.lst l)⟩ h
  |_=>.bad
 |_=>no
def KH (f:HU->M W)(g:W->M Sr):HU->M Sr:=fun ρ=>bd (f ρ) g
theorem kn {K:PySem.W.Frag}{o0:Wo}{a:GH}{s:Sr}(h:∀o,Ex o0 o->Rel K o->s.G o.h-> ∃vs,SqL K o.H a vs/\Rvs K o s.l vs):Ie K o0 (Itl K a) s:=by
 refine⟨fun o X R g=>?_,fun o i w X R g e=>?_⟩
 ·obtain⟨vs,s,r⟩:=h o X R g
  exact⟨vs,s,ER r.len⟩
 ·obtain⟨vs,s,r⟩:=h o X R g
  obtain⟨v,hv,rv⟩:=r.get e
  refine⟨⟨vs,v,s,hv⟩,fun x H' y=>?_⟩
  obtain⟨rfl,y⟩:=y
  have:x=v:=by have:=y vs s;rw[hv] at this;exact (Option.some.inj this).symm
  subst this
  exact⟨o,rfl,rfl,Ex.refl _,R,rv⟩
theorem yh {tg l:Expr}{fl:HU->M W}(hl:JE X E l fl):JI X E tg l (KH fl MF):=(xG hl.h).imp fun σ H Q h=>by
 obtain⟨o,ρ,rfl,R,S,h⟩:=h
 refine⟨o,ρ,rfl,R,S,Ps.bd h fun p x vx e1 R1 r1 h1=>?_⟩
 cases x with
 |tl l=>
  have r1':=r1
  unfold Rv at r1
  obtain⟨a,vs,rfl,s,n,r⟩:=r1
  refine⟨a,rfl,⟨vs,.of s⟩,h1.pr R1 (kn fun o X R g=>?_)⟩
  exact⟨vs,.of (X.fr a _ s n).1,r.mono R1 X⟩
 |cl l=>
  unfold Rv at r1
  obtain⟨a,vs,rfl,s,r⟩:=r1
  have sq: ∀o,Ex p o->SqL X.K o.H a vs:=fun o X=>by
   rcases s with⟨s,n⟩|s
   ·exact .inl (X.rd s n).1
   ·exact .inr s
  exact⟨a,rfl,⟨vs,sq p (Ex.refl _)⟩,h1.pr R1 (kn fun o X R g=>⟨vs,sq o X,r.mono R1 X⟩)⟩
 |loc k=>
  unfold Rv at r1
  obtain⟨hk,rfl⟩:=r1
  unfold MF at h1
  dsimp only at h1
  split at h1
  ·rename_i l hl
   obtain⟨vs,h3,h4⟩:=R1.ob k _ hl
   refine⟨_,rfl,⟨vs,.of h3⟩,Ps.at (p:=p) h1 rfl (Ex.refl _) R1 (kn fun o X R g=>?_)⟩
   obtain⟨vs',h5,h6⟩:=R.ob k _ g
   rw[X.mu k hk] at h5
   exact⟨vs',.of h5,h6⟩
  ·exact h1.elim
 |_=>exact h1.elim
def MH (w:W):M Sr:=match w with
 |.tup l=>pr ⟨l,fun _=>True⟩
 |_=>no
theorem AL {tg l:Expr}{fl:HU->M W}(hl:JE X E l fl):JI X E tg l (KH fl MH):=(zZ hl.h).imp fun σ H Q h=>by
 obtain⟨o,ρ,rfl,R,S,h⟩:=h
 refine⟨o,ρ,rfl,R,S,Ps.bd h fun p x vx e1 R1 r1 h1=>?_⟩
 cases x with
 |tup l=>
  unfold Rv at r1
  obtain⟨a,vs,rfl,s,r⟩:=r1
  refine⟨a,rfl,⟨vs,s⟩,h1.pr R1 ⟨fun o X R g=>⟨vs,X.rdT R1 s,ER r.len⟩,fun o i w X R g e=>?_⟩⟩
  obtain⟨v,hv,rv⟩:=(r.mono R1 X).get e
  have sq:=X.rdT R1 s
  refine⟨⟨vs,v,sq,hv⟩,fun x H' y=>?_⟩
  obtain⟨rfl,y⟩:=y
  have:x=v:=by have:=y vs sq;rw[hv] at this;exact (Option.some.inj this).symm
  subst this
  exact⟨o,rfl,rfl,Ex.refl _,R,rv⟩
 |_=>exact h1.elim
noncomputable def JR (lo:Int):Nat->List W
 |0=>[]
 |n+1=>.int lo::JR (lo+1) n
theorem dD: ∀ (n:Nat) (lo:Int),(JR lo n).length=n
 |0,_=>rfl
 |n+1,lo=>by rw[JR,Di,dD n]
theorem eX: ∀ (n:Nat) (lo:Int) (i:Nat) (w:W),(JR lo n)[i]?=some w->w=.int (lo+i)/\i<n
 |0,_,_,_,h=>by simp [JR] at h
 |n+1,lo,0,w,h=>by rw[JR] at h;cases h;exact⟨by simp,Nat.succ_pos _⟩
 |n+1,lo,i+1,w,h=>by
  rw[JR,Ez] at h
  obtain⟨e,l⟩:=eX n (lo+1) i w h
  exact⟨by rw[e];congr 1;omega,by omega⟩
theorem sW {K:PySem.W.Frag}{o0:Wo}{lo:Int}{n:Nat}:Ie K o0 (Itr lo n) ⟨JR lo n,fun _=>True⟩:=by
 refine⟨fun o X R g=>?_,fun o i w X R g e=>?_⟩
 ·show n<=(JR lo n).length
  rw[dD];exact Dl _
 ·obtain⟨rfl,hi⟩:=eX n lo i w e
  refine⟨hi,fun x H' y=>?_⟩
  obtain⟨rfl,rfl⟩:=y
  exact⟨o,rfl,rfl,Ex.refl _,R,LN.mpr rfl⟩
def LI (l:List W):M Sr:=match l with
 |[.int j]=>gd (-(2 ^ 62)<=j/\j<2 ^ 62) (pr ⟨JR 0 j.toNat,fun _=>True⟩)
 |_=>no
def KI (f:HU->M (List W))(g:List W->M Sr):HU->M Sr:=fun ρ=>bd (f ρ) g
theorem tW {tg a:Expr}{p pos:G1}{fl:HU->M (List W)}(hg:Gl X "range")(hm:X.mg "range"=none)(ha:JA X E [a] fl)(hs:G4 [a] X.env=[(false,G0 a X.env)]:=by rfl):JI X E tg (.Call (.Name "range" p) [a] [] pos) (KI fl LI):=
 (tH hg hm ha.h hs).imp fun σ H Q h=>by
 obtain⟨o,ρ,rfl,R,S,h⟩:=h
 refine⟨o,ρ,rfl,R,S,Ps.bd h fun p x vx e1 R1 r1 h1=>?_⟩
 unfold LI at h1
 split at h1
 ·obtain⟨hz,h1⟩:=h1.gd
  unfold Rvs Rvs at r1
  obtain⟨v,r,rfl,a1,rfl⟩:=r1
  exact⟨_,by rw[LN.mp a1],hz.1,hz.2,h1.pr R1 sW⟩
 ·exact h1.elim
def forM (G:List Ob->Prop)(t:W->HU->Option HU)(g:HU->M Fl):List W->HU->M Fl
 |[],ρ=>gdh G (pr (.nx ρ))
 |w::l,ρ=>gdh G (match t w ρ with
  |none=>no
  |some r=>bd (g r) fun x=>match x with
   |.nx r'=>forM G t g l r'
   |.ct r'=>forM G t g l r'
   |.bk r'=>pr (.nx r')
   |.rt v=>pr (.rt v))
def LX (src:HU->M Sr)(t:W->HU->Option HU)(g:HU->M Fl):HU->M Fl:=fun ρ=>bd (src ρ) fun s=>forM s.G t g s.l ρ
theorem AJ {tg iter:Expr}{body:List G5}{src:HU->M Sr}{t:W->HU->Option HU}{gT:TG}{g:HU->M Fl}{m:Nat}(hp:Hd (GO X.prog X.w) X.A X.env X.xe)(hc:X.calm=true)(hi:JI X E tg iter src)(hg:PG X tg gT)(ht:Ii X.K m gT t)(hb:JSs X E body g)
  (hs: ∀x,Hh iter X.env x=pure x:=by intro _;rfl):JS X E (.For tg iter body [] pos) (LX src t g):=(zV hp hc hi.h hg hb.h hs).imp fun D σ H h=>by
 obtain⟨o,ρ,rfl,R,S,h⟩:=h
 refine⟨o,ρ,rfl,R,S,Ps.bd h fun o1 s J e1 R1 sk h1=>?_⟩
 refine⟨fun i n σ H=>n=s.l.length - i/\i<=s.l.length/\ ∃o ρ,o.H=H/\Ex o1 o/\Rel X.K o/\Re X.K o ρ σ/\Ps (cg X E) (RFl X.K) o (forM s.G t g (s.l.drop i) ρ o.h) (DQ D),⟨_,rfl,DB _,o1,ρ,rfl,Ex.refl _,R1,S.mono R e1,h1⟩,?_⟩
 rintro i n σ H ⟨rfl,hi,o,ρ,rfl,X1,R,S,h⟩
 by_cases hlt:i<s.l.length
 ·obtain⟨w,hw⟩: ∃w,s.l[i]?=some w:=⟨_,DR hlt⟩
  have hd:s.l.drop i=w::s.l.drop (i+1):=by
   rw[EX hlt]
   rw[DR hlt] at hw
   rw[Option.some.inj hw]
  rw[hd] at h
  unfold forM at h
  obtain⟨hG,h⟩:=h.gdh
  obtain⟨hgo,hy⟩:=sk.go o i w X1 R hG hw
  refine .inr ⟨hgo,fun σ' H'=> ∃o ρ,o.H=H'/\Ex o1 o/\Rel X.K o/\Re X.K o ρ σ'/\Ps (cg X E) (RFl X.K) o (forM s.G t g (s.l.drop (i+1)) ρ o.h) (DQ D),fun σ' H' q=>⟨_,by omega,rfl,hlt,q⟩,fun x H' y=>?_⟩
  obtain⟨p,rfl,eh,X2,R2,rv⟩:=hy x H' y
  cases et:t w ρ with
  |none=>rw[et] at h;exact h.elim
  |some r=>
   rw[et] at h
   obtain⟨σ2,k1,k2,_,_⟩:=ht.ok p w x ρ r σ rv (S.mono R X2) et
   refine k1 _ ?_
   have h2:Ps (cg X E) (RFl X.K) p (bd (g r) (fun x=>match x with
    |.nx r'=>forM s.G t g (s.l.drop (i+1)) r'
    |.ct r'=>forM s.G t g (s.l.drop (i+1)) r'
    |.bk r'=>pr (.nx r')
    |.rt v=>pr (.rt v)) p.h) (DQ D):=by rw[eh];exact h.after X2
   refine⟨p,r,rfl,R2,k2,Ps.bd h2 fun q x b e3 R3 r3 h3=>?_⟩
   cases x with
   |nx r=>obtain⟨s',rfl,re⟩:=r3;exact⟨q,r,rfl,(X1.trans X2).trans e3,R3,re,h3⟩
   |ct r=>obtain⟨s',rfl,re⟩:=r3;exact⟨q,r,rfl,(X1.trans X2).trans e3,R3,re,h3⟩
   |bk r=>obtain⟨s',rfl,re⟩:=r3;exact h3.pr R3 (b:=.nx s') ⟨s',rfl,re⟩
   |rt w=>obtain⟨v,rfl,rv⟩:=r3;exact h3.pr R3 (b:=.rt v) ⟨v,rfl,rv⟩
 ·have e:i=s.l.length:=by omega
  subst e
  rw[List.drop_length] at h
  unfold forM at h
  obtain⟨hG,h⟩:=h.gdh
  exact .inl ⟨sk.stop o X1 R hG,Ps.pr (b:=FlV.nx σ) h R ⟨σ,rfl,S⟩⟩
end
end
section
section
variable {X:Cx}{E:XK}{pos:G1}
theorem BH {l:HU->M (List W)}{σ:St}{H:Hp}{Q:VK}(h:tM (cg X E) (mTl l) σ H Q):tF (cg X E) l σ H Q:=by
 obtain⟨o,ρ,rfl,R,S,h⟩:=h
 exact⟨o,ρ,rfl,R,S,Ps.bd h fun p x vx e1 R1 r1 h1=>fun q hq=>Ps.at (p:=⟨p.mu,p.h,upd p.H q (.lst vx)⟩) h1 rfl (Ex.new hq) (R1.new hq) (Rv.newL R1 hq r1)⟩
theorem zE {l:HU->M (List W)}{σ:St}{H:Hp}{Q:VK}(h:tM (cg X E) (KA l) σ H Q):tF (cg X E) l σ H Q:=by
 obtain⟨o,ρ,rfl,R,S,h⟩:=h
 refine⟨o,ρ,rfl,R,S,Ps.bd h fun p x vx e1 R1 r1 h1=>fun q hq=>?_⟩
 refine Ps.at (p:=p.add q (.lst x) (.lst vx)) h1 rfl (Ex.add hq) (R1.addL hq r1) ?_
 unfold Rv
 exact⟨by show _<(p.h++[_]).length;simp,by show V.ref q=V.ref (if p.h.length=p.h.length then q else _);rw[if_pos rfl]⟩
theorem uC {i:Nat}{f:HU->M W}{D:HS}{σ:St}{H:Hp}(h:tS (cg X E) (L8 i f) D σ H):MU (tM (cg X E) f) (Jd i) D σ H:=by
 obtain⟨o,ρ,rfl,R,S,h⟩:=h
 exact⟨o,ρ,rfl,R,S,Ps.bd h fun p x b e1 R1 r1 h1=>Ps.pr (b:=FlV.nx (σ.set i (some b))) h1 R1 ⟨_,rfl,(S.mono R e1).set r1 i⟩⟩
def IB (G:List Ob->Prop)(t:W->HU->Option HU)(f:HU->M Bool)(e:HU->M W)(n:Nat):List W->HU->M (List W)
 |[],ρ=>gdh G (pr [])
 |w::l,ρ=>gdh G (match t w (List.replicate n none++ρ) with
  |none=>no
  |some r=>bd (f r) fun b=>if b=true then bd (e r) fun x=>bd (IB G t f e n l ρ) fun m=>pr (x::m) else IB G t f e n l ρ)
def Kv (hs:List Nat)(src:HU->M Sr)(t:W->HU->Option HU)(f:HU->M Bool)(e:HU->M W)(n:Nat):HU->M (List W):=fun ρ=>
 gd ((hs.all fun i=>(ρ[i]?.join).isNone)=true) (bd (src ρ) fun s=>gd (s.l.length<=sizeLine) (IB s.G t f e n s.l ρ))
variable {elt iter tg:Expr}{ifs:List Expr}{scope:GY}{ls:List Str}{gT:TG}{t:W->HU->Option HU}{f:HU->M Bool}{e:HU->M W}{src:HU->M Sr}{hs:List Nat}{wh:Prop}
theorem jS (ht:Ii X.K ls.length gT t){σ:St}{H:Hp}{Q:VK}(h:tF (cg X E) (Kv hs src t f e ls.length) σ H Q):MV X.N ls (tI (cg X E) src) gT (tT (cg X E) f) (tM (cg X E) e) σ H Q:=by
 obtain⟨o,ρ,rfl,R,S,h⟩:=h
 unfold Kv at h
 obtain⟨h0,h⟩:=h.gd
 refine⟨rfl,o,ρ,rfl,R,S,Ps.bd h fun o1 s J e1 R1 sk h1=>?_⟩
 obtain⟨hz,h1⟩:=h1.gd
 have S1:=S.mono R e1
 refine⟨fun i n ys H=>n=s.l.length - i/\i<=s.l.length/\ ∃o acc,o.H=H/\Ex o1 o/\Rel X.K o/\Rvs X.K o acc ys/\acc.length<=i/\Ps (cg X E) (Rvs X.K) o (bd (IB s.G t f e ls.length (s.l.drop i) ρ) (fun m=>pr (acc++m)) o.h) (fun vs H1=> ∀q,H1 q=none->Q (.ref q) (upd H1 q (.lst vs))),
  ⟨_,rfl,DB _,o1,[],rfl,Ex.refl _,R1,Rvs.nil,Dl _,?_⟩,?_⟩
 ·have:bd (IB s.G t f e ls.length (s.l.drop 0) ρ) (fun m=>pr ([]++m))=IB s.G t f e ls.length s.l ρ:=by
   funext h
   rw[Ek]
   unfold bd
   cases IB s.G t f e ls.length s.l ρ h<;>rfl
  rw[this];exact h1
 rintro i n ys H ⟨rfl,hi,o,acc,rfl,X1,R,A,ha,h⟩
 have S2:=S1.mono R1 X1
 have gs: ∀ {α β γ:Type}{r:Wo->β->γ->Prop}{m:M α}{k:α->M β}{Q':γ->Hp->Prop},Ps (cg X E) r o (bd (gdh s.G m) k o.h) Q'->s.G o.h/\Ps (cg X E) r o (bd m k o.h) Q':=fun{α β γ r m k Q'} q=>by
  have:bd (gdh s.G m) k o.h=gdh s.G (bd m k) o.h:=by
   unfold bd L2.gdh
   by_cases z:s.G o.h
   ·simp only[if_pos z]
   ·simp only[if_neg z]
  rw[this] at q
  exact q.gdh
 by_cases hlt:i<s.l.length
 ·obtain⟨w,hw⟩: ∃w,s.l[i]?=some w:=⟨_,DR hlt⟩
  have hd:s.l.drop i=w::s.l.drop (i+1):=by
   rw[EX hlt]
   rw[DR hlt] at hw
   rw[Option.some.inj hw]
  rw[hd] at h
  unfold IB at h
  obtain⟨hG,h⟩:=gs h
  obtain⟨hgo,hy⟩:=sk.go o i w X1 R hG hw
  refine .inr ⟨hgo,fun ys' H'=> ∃o acc,o.H=H'/\Ex o1 o/\Rel X.K o/\Rvs X.K o acc ys'/\acc.length<=i+1/\Ps (cg X E) (Rvs X.K) o (bd (IB s.G t f e ls.length (s.l.drop (i+1)) ρ) (fun m=>pr (acc++m)) o.h) (fun vs H1=> ∀q,H1 q=none->Q (.ref q) (upd H1 q (.lst vs))),fun ys' H' q=>⟨_,by omega,rfl,hlt,q⟩,fun x H' y=>?_⟩
  obtain⟨p,rfl,eh,X2,R2,rv⟩:=hy x H' y
  cases et:t w (List.replicate ls.length none++ρ) with
  |none=>rw[et] at h;exact h.elim
  |some r=>
   rw[et] at h
   obtain⟨σ2,k1,k2,k3,k4⟩:=ht.ok p w x _ r (List.replicate ls.length none++σ) rv ((S2.mono R X2).front _) et
   refine k1 _ ⟨?_,?_,?_⟩
   ·rw[k3,List.drop_left' (by rw[Ej])]
   ·rw[k4,Dk,Ej]
   have h2:Ps (cg X E) (Rvs X.K) p (bd (f r) (fun b=>bd (if b=true then bd (e r) fun x=>bd (IB s.G t f e ls.length (s.l.drop (i+1)) ρ) fun m=>pr (x::m) else IB s.G t f e ls.length (s.l.drop (i+1)) ρ) fun m=>pr (acc++m)) p.h) (fun vs H1=> ∀q,H1 q=none->Q (.ref q) (upd H1 q (.lst vs))):=by
    rw[eh]
    rw[aa] at h
    exact h.after X2
   refine⟨p,r,rfl,R2,k2,Ps.bd h2 fun q b vb e3 R3 r3 h3=>?_⟩
   subst r3
   have A3:=(A.mono R X2).mono R2 e3
   cases b with
   |false=>
    exact J4 ⟨q,acc,rfl,(X1.trans X2).trans e3,R3,A3,by omega,h3⟩
   |true=>
    rw[if_pos rfl,aa] at h3
    refine J5 ⟨q,r,rfl,R3,k2.mono R2 e3,Ps.bd h3 fun q2 x vx e4 R4 r4 h4=>⟨?_,q2,acc++[x],rfl,((X1.trans X2).trans e3).trans e4,R4,(A3.mono R3 e4).app (Rvs.cons r4 Rvs.nil),?_,?_⟩⟩
    ·rw[(A3.mono R3 e4).len];omega
    ·rw[Dk,DP];omega
    ·rw[aa] at h4
     have ee:(fun m=>bd (pr (x::m)) fun m=>pr (acc++m))=(fun m:List W=>(pr (acc++[x]++m):M (List W))):=by
      funext m h
      show Rs.ok (acc++(x::m)) h=Rs.ok (acc++[x]++m) h
      rw[DL];rfl
     rw[ee] at h4
     exact h4
 ·have ei:i=s.l.length:=by omega
  subst ei
  rw[List.drop_length] at h
  unfold IB at h
  obtain⟨hG,h⟩:=gs h
  have h:Ps (cg X E) (Rvs X.K) o (pr (acc++[]) o.h) (fun vs H1=> ∀q,H1 q=none->Q (.ref q) (upd H1 q (.lst vs))):=h
  rw[DM] at h
  exact .inl ⟨sk.stop o X1 R hG,h.pr R A⟩
structure JQ (X:Cx)(E:XK)(ifs:List Expr)(f:HU->M Bool):Prop where
 h:Ia X ifs (tT (cg X E) f)
def KM:HU->M Bool:=fun _=>pr true
theorem yg:JQ X E [] KM:=⟨fun pins s σ H Q I h=>nX pins s σ H Q I (by
 obtain⟨o,ρ,rfl,R,S,h⟩:=h
 exact Ps.pr (b:=true) h R rfl)⟩
theorem yf {c:Expr}(h:JT X E c f):JQ X E [c] f:=⟨xE h.h⟩
theorem gw (hcalm:X.calm=true)(S:CScope X ls scope)(hi:JI X E tg iter src)(hg: ∀C s2 H2 fp,PG (cxC X ls scope C s2 H2 fp) tg gT)(ht:Ii X.K ls.length gT t)
  (hf: ∀C s2 H2 fp,JQ (cxC X ls scope C s2 H2 fp) E ifs f)(he: ∀C s2 H2 fp,JE (cxC X ls scope C s2 H2 fp) E elt e)(hh:wh)
  (hs': ∀x,Hh iter X.env x=pure x:=by intro _;rfl):JF X E (.ListComp elt [⟨tg,iter,ifs,0⟩] scope pos) (Kv hs src t f e ls.length):=
 (nY hcalm S hi.h hg (fun C s2 H2 fp=>(hf C s2 H2 fp).h) (fun C s2 H2 fp=>(he C s2 H2 fp).h) hs').impF fun σ H Q h=>jS ht h
theorem kP {i:Nat}{x:Str}{px spos:G1}(hN:X.N.Nodup)(hx1:X.N[i]?=some x)(hx:X.env.scope.names.lookup x=some .local)(hcalm:X.calm=true)(S:CScope X ls scope)(hi:JI X E tg iter src)(hg: ∀C s2 H2 fp,PG (cxC X ls scope C s2 H2 fp) tg gT)(ht:Ii X.K ls.length gT t)
  (hf: ∀C s2 H2 fp,JQ (cxC X ls scope C s2 H2 fp) E ifs f)(he: ∀C s2 H2 fp,JE (cxC X ls scope C s2 H2 fp) E elt e)(hh:wh)
  (hsw:swapsWith (.ListComp elt [⟨tg,iter,ifs,0⟩] scope pos) (some (.Name x px)) spos.line X.env=pure true:=by rfl)
  (hs': ∀x,Hh iter X.env x=pure x:=by intro _;rfl):JS X E (.Assign [.Name x px] (.ListComp elt [⟨tg,iter,ifs,0⟩] scope pos) spos) (L8 i (mTl (Kv hs src t f e ls.length))):=
 (kD hN hx1 hx hcalm S hi.h hg (fun C s2 H2 fp=>(hf C s2 H2 fp).h) (fun C s2 H2 fp=>(he C s2 H2 fp).h) hsw hs').imp fun D σ H h=>jS ht (BH (uC h))
theorem tV {i:Nat}{x:Str}{px spos:G1}(hN:X.N.Nodup)(hx1:X.N[i]?=some x)(hx:X.env.scope.names.lookup x=some .local)(hcalm:X.calm=true)(S:CScope X ls scope)(hi:JI X E tg iter src)(hg: ∀C s2 H2 fp,PG (cxC X ls scope C s2 H2 fp) tg gT)(ht:Ii X.K ls.length gT t)
  (hf: ∀C s2 H2 fp,JQ (cxC X ls scope C s2 H2 fp) E ifs f)(he: ∀C s2 H2 fp,JE (cxC X ls scope C s2 H2 fp) E elt e)(hh:wh)
  (hsw:swapsWith (.ListComp elt [⟨tg,iter,ifs,0⟩] scope pos) (some (.Name x px)) spos.line X.env=pure true:=by rfl)
  (hs': ∀x,Hh iter X.env x=pure x:=by intro _;rfl):JS X E (.Assign [.Name x px] (.ListComp elt [⟨tg,iter,ifs,0⟩] scope pos) spos) (L8 i (KA (Kv hs src t f e ls.length))):=
 (kD hN hx1 hx hcalm S hi.h hg (fun C s2 H2 fp=>(hf C s2 H2 fp).h) (fun C s2 H2 fp=>(he C s2 H2 fp).h) hsw hs').imp fun D σ H h=>jS ht (zE (uC h))
end
end
section
section
variable {X:Cx}{E:XK}{pos p:G1}{a b:Expr}{l:HU->M (List W)}
theorem Rvs.one {K:PySem.W.Frag}{o:Wo}{w:W}{vs:List V}(h:Rvs K o [w] vs): ∃v,vs=[v]/\Rv K o w v:=by
 unfold Rvs Rvs at h;obtain⟨v,r,rfl,h1,rfl⟩:=h;exact⟨v,rfl,h1⟩
theorem Rvs.two {K:PySem.W.Frag}{o:Wo}{w x:W}{vs:List V}(h:Rvs K o [w,x] vs): ∃v u,vs=[v,u]/\Rv K o w v/\Rv K o x u:=by
 unfold Rvs Rvs Rvs at h;obtain⟨v,r,rfl,h1,u,r2,rfl,h2,rfl⟩:=h;exact⟨v,u,rfl,h1,h2⟩
def Km (ws:List W):M W:=match ws with
 |[.str z]=>gd (z.length<=sizeLine) (pr (.int z.length))
 |[.tup l]=>pr (.int l.length)
 |[w]=>bd (Kr w) fun l=>pr (.int l.length)
 |_=>no
theorem Bu:HL X E (fun xs H Q=>(fun xs H Q=> ∃z,xs=[.str z]/\z.length<=sizeLine/\Q (.int z.length) H) xs H Q\/(fun xs H Q=> ∃p ys,xs=[.ref p]/\(SqL X.K H p ys\/SqT X.K H p ys)/\Q (.int ys.length) H) xs H Q) Km:=by
 intro o ws vs Q R rv h
 unfold Km at h
 split at h
 ·obtain⟨v,rfl,r⟩:=rv.one
  obtain⟨hz,h⟩:=h.gd
  exact .inl ⟨_,by rw[LP.mp r],hz,h.pr R (LN.mpr rfl)⟩
 ·obtain⟨v,rfl,r⟩:=rv.one
  unfold Rv at r
  obtain⟨a,us,rfl,s,r⟩:=r
  exact .inr ⟨a,us,rfl,.inr s,by rw[r.len];exact h.pr R (LN.mpr rfl)⟩
 ·obtain⟨v,rfl,r⟩:=rv.one
  obtain⟨l,a,us,rfl,s,r,h⟩:=gc R r h
  exact .inr ⟨a,us,rfl,.inl s,by rw[r.len];exact h.pr R (LN.mpr rfl)⟩
 ·exact h.elim
theorem A1 (hm:X.mg "len"=none)(ha:JA X E [a] l)(hg:Gl X "len":=by rfl)(he:G4 [a] X.env=(false,G0 a X.env)::G4 [] X.env:=by rfl)(hpl:(G3 pos (G4 [] X.env)).any (·.1)=false:=by rfl):JE X E (.Call (.Name "len" p) [a] [] pos) (Ku Km l):=
 iY (Iu.or oN) Bu hg hm PySem.boot_len ha (he:=he) (hpl:=hpl)
def JP (ws:List W):M W:=match ws with
 |[.int i]=>pr (.int i)
 |[.bl k]=>pr (.int (if k then 1 else 0))
 |[.str z]=>match PySem.intText? z with
  |some n=>gd (z.length<=640) (pr (.int n))
  |none=>no
 |_=>no
theorem Bv:HL X E (fun xs H Q=>((∃i,xs=[.int i]/\Q (.int i) H)\/ ∃k,xs=[.bl k]/\Q (.int (if k then 1 else 0)) H)\/(fun xs H Q=> ∃ (z:Str) (n:Int),xs=[.str z]/\PySem.intText? z=some n/\z.length<=640/\Q (.int n) H) xs H Q) JP:=by
 intro o ws vs Q R rv h
 unfold JP at h
 split at h
 ·obtain⟨v,rfl,r⟩:=rv.one
  exact .inl (.inl ⟨_,by rw[LN.mp r],h.pr R (LN.mpr rfl)⟩)
 ·obtain⟨v,rfl,r⟩:=rv.one
  exact .inl (.inr ⟨_,by rw[LM.mp r],h.pr R (LN.mpr rfl)⟩)
 ·obtain⟨v,rfl,r⟩:=rv.one
  rename_i z
  cases hn:PySem.intText? z with
  |some n=>
   rw[hn] at h
   obtain⟨hz,h⟩:=h.gd
   exact .inr ⟨_,n,by rw[LP.mp r],hn,hz,h.pr R (LN.mpr rfl)⟩
  |none=>rw[hn] at h;exact h.elim
 ·exact h.elim
theorem yo (hm:X.mg "int"=none)(ha:JA X E [a] l)(hg:Gl X "int":=by rfl)(he:G4 [a] X.env=(false,G0 a X.env)::G4 [] X.env:=by rfl)(hpl:(G3 pos (G4 [] X.env)).any (·.1)=false:=by rfl):JE X E (.Call (.Name "int" p) [a] [] pos) (Ku JP l):=
 jy (Is.or i9) Bv hg hm PyProof.Rows.boot_int ha (he:=he) (hpl:=hpl)
def MO (ws:List W):M W:=match ws with
 |[.int i]=>gd (i.natAbs.log2<1920) (pr (.str (toString i)))
 |[.str z]=>pr (.str z)
 |_=>no
theorem Bs:HL X E (fun xs H Q=>(fun xs H Q=> ∃i,xs=[.int i]/\i.natAbs.log2<1920/\Q (.str (toString i)) H) xs H Q\/(fun xs H Q=> ∃ (z:Str),xs=[.str z]/\Q (.str z) H) xs H Q) MO:=by
 intro o ws vs Q R rv h
 unfold MO at h
 split at h
 ·obtain⟨v,rfl,r⟩:=rv.one
  obtain⟨hz,h⟩:=h.gd
  exact .inl ⟨_,by rw[LN.mp r],hz,h.pr R (LP.mpr rfl)⟩
 ·obtain⟨v,rfl,r⟩:=rv.one
  exact .inr ⟨_,by rw[LP.mp r],h.pr R (LP.mpr rfl)⟩
 ·exact h.elim
theorem yk (hm:X.mg "str"=none)(ha:JA X E [a] l)(hg:Gl X "str":=by rfl)(he:G4 [a] X.env=(false,G0 a X.env)::G4 [] X.env:=by rfl)(hpl:(G3 pos (G4 [] X.env)).any (·.1)=false:=by rfl):JE X E (.Call (.Name "str" p) [a] [] pos) (Ku MO l):=
 jy (Iv.or oM) Bs hg hm PyProof.Rows.boot_str ha (he:=he) (hpl:=hpl)
def absW (ws:List W):M W:=match ws with
 |[.int i]=>pr (.int (if i<0 then -i else i))
 |_=>no
def KO (ws:List W):M W:=match ws with
 |[.int i,.int j]=>pr (.int (if j>i then j else i))
 |_=>no
theorem AY (hc:X.calm=true)(hm:X.mg "max"=none)(ha:JA X E [a,b] l)(hg:Gl X "max":=by rfl)(he:G4 [a,b] X.env=(false,G0 a X.env)::G4 [b] X.env:=by rfl)(hpl:(G3 pos (G4 [b] X.env)).any (·.1)=false:=by rfl):JE X E (.Call (.Name "max" p) [a,b] [] pos) (Ku KO l):=
 iY (ur hc) (fun o ws vs Q R rv h=>by
  unfold KO at h
  split at h
  ·obtain⟨v,u,rfl,r1,r2⟩:=rv.two
   exact⟨_,_,by rw[LN.mp r1,LN.mp r2],h.pr R (LN.mpr rfl)⟩
  ·exact h.elim) hg hm PyProof.Rows.boot_max ha (he:=he) (hpl:=hpl)
noncomputable def iOf:W->Option Int
 |.int i=>some i
 |_=>none
noncomputable def sOf:W->Option Str
 |.str i=>some i
 |_=>none
theorem jX {K:PySem.W.Frag}{o:Wo}{α:Type}{f:W->Option α}{g:α->V}(hf: ∀w a v,f w=some a->Rv K o w v->v=g a): ∀ {l:List W}{xs:List α}{vs:List V},Lm f l=some xs->Rvs K o l vs->vs=xs.map g
 |[],xs,vs,e,h=>by unfold Rvs at h;cases e;exact h
 |w::l,xs,vs,e,h=>by
  unfold Rvs at h
  obtain⟨v,r,rfl,h1,h2⟩:=h
  unfold Lm at e
  split at e
  ·rename_i d ds e1 e2
   cases e
   rw[hf w d v e1 h1,jX hf e2 h2];rfl
  ·cases e
theorem Bi {K:PySem.W.Frag}{o:Wo}: ∀ (w:W) (a:Int) (v:V),iOf w=some a->Rv K o w v->v=.int a:=fun w a v e h=>by
 cases w<;>first|(cases e;exact LN.mp h)|cases e
theorem uR {K:PySem.W.Frag}{o:Wo}: ∀ (w:W) (a:Str) (v:V),sOf w=some a->Rv K o w v->v=.str a:=fun w a v e h=>by
 cases w<;>first|(cases e;exact LP.mp h)|cases e
def MQ (ws:List W):M W:=match ws with
 |[w]=>bd (Kr w) fun l=>match Lm iOf l with
  |some ns=>pr (.int ns.sum)
  |none=>no
 |_=>no
theorem AO (hc:X.calm=true)(hm:X.mg "sum"=none)(ha:JA X E [a] l)(hg:Gl X "sum":=by rfl)(he:G4 [a] X.env=(false,G0 a X.env)::G4 [] X.env:=by rfl)(hpl:(G3 pos (G4 [] X.env)).any (·.1)=false:=by rfl):JE X E (.Call (.Name "sum" p) [a] [] pos) (Ku MQ l):=
 iY (wM hc) (fun o ws vs Q R rv h=>by
  unfold MQ at h
  split at h
  ·obtain⟨v,rfl,r⟩:=rv.one
   obtain⟨l,a,us,rfl,s,r,h⟩:=gc R r h
   cases e:Lm iOf l with
   |none=>rw[e] at h;exact h.elim
   |some ns=>
    rw[e] at h
    rw[jX Bi e r] at s
    exact⟨a,ns,rfl,s,h.pr R (LN.mpr rfl)⟩
  ·exact h.elim) hg hm PyProof.Rows.boot_sum ha (he:=he) (hpl:=hpl)
def iH (ws:List W):M W:=match ws with
 |[.tup l]=>pr (.tup l)
 |[w]=>bd (Kr w) fun l=>pr (.tup l)
 |_=>no
theorem vS (hm:X.mg "tuple"=none)(ha:JA X E [a] l)(hg:Gl X "tuple":=by rfl)(he:G4 [a] X.env=(false,G0 a X.env)::G4 [] X.env:=by rfl)(hpl:(G3 pos (G4 [] X.env)).any (·.1)=false:=by rfl):JE X E (.Call (.Name "tuple" p) [a] [] pos) (Ku iH l):=
 jy lY (fun o ws vs Q R rv h=>by
  unfold iH at h
  split at h
  ·obtain⟨v,rfl,r⟩:=rv.one
   have r0:=r
   unfold Rv at r
   obtain⟨a,us,rfl,s,r⟩:=r
   exact⟨a,us,rfl,.inr ⟨s,h.pr R r0⟩⟩
  ·obtain⟨v,rfl,r⟩:=rv.one
   obtain⟨l,a,us,rfl,s,r,h⟩:=gc R r h
   exact⟨a,us,rfl,.inl ⟨s,fun q hq=>nS R hq r h⟩⟩
  ·exact h.elim) hg hm PyProof.Rows.boot_tuple ha (he:=he) (hpl:=hpl)
def Kn (l:HU->M (List W)):HU->M (List W):=fun ρ=>bd (l ρ) fun ws=>match ws with
 |[.tup l]=>pr l
 |[w]=>Kr w
 |_=>no
def isS (w:W):M W:=match w with
 |.str z=>pr (.str z)
 |_=>no
def Kb (x:W)(ws:List W):M W:=match x,ws with
 |.str sep,[w]=>bd (Kp w) fun l=>match Lm sOf l with
  |some ts=>gd ((ts.map (·.length)).sum+ts.length * sep.length<=sizeLine) (pr (.str (Str.join sep ts)))
  |none=>no
 |_,_=>no
def Kz (chk:W->M W)(f:W->List W->M W)(fo:HU->M W)(l:HU->M (List W)):HU->M W:=fun ρ=>bd (fo ρ) fun x=>bd (chk x) fun x=>bd (l ρ) fun ws=>f x ws
variable {o e:Expr}{es:List Expr}{apos cpos:G1}{fo:HU->M W}
theorem sf (ho:JE X E o fo)(ha:JA X E [e] l)(hbase:Hk o "join" X.env (G0 o X.env)=G0 o X.env:=by rfl)
  (hfew:((G3 cpos (G4 [e] X.env)).all (fun x=>!x.1) && (Hl cpos (Hm [] X.env)).all (fun x=>x.1.isSome) && decide (([e]:List Expr).length+([]:List Hr).length+(if ([]:List Hr).isEmpty then 0 else 1)<30))=true:=by rfl)
  (hline:(apos.endLine==cpos.line)=true:=by rfl)(hs:G4 [e] X.env=(false,G0 e X.env)::G4 [] X.env:=by rfl)(hplain:(G3 cpos (G4 [] X.env)).any (·.1)=false:=by rfl):
  JE X E (.Call (.Attribute o "join" apos) [e] [] cpos) (Kz isS Kb fo l):=
 (py PySem.F.plainAttrs_str PySem.F.slot_str_join PySem.F.type_str_join yb ho.h ha.h hbase hfew hline hs hplain).imp fun σ H Q h=>by
  obtain⟨w,ρ,rfl,R,S,h⟩:=h
  refine⟨w,ρ,rfl,R,S,Ps.bd h fun p x vx e1 R1 r1 h1=>?_⟩
  cases x with
  |str sep=>
   have h1:Ps (cg X E) (Rv X.K) p (bd (l ρ) (fun ws=>Kb (.str sep) ws) p.h) Q:=h1
   rw[LP.mp r1]
   refine⟨rfl,p,ρ,rfl,R1,S.mono R e1,Ps.bd h1 fun q ws vs e2 R2 r2 h2=>?_⟩
   rcases ws with _|⟨w',_|⟨_,_⟩⟩
   ·exact h2.elim
   ·have h2:Ps (cg X E) (Rv X.K) q (bd (Kp w') (fun l=>match Lm sOf l with
     |some ts=>gd ((ts.map (·.length)).sum+ts.length * sep.length<=sizeLine) (pr (.str (Str.join sep ts)))
     |none=>no) q.h) Q:=h2
    obtain⟨v,rfl,r⟩:=r2.one
    obtain⟨l',a,us,rfl,s,r,h2⟩:=ft R2 r h2
    cases e:Lm sOf l' with
    |none=>rw[e] at h2;exact h2.elim
    |some ts=>
     rw[e] at h2
     rw[jX uR e r] at s
     obtain⟨hz,h2⟩:=h2.gd
     exact⟨sep,a,ts,rfl,rfl,.of s,hz,h2.pr R2 (LP.mpr rfl)⟩
   ·exact h2.elim
  |_=>exact h1.elim
def isL (w:W):M W:=match w with
 |.loc k=>fun h=>match h[k]? with
  |some (.lst _)=>.ok (.loc k) h
  |_=>.bad
 |_=>no
theorem Bh {α β:Type}{r:Wo->α->β->Prop}{o:Wo}{w:W}{v:V}{k:W->M α}{Q:β->Hp->Prop}(R:Rel X.K o)(hr:Rv X.K o w v)(h:Ps (cg X E) r o (bd (isL w) k o.h) Q):
  ∃j l vs,w=.loc j/\o.h[j]?=some (.lst l)/\v=.ref (o.mu j)/\j<o.h.length/\o.H (o.mu j)=some (.lst vs)/\Rvs X.K o l vs/\Ps (cg X E) r o (k (.loc j) o.h) Q:=by
 cases w with
 |loc j=>
  unfold Rv at hr
  unfold isL bd at h
  cases e:o.h[j]? with
  |none=>simp only[e] at h;exact h.elim
  |some b=>
   cases b with
   |lst l=>
    simp only[e] at h
    obtain⟨vs,h1,h2⟩:=R.ob j _ e
    exact⟨j,l,vs,rfl,e,hr.2,hr.1,h1,h2,h⟩
   |_=>simp only[e] at h;exact h.elim
 |_=>exact h.elim
def aR (x:W)(ws:List W):M W:=match x,ws with
 |.loc k,[w]=>fun h=>match h[k]? with
  |some (.lst l)=>if l.length<sizeLine then .ok .non (h.set k (.lst (l++[w]))) else .bad
  |_=>.bad
 |_,_=>no
theorem mL (ho:JE X E o fo)(ha:JA X E [e] l)(hbase:Hk o "append" X.env (G0 o X.env)=G0 o X.env:=by rfl)
  (hfew:((G3 cpos (G4 [e] X.env)).all (fun x=>!x.1) && (Hl cpos (Hm [] X.env)).all (fun x=>x.1.isSome) && decide (([e]:List Expr).length+([]:List Hr).length+(if ([]:List Hr).isEmpty then 0 else 1)<30))=true:=by rfl)
  (hline:(apos.endLine==cpos.line)=true:=by rfl)(hs:G4 [e] X.env=(false,G0 e X.env)::G4 [] X.env:=by rfl)(hplain:(G3 cpos (G4 [] X.env)).any (·.1)=false:=by rfl):
  JE X E (.Call (.Attribute o "append" apos) [e] [] cpos) (Kz isL aR fo l):=
 (py PySem.F.plainAttrs_list PySem.F.slot_list_append PySem.F.type_list_append tU ho.h ha.h hbase hfew hline hs hplain).imp fun σ H Q h=>by
  obtain⟨w,ρ,rfl,R,S,h⟩:=h
  refine⟨w,ρ,rfl,R,S,Ps.bd h fun p x vx e1 R1 r1 h1=>?_⟩
  obtain⟨j,l0,vs0,rfl,hj,rfl,hlt,hH,hl0,h1⟩:=Bh R1 r1 h1
  refine⟨.inl ⟨rfl,vs0,.of hH⟩,p,ρ,rfl,R1,S.mono R e1,Ps.bd h1 fun q ws vs e2 R2 r2 h2=>?_⟩
  rcases ws with _|⟨w',_|⟨_,_⟩⟩
  ·exact h2.elim
  ·unfold aR at h2
   cases e:q.h[j]? with
   |none=>simp only[e] at h2;exact h2.elim
   |some b=>
    cases b with
    |lst l'=>
     simp only[e] at h2
     obtain⟨v,rfl,r⟩:=r2.one
     obtain⟨us,k1,k2⟩:=R2.ob j _ e
     by_cases z:l'.length<sizeLine
     ·rw[if_pos z] at h2
      rw[e2.mu j hlt] at k1
      refine⟨p.mu j,us,v,rfl,rfl,k1,by rw[k2.len];exact z,?_⟩
      have:=Ps.at (p:=q.put j (.lst (l'++[w'])) (.lst (us++[v]))) (b:=V.non) h2 rfl (Ex.put e (by simp)) (R2.putL e (by simp) (k2.app (Rvs.cons r Rvs.nil))) (LO.mpr rfl)
      have em:q.mu j=p.mu j:=e2.mu j hlt
      have ew:(q.put j (.lst (l'++[w'])) (.lst (us++[v]))).H=upd q.H (p.mu j) (.lst (us++[v])):=by
       show upd q.H (q.mu j) _=_
       rw[em]
      rw[ew] at this
      exact this
     ·rw[if_neg z] at h2;exact h2.elim
    |_=>simp only[e] at h2;exact h2.elim
  ·exact h2.elim
def JK (w:W):M W:=match w with
 |.loc k=>fun h=>match h[k]? with
  |some (.lst l)=>.ok (.tl l) (h.set k .gone)
  |some (.dic ks ws)=>.ok (.dv ks ws) (h.set k .gone)
  |some (.din b ks ws)=>.ok (.dn b ks ws) (h.set k .gone)
  |_=>.bad
 |w=>pr w
theorem zF {f:HU->M W}{σ:St}{H:Hp}{Q:VK}(h:tM (cg X E) (m1 JK f) σ H Q):tM (cg X E) f σ H Q:=by
 obtain⟨o,ρ,rfl,R,S,h⟩:=h
 refine⟨o,ρ,rfl,R,S,Ps.bd h fun p x vx e1 R1 r1 h1=>?_⟩
 cases x with
 |loc k=>
  unfold Rv at r1
  obtain⟨_,rfl⟩:=r1
  unfold JK at h1
  dsimp only at h1
  split at h1
  ·rename_i l hl
   exact Ps.at (p:=p.ice k) h1 rfl Ex.ice R1.ice (Rv.iceL R1 hl)
  ·rename_i ks ws hl
   exact Ps.at (p:=p.ice k) h1 rfl Ex.ice R1.ice (Rv.iceD R1 hl)
  ·rename_i b ks ws hl
   exact Ps.at (p:=p.ice k) h1 rfl Ex.ice R1.ice (Rv.iceN R1 hl)
  ·exact h1.elim
 |_=>exact Ps.pr (c:=cg X E) h1 R1 r1
theorem oo {f:HU->M W}{e:Expr}(h:JE X E e f):JE X E e (m1 JK f):=h.h.imp fun _ _ _ q=>zF q
noncomputable def KN {κ:Type} [DecidableEq κ]:List κ->List W->κ->W->List W
 |k::ks,w::ws,x,y=>(if k=x then y else w)::KN ks ws x y
 |_,_,_,_=>[]
def LD {κ:Type} [DecidableEq κ] (ks:List κ)(ws:List W)(x:κ)(y:W):List κ×List W:=if (ks.any fun k=>decide (k=x))=true then (ks,KN ks ws x y) else (ks++[x],ws++[y])
def km (x i v:W):M Unit:=match x with
 |.loc k=>fun h=>match h[k]? with
  |some (.lst l)=>match i with
   |.int n=>match ixN l.length n with
    |some j=>.ok () (h.set k (.lst (l.set j v)))
    |none=>.bad
   |_=>.bad
  |some (.dic ks ws)=>match Ke i with
   |some q=>if ks.length<sizeLine then .ok () (h.set k (.dic (LD ks ws q v).1 (LD ks ws q v).2)) else .bad
   |none=>.bad
  |some (.dit ks ws)=>match i with
   |.kt q=>if ks.length<sizeLine then .ok () (h.set k (.dit (LD ks ws q v).1 (LD ks ws q v).2)) else .bad
   |_=>.bad
  |_=>.bad
 |_=>no
def rSetD:Ig:=fun o i v H Q=> ∃a H',o=.ref a/\DPut H a i v H'/\Q H'
theorem uP (hu:X.A.units+1<GM):PSet X rSetD:=by
 intro pins s σ H o i v ov iv u Q I ro ri rv h
 obtain⟨a,H',rfl,g,q⟩:=h
 cases ro
 exact uo hu I g ri rv fun s4 I4=>⟨H',I4,q⟩
theorem PSet.or {t t':Ig}(h:PSet X t)(h':PSet X t'):PSet X (fun o i v H Q=>t o i v H Q\/t' o i v H Q):=by
 intro pins s σ H o i v ov iv u Q I ro ri rv q
 rcases q with q|q
 ·exact h pins s σ H o i v ov iv u Q I ro ri rv q
 ·exact h' pins s σ H o i v ov iv u Q I ro ri rv q
theorem pK {κ:Type} [DecidableEq κ] {K:PySem.W.Frag}{o:Wo}{x:κ}{y:W}{v:V}(hy:Rv K o y v): ∀ {ks:List κ}{ws:List W}{kvs:List (κ×V)},kvs.map (·.1)=ks->Rvs K o ws (kvs.map (·.2))->Rvs K o (KN ks ws x y) ((kvs.map fun kv=>if kv.1=x then (kv.1,v) else kv).map (·.2))
 |_,ws,[],e,h=>by subst e;unfold KN;exact Rvs.nil
 |_,ws,(k,u)::r,e,h=>by
  subst e
  cases ws with
  |nil=>unfold Rvs at h;cases h
  |cons w ws=>
   unfold Rvs at h
   obtain⟨u',r',e',h1,h2⟩:=h
   cases e'
   have ih:=pK (x:=x) hy (ks:=r.map (·.1)) (ws:=ws) (kvs:=r) rfl h2
   show Rvs K o ((if k=x then y else w)::KN (r.map (·.1)) ws x y) ((if k=x then (k,v) else (k,u)).2::_)
   by_cases z:k=x
   ·rw[if_pos z,if_pos z];exact Rvs.cons hy ih
   ·rw[if_neg z,if_neg z];exact Rvs.cons h1 ih
theorem rW {κ:Type} [DecidableEq κ] {K:PySem.W.Frag}{o:Wo}{x:κ}{y:W}{v:V}{ks:List κ}{ws:List W}{kvs:List (κ×V)}(hy:Rv K o y v)(hk:kvs.map (·.1)=ks)(h:Rvs K o ws (kvs.map (·.2))):
  (LB kvs x v).map (·.1)=(LD ks ws x y).1/\Rvs K o (LD ks ws x y).2 ((LB kvs x v).map (·.2)):=by
 subst hk
 have ea:((kvs.map (·.1)).any fun k=>decide (k=x))=(kvs.any fun kv=>decide (kv.1=x)):=by rw[List.any_map];rfl
 unfold LB LD
 rw[ea]
 by_cases z:(kvs.any fun kv=>decide (kv.1=x))=true
 ·rw[if_pos z,if_pos z]
  refine⟨?_,pK hy rfl h⟩
  rw[El]
  refine FR fun kv _=>?_
  show (if kv.1=x then (kv.1,v) else kv).1=kv.1
  split<;>rfl
 ·rw[if_neg z,if_neg z]
  refine⟨by simp,?_⟩
  show Rvs K o (ws++[y]) ((kvs++[(x,v)]).map (·.2))
  rw[Dr]
  exact h.app (Rvs.cons hy Rvs.nil)
def aP (fo fi fv:HU->M W):HU->M Fl:=fun ρ=>bd (fv ρ) fun v=>bd (fo ρ) fun x=>bd (fi ρ) fun i=>bd (km x i v) fun _=>pr (.nx ρ)
variable {i value:Expr}{tpos:G1}{fi fv:HU->M W}
theorem vP (hu:X.A.units+1<GM)(ho:JE X E o fo)(hi:JE X E i fi)(hv:JE X E value fv)
  (ha: ∀v,assign (.Subscript o i tpos) X.env v=(do
   let ov<-Ha [v] (G0 o X.env)
   let iv<-Ha [v,ov] (G0 i X.env)
   G9 tpos
   Ha [v,ov,iv] (setItem ov iv v)
   release [v,ov,iv] []):=by intro _;rfl)
  (hs:swapsWithSole [.Subscript o i tpos] value pos.line X.env=pure false:=by rfl)(hw:swappedStores [.Subscript o i tpos] value X.env=pure none:=by rfl)
  (h1:(Hc [.Subscript o i tpos] X.env).map (·.2)=[assign (.Subscript o i tpos) X.env]:=by rfl):JS X E (.Assign [.Subscript o i tpos] value pos) (aP fo fi fv):=
 (uY hv.h (z0 ho.h hi.h (Mo.or (uP hu)) ha) hs hw h1).imp fun D σ H h=>by
  obtain⟨w,ρ,rfl,R,S,h⟩:=h
  refine⟨w,ρ,rfl,R,S,Ps.bd h fun p v vv e1 R1 r1 h1=>⟨p,ρ,rfl,R1,S.mono R e1,Ps.bd h1 fun q x vx e2 R2 r2 h2=>⟨q,ρ,rfl,R2,(S.mono R e1).mono R1 e2,Ps.bd h2 fun s i vi e3 R3 r3 h3=>?_⟩⟩⟩
  have S3:=((S.mono R e1).mono R1 e2).mono R2 e3
  have rv:=(r1.mono R1 e2).mono R2 e3
  have rx:=r2.mono R2 e3
  cases x with
  |loc k=>
   unfold Rv at rx
   obtain⟨hk,rfl⟩:=rx
   unfold km bd at h3
   cases e:s.h[k]? with
   |none=>simp only[e] at h3;exact h3.elim
   |some b=>
    cases b with
    |ins c ns ws=>simp only[e] at h3;exact h3.elim
    |din b ks ws=>simp only[e] at h3;exact h3.elim
    |gone=>simp only[e] at h3;exact h3.elim
    |lst l=>
     simp only[e] at h3
     cases i with
     |int n=>
      simp only at h3
      cases ej:ixN l.length n with
      |none=>simp only[ej] at h3;exact h3.elim
      |some j=>
       simp only[ej] at h3
       obtain⟨us,k1,k2⟩:=R3.ob k _ e
       refine .inl ⟨_,us,n,j,rfl,LN.mp r3,k1,by rw[k2.len];exact ej,?_⟩
       exact Ps.at (p:=s.put k (.lst (l.set j v)) (.lst (us.set j vv))) (b:=FlV.nx σ) h3 rfl (Ex.put e (by simp)) (R3.putL e (by simp) (k2.set rv j)) ⟨σ,rfl,S3.mono R3 (Ex.put e (by simp))⟩
     |_=>exact h3.elim
    |dit ks ws=>
     simp only[e] at h3
     cases i with
     |kt x=>
      simp only at h3
      by_cases z:ks.length<sizeLine
      ·simp only[if_pos z] at h3
       obtain⟨kvs,k1,k2,k3⟩:=R3.ob k _ e
       unfold Rv at r3
       obtain⟨b,rfl,hb⟩:=r3
       obtain⟨b1,b2⟩:=rW (x:=x) rv k2 k3
       refine .inr ⟨_,_,rfl,.inr ⟨kvs,x,b,k1,rfl,hb,by rw[<-k2,Dh] at z;exact z,rfl⟩,?_⟩
       exact Ps.at (p:=s.put k (.dit (LD ks ws x v).1 (LD ks ws x v).2) (.dT (LB kvs x vv))) (b:=FlV.nx σ) h3 rfl (Ex.put e (by simp)) (R3.putT e (by simp) b1 b2) ⟨σ,rfl,S3.mono R3 (Ex.put e (by simp))⟩
      ·simp only[if_neg z] at h3;exact h3.elim
     |_=>exact h3.elim
    |dic ks ws=>
     simp only[e] at h3
     cases ej:Ke i with
     |none=>simp only[ej] at h3;exact h3.elim
     |some x=>
      simp only[ej] at h3
      by_cases z:ks.length<sizeLine
      ·simp only[if_pos z] at h3
       obtain⟨kvs,k1,k2,k3⟩:=R3.ob k _ e
       rw[kY ej r3]
       obtain⟨b1,b2⟩:=rW (x:=x) rv k2 k3
       refine .inr ⟨_,_,rfl,.inl ⟨kvs,x,k1,rfl,by rw[<-k2,Dh] at z;exact z,rfl⟩,?_⟩
       exact Ps.at (p:=s.put k (.dic (LD ks ws x v).1 (LD ks ws x v).2) (.dK (LB kvs x vv))) (b:=FlV.nx σ) h3 rfl (Ex.put e (by simp)) (R3.putD e (by simp) b1 b2) ⟨σ,rfl,S3.mono R3 (Ex.put e (by simp))⟩
      ·simp only[if_neg z] at h3;exact h3.elim
  |_=>exact h3.elim
end
end
section
def LK (n:Nat)(g:HU->M Fl)(ws:List W):M W:=bd (g (ws.map some++List.replicate (n - ws.length) none)) fun x=>match x with
 |.rt w=>pr w
 |.nx _=>pr .non
 |_=>no
section
variable {P:GE}{w:GF}{K:PySem.W.Frag}{mg:Str->Option GC}{base:GG}{x qual:Str}{st:G5}{f:GH}{fd:Hn}{N ps:List Str}{k:Nat}{g:HU->M Fl}
def Mz (K:PySem.W.Frag)(mg:Str->Option GC)(n:Nat)(f:List W->M W):Sp:=fun vs H Q _=> ∃o ws,o.H=H/\ws.length=n/\Rel K o/\Rvs K o ws vs/\Ps ⟨K,mg,E0⟩ (Rv K) o (f ws o.h) Q
theorem CB {n m:Nat}{fn:List W->M W}(F:Fun K x qual st f fd)(S:HW N ps (ae st))(hn:N.length=n)(hm:ps.length=m)(hf:fn=LK n g)
  (hb: ∀ (cdv:GC) (A:GL) (outer:List Env) (s:GJ) (H:Hp) (E:XK),Room k (A.deeper (Ht qual (ae st) s.heap.objs.size f cdv))->JSs (IG CX0 P w K mg base N qual (ae st) f cdv A outer s H E).nox E0 (br st) g):
  FnOk P w K mg base CX0 (k+1) f fd ps (Mz K mg m fn):=by
 subst hn hm hf
 refine F.ok S (fun vs H Q E h=>?_) (fun cdv A outer s H vs Q E hr h=>?_)
 ·obtain⟨o,ws,_,hl,_,rv,_⟩:=h
  rw[rv.len,hl]
 ·obtain⟨o,ws,rfl,hl,R,rv,h⟩:=h
  refine⟨_,(hb cdv A outer s o.H E hr).h,?_⟩
  have e:MI N vs=vs.map some++List.replicate (N.length - ws.length) none:=by unfold MI;rw[rv.len]
  rw[e]
  refine⟨o,_,rfl,R,Re.args _ rv,Ps.bd h fun p x b e1 R1 r1 h1=>?_⟩
  cases x with
  |rt w=>obtain⟨v,rfl,r⟩:=r1;exact h1.pr R1 r
  |nx r=>obtain⟨s,rfl,r⟩:=r1;exact h1.pr R1 (LO.mpr rfl)
  |bk r=>exact h1.elim
  |ct r=>exact h1.elim
theorem Bq {m:Nat}{fn:List W->M W}(h:∀ws h,fn ws h=.bad):FnOk P w K mg base CX0 k f fd ps (Mz K mg m fn):=by
 have no: ∀vs H Q E,¬Mz K mg m fn vs H Q E:=fun vs H Q E ⟨o,ws,_,_,_,_,q⟩=>by rw[h] at q;exact q
 exact⟨fun vs H Q E h=>absurd h (no vs H Q E),fun A outer s H args us vs Q E _ _ _ _ h=>absurd h (no vs H Q E)⟩
structure CG (P:GE)(w:GF)(K:PySem.W.Frag)(mg:Str->Option GC)(base:GG)(k:Nat)(x:Str)(f:GH)(fd:Hn)(ps:List Str)(m:Nat)(fn:List W->M W):Prop where
 ok:FnOk P w K mg base CX0 k f fd ps (Mz K mg m fn)
 bi:Binds K fd ps []
 kp:Gz K (.ref f)=true
 mg:mg x=some (.ref f)
end
def arW (n:Nat)(f:List W->M W)(ws:List W):M W:=if ws.length=n then f ws else no
section
variable {X:Cx}{p pos:G1}{e:Expr}{es:List Expr}{l:HU->M (List W)}{f:List W->M W}{k:Nat}{fA:GH}{fd:Hn}{ps:List Str}{x:Str}
theorem Cn {m:Nat}(C:CG X.prog X.w X.K X.mg X.base k x fA fd ps m f)(hr:Room k X.A)(ha:JA X E0 (e::es) l)(hg:Gl X x:=by rfl)
  (hdb:(x==("__debug__":Str))=false:=by decide)(he:G4 (e::es) X.env=(false,G0 e X.env)::G4 es X.env:=by rfl)(hpl:(G3 pos (G4 es X.env)).any (·.1)=false:=by rfl):
  JE X E0 (.Call (.Name x p) (e::es) [] pos) (Ku (arW m f) l):=(du C.ok hr hg C.mg C.kp C.bi .nil Lp ha.h hdb he hpl).imp fun σ H Q h=>by
 obtain⟨o,ρ,rfl,R,S,h⟩:=h
 refine⟨o,ρ,rfl,R,S,Ps.bd h fun p x vx e1 R1 r1 h1=>?_⟩
 unfold arW at h1
 by_cases z:x.length=m
 ·rw[if_pos z] at h1
  exact⟨p,x,rfl,z,R1,by rw[DM];exact r1,h1⟩
 ·rw[if_neg z] at h1
  exact h1.elim
end
section
variable {X:Cx}{E:XK}{p pos:G1}
noncomputable def Iy (z:Str):List W:=z.cps.toList.map fun c=>.str ⟨#[c]⟩
def MG (w:W):M Sr:=match w with
 |.str z=>pr ⟨Iy z,fun _=>True⟩
 |_=>no
theorem AM {tg l:Expr}{fl:HU->M W}(hl:JE X E l fl):JI X E tg l (KH fl MG):=(qW hl.h).imp fun σ H Q h=>by
 obtain⟨o,ρ,rfl,R,S,h⟩:=h
 refine⟨o,ρ,rfl,R,S,Ps.bd h fun p x vx e1 R1 r1 h1=>?_⟩
 cases x with
 |str z=>
  have ln:(Iy z).length=z.cps.size:=by unfold Iy;rw[Dh];simp
  refine⟨z,LP.mp r1,h1.pr R1 ⟨fun o X R g=>ln,fun o i w X R g e=>⟨?_,fun x H' y=>?_⟩⟩⟩
  ·have:=(DK.mp e).1
   have this:i<(Iy z).length:=this
   rw[ln] at this;exact this
  ·obtain⟨rfl,c,hc,rfl⟩:=y
   have e:(Iy z)[i]?=some w:=e
   unfold Iy at e
   rw[DA,hc] at e
   cases e
   exact⟨o,rfl,rfl,Ex.refl _,R,LP.mpr rfl⟩
 |_=>exact h1.elim
noncomputable def K3 (n:Int):List W->List W
 |[]=>[]
 |w::l=>.tup [.int n,w]::K3 (n+1) l
theorem fX: ∀ (l:List W) (n:Int),(K3 n l).length=l.length
 |[],_=>rfl
 |w::l,n=>by rw[K3,Di,Di,fX l]
theorem iV: ∀ (l:List W) (n:Int) (i:Nat) (w:W),(K3 n l)[i]?=some w-> ∃x,l[i]?=some x/\w=.tup [.int (n+i),x]
 |[],_,_,_,h=>by simp [K3] at h
 |x::l,n,0,w,h=>by rw[K3] at h;cases h;exact⟨x,rfl,by simp⟩
 |x::l,n,i+1,w,h=>by
  rw[K3,Ez] at h
  obtain⟨y,e1,e2⟩:=iV l (n+1) i w h
  exact⟨y,by simpa using e1,by rw[e2];congr 3;omega⟩
def IL (ws:List W):M Sr:=match ws with
 |[w]=>bd (MF w) fun s=>pr ⟨K3 0 s.l,s.G⟩
 |_=>no
theorem xj {α β:Type}{r:Wo->α->β->Prop}{o:Wo}{w:W}{v:V}{k:Sr->M α}{Q:β->Hp->Prop}(R:Rel X.K o)(hr:Rv X.K o w v)(h:Ps (cg X E) r o (bd (MF w) k o.h) Q):
  ∃s a,v=.ref a/\(∃vs,SqL X.K o.H a vs)/\(∀p,Ex o p->Rel X.K p->s.G p.h-> ∃vs,SqL X.K p.H a vs/\Rvs X.K p s.l vs)/\Ps (cg X E) r o (k s o.h) Q:=by
 cases w with
 |tl l=>
  unfold Rv at hr
  obtain⟨a,vs,rfl,s,n,r⟩:=hr
  exact⟨⟨l,fun _=>True⟩,a,rfl,⟨vs,.of s⟩,fun p X _ _=>⟨vs,.of (X.fr a _ s n).1,r.mono R X⟩,h⟩
 |cl l=>
  unfold Rv at hr
  obtain⟨a,vs,rfl,s,r⟩:=hr
  have sq: ∀q,Ex o q->SqL X.K q.H a vs:=fun q X=>by
   rcases s with⟨s,n⟩|s
   ·exact .inl (X.rd s n).1
   ·exact .inr s
  exact⟨⟨l,fun _=>True⟩,a,rfl,⟨vs,sq o (Ex.refl _)⟩,fun p X _ _=>⟨vs,sq p X,r.mono R X⟩,h⟩
 |loc j=>
  unfold Rv at hr
  obtain⟨hj,rfl⟩:=hr
  unfold MF bd at h
  cases e:o.h[j]? with
  |none=>simp only[e] at h;exact h.elim
  |some b=>
   cases b with
   |lst l=>
    simp only[e] at h
    obtain⟨vs,h1,h2⟩:=R.ob j _ e
    refine⟨⟨l,fun h=>h[j]?=some (.lst l)⟩,_,rfl,⟨vs,.of h1⟩,fun p X Rp g=>?_,h⟩
    obtain⟨vs',h5,h6⟩:=Rp.ob j _ g
    rw[X.mu j hj] at h5
    exact⟨vs',.of h5,h6⟩
   |_=>simp only[e] at h;exact h.elim
 |_=>exact h.elim
theorem yi {a:Expr}{elts:List Expr}{x1}{tpos:G1}{fl:HU->M (List W)}(hm:X.mg "enumerate"=none)(ha:JA X E [a] fl)(hg:Gl X "enumerate":=by rfl)(hs:G4 [a] X.env=[(false,G0 a X.env)]:=by rfl):
  JI X E (.Tuple elts x1 tpos) (.Call (.Name "enumerate" p) [a] [] pos) (KI fl IL):=(xH hg hm ha.h hs).imp fun σ H Q h=>by
 obtain⟨o,ρ,rfl,R,S,h⟩:=h
 refine⟨o,ρ,rfl,R,S,Ps.bd h fun p x vx e1 R1 r1 h1=>?_⟩
 rcases x with _|⟨w,_|⟨_,_⟩⟩
 ·exact h1.elim
 ·have h1:Ps (cg X E) (fun p s J=>Ie X.K p J s) p (bd (MF w) (fun s=>pr ⟨K3 0 s.l,s.G⟩) p.h) Q:=h1
  obtain⟨v,rfl,r⟩:=r1.one
  obtain⟨s,a,rfl,hq,sk,h1⟩:=xj R1 r h1
  refine⟨a,rfl,hq,h1.pr R1 ⟨fun o X R g=>?_,fun o i w X R g e=>?_⟩⟩
  ·obtain⟨vs,k1,k2⟩:=sk o X R g
   exact⟨vs,k1,by rw[k2.len];exact (fX _ _).symm⟩
  ·obtain⟨vs,k1,k2⟩:=sk o X R g
   obtain⟨x,e1,rfl⟩:=iV _ _ _ _ e
   obtain⟨v,hv,rv⟩:=k2.get e1
   refine⟨⟨vs,v,k1,hv⟩,fun y H' q=>?_⟩
   obtain⟨T,z,hT,rfl,hz,rfl⟩:=q
   have:z=v:=by have:=hz vs k1;rw[hv] at this;exact (Option.some.inj this).symm
   subst this
   refine⟨⟨o.mu,o.h,upd o.H T (.tup [.int i,z])⟩,rfl,rfl,Ex.new hT,R.new hT,Rv.newT R hT (Rvs.cons (LN.mpr (by simp)) (Rvs.cons rv Rvs.nil))⟩
 ·exact h1.elim
def Ma (t:W->HU->Option HU)(f:HU->M W):HU->M Fl:=fun ρ=>bd (f ρ) fun w=>match t w ρ with
 |some r=>pr (.nx r)
 |none=>no
theorem AH {tg e:Expr}{m:Nat}{gT:TG}{t:W->HU->Option HU}{f:HU->M W}(he:JE X E e f)(hg:PG X tg gT)(ht:Ii X.K m gT t)(hs:swapsWithSole [tg] e pos.line X.env=pure false:=by rfl)(hw:swappedStores [tg] e X.env=pure none:=by rfl)
  (h1:(Hc [tg] X.env).map (·.2)=[assign tg X.env]:=by rfl):JS X E (.Assign [tg] e pos) (Ma t f):=(uY he.h hg hs hw h1).imp fun D σ H h=>by
 obtain⟨o,ρ,rfl,R,S,h⟩:=h
 refine⟨o,ρ,rfl,R,S,Ps.bd h fun p x vx e1 R1 r1 h1=>?_⟩
 cases et:t x ρ with
 |none=>rw[et] at h1;exact h1.elim
 |some r=>
  rw[et] at h1
  obtain⟨σ2,k1,k2,_,_⟩:=ht.ok p x vx ρ r σ r1 (S.mono R e1) et
  exact k1 _ (Ps.pr (b:=FlV.nx σ2) h1 R1 ⟨σ2,rfl,k2⟩)
noncomputable def isT (t c:String):Bool:=t==c||(t== "bool" && c== "int")
end
end
section
section
variable {X:Cx}{E:XK}{p pos:G1}{a b:Expr}{l:HU->M (List W)}
end
end
section
section
variable {X:Cx}{E:XK}{p pos:G1}{a b c:Expr}{fa fb fc:HU->M W}
def ba (f g:W->W->M W)(fa fb fc:HU->M W):HU->M W:=fun ρ=>bd (fa ρ) fun x=>bd (fb ρ) fun y=>bd (f x y) fun z=>bd (asB z) fun k=>if k=true then bd (fc ρ) fun w=>g y w else pr (.bl false)
theorem uE {r r':R2}{f g:W->W->M W}(hf: ∀ (o:Wo) (x y:W) (vx vy:V) (Q:VK),Rel X.K o->Rv X.K o x vx->Rv X.K o y vy->Ps (cg X E) (Rv X.K) o (f x y o.h) Q->r vx vy o.H Q)(hg:OpM X E r' g){σ:St}{H:Hp}{Q:VK}(h:tM (cg X E) (ba f g fa fb fc) σ H Q):uF r r' (tM (cg X E) fa) (tM (cg X E) fb) (tM (cg X E) fc) σ H Q:=by
 obtain⟨o,ρ,rfl,R,S,h⟩:=h
 refine⟨o,ρ,rfl,R,S,Ps.bd h fun p x vx e1 R1 r1 h1=>⟨p,ρ,rfl,R1,S.mono R e1,Ps.bd h1 fun q y vy e2 R2 r2 h2=>hf q x y vx vy _ R2 (r1.mono R1 e2) r2 (Ps.bd h2 fun s z vz e3 R3 r3 h3=>?_)⟩⟩
 obtain⟨k,rfl,rfl,h3⟩:=wW r3 h3
 refine⟨k,rfl,?_⟩
 cases k with
 |false=>exact J4 (h3.pr R3 (LM.mpr rfl))
 |true=>exact J5 ⟨s,ρ,rfl,R3,((S.mono R e1).mono R1 e2).mono R2 e3,Ps.bd h3 fun u w vw e4 R4 r4 h4=>hg u y w vy vw Q R4 ((r2.mono R2 e3).mono R3 e4) r4 h4⟩
theorem vO {op op':CmpOp}{r r':R2}{f g:W->W->M W}(ho:OpR X (G7 op) r)(hf:OpM X E r f)(ho':OpR X (G7 op') r')(hg:OpM X E r' g)(ha:JE X E a fa)(hb:JE X E b fb)(hc:JE X E c fc)
 (hm:lastMarks [op,op'] [b,c]=false:=by with_unfolding_all rfl):JT X E (.Compare a [op,op'] [b,c] pos) (mB (ba f g fa fb fc)):=(uW ho ho' ha.h hb.h hc.h hm).imp fun _ _ _ h=>uE hf hg (zG h)
end
section
variable {es:List Expr}{env:Env}{pos:G1}
theorem bt {c p}:G4 (.Name c p::es) env=(false,G0 (.Name c p) env)::G4 es env:=by rfl
theorem C4 {o a p}:G4 (.UnaryOp o a p::es) env=(false,G0 (.UnaryOp o a p) env)::G4 es env:=by rfl
theorem jq {a o b p}:G4 (.Call a o b p::es) env=(false,G0 (.Call a o b p) env)::G4 es env:=by rfl
theorem dC:(G3 pos (G4 [] env)).any (·.1)=false:=by rfl
theorem cG {e:Expr}(hs:G4 (e::es) env=(false,G0 e env)::G4 es env)(h:(G3 pos (G4 es env)).any (·.1)=false):(G3 pos (G4 (e::es) env)).any (·.1)=false:=by
 rw[hs]
 show ((false||(G3 pos (G4 es env)).any (·.1)):Bool)=false
 rw[h];rfl
end
section
variable {P:GE}{w:GF}{K:PySem.W.Frag}{mg:Str->Option GC}{base:GG}{x:Str}{f:GH}{fd:Hn}{ps:List Str}{k:Nat}{sp:Sp}{fn:List W->M W}
theorem wx (F:FnOk P w K mg base (CXx P w) k f fd ps sp){sp':Sp}(h:∀vs H Q E,sp' vs H Q E->sp vs H Q E0):FnOk P w K mg base CX0 k f fd ps sp':=
 ⟨fun vs H Q E q=>F.len vs H Q E0 (h _ _ _ _ q),fun A outer s H args us vs Q E hr he hb hv hs=>Ho (F.run A outer s H args us vs Q E0 hr he hb hv (h _ _ _ _ hs)) fun r s' q=>by
  cases r with
  |ok fl=>cases fl<;>exact q
  |error e=>
   obtain⟨_,_,_,_,_,_,_,_,_,_,_,_,_,_,z⟩:=q
   exact z.elim⟩
theorem o8 {o:Wo}{ws:List W}{Q:VK}{wv:W}{v:V}{H':Hp}(R:Rel K o)(g:Same o.H H')(hv:Rv K ⟨o.mu,o.h,H'⟩ wv v)(h:Ps ⟨K,mg,E0⟩ (Rv K) o (pr wv o.h) Q):Q v H':=
 Ps.at (p:=⟨o.mu,o.h,H'⟩) h rfl (Ex.same g) (R.same g) hv
end
end
section
def spX (K:PySem.W.Frag)(mg:Str->Option GC)(n:Nat)(f:List W->M W):Sp:=fun vs H Q E=> ∃o ws,o.H=H/\ws.length=n/\Rel K o/\Rvs K o ws vs/\Ps ⟨K,mg,E⟩ (Rv K) o (f ws o.h) Q
structure CGx (P:GE)(w:GF)(K:PySem.W.Frag)(mg:Str->Option GC)(base:GG)(k:Nat)(x:Str)(f:GH)(fd:Hn)(ps:List Str)(m:Nat)(fn:List W->M W):Prop where
 ok:FnOk P w K mg base (CXx P w) k f fd ps (spX K mg m fn)
 bi:Binds K fd ps []
 kp:Gz K (.ref f)=true
 mg:mg x=some (.ref f)
noncomputable def IA:List Str:=["TooLong", "NoRow", "NoPlace", "Twice", "Full", "NoBox", "Open", "NoBlock", "NoForm", "NoneYet", "NoOrder", "NoWay"]
structure ExF (K:PySem.W.Frag)(mg:Str->Option GC)(CF:GH)(c:Str):Prop where
 ex: ∃C,GA K GW c=some (some (.ref C))/\mg c=some (.ref C)/\HV K C/\PySem.W.exmOne K (.ref C) (.ref CF)=some true/\
  (∀d D,d∈IA->GA K GW d=some (some (.ref D))->kitOne K (.ref C) (.ref D)=some (decide (c=d)))/\kitOne K (.ref C) (.type "ValueError")=some true
section
variable {X:Cx}{E:XK}{p pos:G1}{a b:Expr}{l:HU->M (List W)}{CF:GH}{raised:List Str}
theorem eI {c:Str}{C:GH}(hn:GA X.K GW c=some (some (.ref C)))(hm:X.mg c=some (.ref C))(hg:Gl X c:=by rfl)(hd:(c==("__debug__":Str))=false:=by decide):JE X E (.Name c pos) (mC (.cls c)):=
 (cZ (v:=.ref C) hg hm rfl hd).imp fun _ _ _ h=>uD (fun o=>by unfold Rv;exact⟨C,rfl,hn⟩) h
theorem yj (hm:X.mg "ValueError"=none)(hg:Gl X "ValueError":=by rfl):JE X E (.Name "ValueError" pos) (mC (.ty "ValueError")):=
 (xK (v:=.ty "ValueError") hg hm (by kernel_rfl) rfl).imp fun _ _ _ h=>uD (fun o=>LQ.mpr rfl) h
def J2 (raised:List Str)(ws:List W):M W:=match ws with
 |[.exc c,.cls d]=>gd (c∈raised/\d∈IA) (pr (.bl (decide (c=d))))
 |[.exc c,.ty "ValueError"]=>gd (c∈raised) (pr (.bl true))
 |_=>no
theorem dO (F:∀c∈raised,ExF X.K X.mg CF c)(hm:X.mg "isinstance"=none)(ha:JA X E [a,b] l)(hg:Gl X "isinstance":=by rfl)(he:G4 [a,b] X.env=(false,G0 a X.env)::G4 [b] X.env:=by rfl)(hpl:(G3 pos (G4 [b] X.env)).any (·.1)=false:=by rfl):JE X E (.Call (.Name "isinstance" p) [a,b] [] pos) (Ku (J2 raised) l):=
 iY oO (fun o ws vs Q R rv h=>by
  unfold J2 at h
  split at h
  ·rename_i c d
   obtain⟨v,u,rfl,r1,r2⟩:=rv.two
   obtain⟨hc,h⟩:=h.gd
   unfold Rv at r1 r2
   obtain⟨a,C,rfl,n1,hH⟩:=r1
   obtain⟨D,rfl,n2⟩:=r2
   obtain⟨C',n1',_,ek,_,kt,_⟩:=(F c hc.1).ex
   rw[n1] at n1'
   cases n1'
   exact⟨a,C,.ref D,.ref D,_,rfl,rfl,hH,ek,kt d D hc.2 n2,h.pr R (LM.mpr rfl)⟩
  ·rename_i c
   obtain⟨v,u,rfl,r1,r2⟩:=rv.two
   obtain⟨hc,h⟩:=h.gd
   rw[LQ.mp r2]
   unfold Rv at r1
   obtain⟨a,C,rfl,n1,hH⟩:=r1
   obtain⟨C',n1',_,ek,_,_,kv⟩:=(F c hc).ex
   rw[n1] at n1'
   cases n1'
   exact⟨a,C,.ty "ValueError",.type "ValueError",_,rfl,rfl,hH,ek,kv,h.pr R (LM.mpr rfl)⟩
  ·exact h.elim) hg hm PyProof.Rows.boot_isinstance ha (he:=he) (hpl:=hpl)
noncomputable def clr (i:Nat):Fl->Fl
 |.nx r=>.nx (r.set i none)
 |.bk r=>.bk (r.set i none)
 |.ct r=>.ct (r.set i none)
 |.rt w=>.rt w
def L9 (i:Nat)(raised:List Str)(m:Nat)(fn:List W->M W)(l:HU->M (List W))(g:HU->M Fl):HU->M Fl:=fun ρ=>bd (l ρ) fun ws h=>if ws.length=m then (match fn ws h with
 |.ok _ h'=>.ok (.nx ρ) h'
 |.ex c h'=>if c∈raised then bd (g (ρ.set i (some (.exc c)))) (fun x=>pr (clr i x)) h' else .bad
 |.bad=>.bad) else .bad
theorem Re.unset {K:PySem.W.Frag}{o:Wo}: ∀ {r:HU}{s:St} (i:Nat),Re K o r s->Re K o (r.set i none) (s.set i none)
 |[],_,_,h=>by rw[show _=[] from h];rfl
 |x::r,_,0,⟨y,t,rfl,h1,h2⟩=>⟨_,_,rfl,rfl,h2⟩
 |x::r,_,i+1,⟨y,t,rfl,h1,h2⟩=>⟨_,_,rfl,h1,Re.unset i h2⟩
variable {x n f:Str}{e b0:Expr}{es:List Expr}{s0:G5}{suite:List G5}{np hpos tpos epos:G1}{fn:List W->M W}{g:HU->M Fl}{k i m:Nat}{fA:GH}{fd:Hn}{ps:List Str}
theorem AI (D:InDef X)(F:∀c∈raised,ExF X.K X.mg CF c)(C:CGx X.prog X.w X.K X.mg X.base k f fA fd ps m fn)(hr:Room k X.A)(hm:X.mg x=some (.ref CF))(hN:X.N.Nodup)(hi:X.N[i]?=some n)(hk:X.env.kindOf n=some .local)(ha: ∀pn Z,JA (Na X pn Z) E0 (e::es) l)(hs: ∀ea,JSs (hW X ea) E0 (s0::suite) g)
  (hg:Gl X x:=by rfl)(hgf: ∀pn Z,Gl (Na X pn Z) f:=by intros;rfl)(hd:(x==("__debug__":Str))=false:=by decide)(hdb:(f==("__debug__":Str))=false:=by decide)
  (he: ∀pn Z,G4 (e::es) (Na X pn Z).env=(false,G0 e (Na X pn Z).env)::G4 es (Na X pn Z).env:=by intros;rfl)(hpl: ∀pn Z,(G3 pos (G4 es (Na X pn Z).env)).any (·.1)=false:=by intros;rfl)
  (hsw: ∀pn Z,swapsWith (.Call (.Name f p) (e::es) [] pos) none epos.line (Na X pn Z).env=pure false:=by intros;rfl):
  JS X E0 (.Try [.Expr (.Call (.Name f p) (e::es) [] pos) epos] [.ExceptHandler (some (.Name x np)) (some n) (s0::suite) hpos] [] [] tpos) (L9 i raised m fn l g):=
 (uX D hg hm hN hi hk (fun pn Z=>aK (jW (vh (X:=Na X pn Z) C.ok hr (hgf pn Z) C.mg C.kp C.bi .nil qX (show PA (Na X pn Z) (e::es) (tA (cg X E0) l) from (ha pn Z).h) hdb (he pn Z) (hpl pn Z)) (hsw pn Z))) (fun ea=>show PSs (hW X ea) (s0::suite) (tS (cg X E0) g) from (hs ea).h) hd).imp fun D σ H h=>by
  obtain⟨o,ρ,rfl,R,S,h⟩:=h
  refine (show tA (cg X E0) l σ o.H (fun vs H1=>spX X.K X.mg m fn (vs++[]) H1 (fun _ H2=>D.nx σ H2) (fun cls _ H'=>PySem.W.exmOne X.K cls (.ref CF)=some true/\ ∀ea,H' ea=none->tS (cg X E0) g {nx:=fun σ2 H2=>D.nx (σ2.set i none) H2,rt:=D.rt,bk:=fun σ2 H2=>D.bk (σ2.set i none) H2,ct:=fun σ2 H2=>D.ct (σ2.set i none) H2} (σ.set i (some (.ref ea))) (upd H' ea (IR ea cls)))) from ?_)
  refine⟨o,ρ,rfl,R,S,Ps.bd h fun p ws vs e1 R1 r1 h1=>?_⟩
  have S1:=S.mono R e1
  by_cases z:ws.length=m
  ·simp only[if_pos z] at h1
   refine⟨p,ws,rfl,z,R1,by rw[DM];exact r1,?_⟩
   cases ef:fn ws p.h with
   |bad=>rw[ef] at h1;exact h1.elim
   |ok w h'=>
    rw[ef] at h1
    intro q b eq X2 R2 _
    exact Ps.at (b:=FlV.nx σ) h1 eq X2 R2 ⟨σ,rfl,S1.mono R1 X2⟩
   |ex c h'=>
    rw[ef] at h1
    by_cases hc:c∈raised
    ·simp only[if_pos hc] at h1
     obtain⟨C',n1,m1,ek,xm,_,_⟩:=(F c hc).ex
     refine⟨.ref C',m1,fun q eq X2 R2=>⟨xm,fun ea hea=>?_⟩⟩
     subst eq
     have X3:Ex q ⟨q.mu,q.h,upd q.H ea (IR ea (.ref C'))⟩:=Ex.new hea
     have R3:Rel X.K ⟨q.mu,q.h,upd q.H ea (IR ea (.ref C'))⟩:=R2.new hea
     have S3:=(S1.mono R1 X2).mono R2 X3
     have rv:Rv X.K ⟨q.mu,q.h,upd q.H ea (IR ea (.ref C'))⟩ (.exc c) (.ref ea):=by
      unfold Rv
      exact⟨ea,C',rfl,n1,aC⟩
     have h2:Ps (cg X E0) (RFl X.K) ⟨q.mu,q.h,upd q.H ea (IR ea (.ref C'))⟩ (bd (g (ρ.set i (some (.exc c)))) (fun x=>pr (clr i x)) q.h) (DQ D):=(h1.after X2).after X3
     refine⟨⟨q.mu,q.h,upd q.H ea (IR ea (.ref C'))⟩,ρ.set i (some (.exc c)),rfl,R3,S3.set rv i,Ps.bd h2 fun s x b e4 R4 r4 h4=>?_⟩
     cases x with
     |nx r=>obtain⟨s',rfl,re⟩:=r4;have q:=Ps.pr (b:=FlV.nx (s'.set i none)) h4 R4 ⟨_,rfl,re.unset i⟩;exact q
     |bk r=>obtain⟨s',rfl,re⟩:=r4;have q:=Ps.pr (b:=FlV.bk (s'.set i none)) h4 R4 ⟨_,rfl,re.unset i⟩;exact q
     |ct r=>obtain⟨s',rfl,re⟩:=r4;have q:=Ps.pr (b:=FlV.ct (s'.set i none)) h4 R4 ⟨_,rfl,re.unset i⟩;exact q
     |rt w=>obtain⟨v,rfl,re⟩:=r4;have q:=Ps.pr (b:=FlV.rt v) h4 R4 ⟨_,rfl,re⟩;exact q
    ·simp only[if_neg hc] at h1;exact h1.elim
  ·simp only[if_neg z] at h1;exact h1.elim
def Iw (fa fb:HU->M W):HU->M (List W):=fun ρ=>bd (fa ρ) fun x=>bd (fb ρ) fun y=>bd (Kp x) fun a=>bd (Kp y) fun b=>gd (a.length+b.length<=sizeLine) (pr (a++b))
theorem rg {fa fb:HU->M W}(ha:JE X E a fa)(hb:JE X E b fb):JF X E (.BinOp a .Add b pos) (Iw fa fb):=(rZ vq ha.h hb.h).impF fun σ H Q h=>by
 obtain⟨o,ρ,rfl,R,S,h⟩:=h
 refine⟨o,ρ,rfl,R,S,Ps.bd h fun p x vx e1 R1 r1 h1=>⟨p,ρ,rfl,R1,S.mono R e1,Ps.bd h1 fun q y vy e2 R2 r2 h2=>?_⟩⟩
 obtain⟨l,a,vs,rfl,s1,r3,h3⟩:=ft R2 (r1.mono R1 e2) h2
 obtain⟨m,b,us,rfl,s2,r4,h4⟩:=ft R2 r2 h3
 obtain⟨hz,h4⟩:=h4.gd
 exact⟨a,b,vs,us,rfl,rfl,s1,s2,by rw[r3.len,r4.len];exact hz,h4.pr R2 (r3.app r4)⟩
end
end
end L2
namespace L2
open PySem
theorem cQ {α β:Type}{f:M α}{g:α->M β}{h h':List Ob}{a:α}(e:f h=.ok a h'):bd f g h=g a h':=by unfold bd;rw[e]
@[simp] theorem bd_pr {α β:Type}(a:α)(g:α->M β):bd (pr a) g=g a:=rfl
@[simp] theorem bd_no {α β:Type}(g:α->M β):bd (no:M α) g=no:=rfl
theorem ai {α:Type}{p:Prop} [Decidable p] {m:M α}(hp:p):gd p m=m:=by funext h;unfold gd;rw[if_pos hp]
@[simp] theorem addW_int (i j:Int):Il (.int i) (.int j)=pr (.int (i+j)):=rfl
theorem wY {a b:Str}(h:a.length+b.length<=sizeLine):Il (.str a) (.str b)=pr (.str (a++b)):=by unfold Il;exact ai h
@[simp] theorem subW_int (i j:Int):MP (.int i) (.int j)=pr (.int (i - j)):=ai trivial
theorem fY {i j:Int}(h:HJ i j):KU (.int i) (.int j)=pr (.int (i * j)):=by unfold KU;exact ai h
theorem om {i j:Int}(h1: -(2 ^ 64)<i)(h2:i<2 ^ 64):HJ i j:=.inl (.inl ⟨h1,h2⟩)
theorem vN {i j:Int}(h1: -(2 ^ 64)<j)(h2:j<2 ^ 64):HJ i j:=.inl (.inr ⟨h1,h2⟩)
theorem aH {i j:Int}(h1:0<j)(h2:j<2 ^ 200):IU (.int i) (.int j)=pr (.int (i / j)):=ai ⟨h1,h2⟩
theorem ah {i j:Int}(h1:0<j):KQ (.int i) (.int j)=pr (.int (i % j)):=ai h1
theorem kE {i j:Int}(h:HK i j):Lx (.int i) (.int j)=pr (.int (i ^ j.toNat)):=ai h
theorem uO {i j:Int}(h:0<=j):Mq (.int i) (.int j)=pr (.int (i / 2 ^ j.toNat)):=ai h
@[simp] theorem ltW_int (i j:Int):ltW (.int i) (.int j)=pr (.bl (decide (i<j))):=ai trivial
@[simp] theorem leW_int (i j:Int):leW (.int i) (.int j)=pr (.bl (decide (i<=j))):=ai trivial
@[simp] theorem gtW_int (i j:Int):gtW (.int i) (.int j)=pr (.bl (decide (j<i))):=ai trivial
@[simp] theorem geW_int (i j:Int):geW (.int i) (.int j)=pr (.bl (decide (j<=i))):=ai trivial
@[simp] theorem asB_bl (b:Bool):asB (.bl b)=pr b:=rfl
@[simp] theorem eqW_int (i j:Int):eqW (.int i) (.int j)=pr (.bl (decide (i=j))):=by
  funext h
  show Rs.ok (W.bl (decide (V.int i=V.int j))) h=Rs.ok (W.bl (decide (i=j))) h
  congr 2
  rw[decide_eq_decide]
  exact⟨V.int.inj,congrArg _⟩
@[simp] theorem eqW_str (i j:Str):eqW (.str i) (.str j)=pr (.bl (decide (i=j))):=by
  funext h
  show Rs.ok (W.bl (decide (V.str i=V.str j))) h=Rs.ok (W.bl (decide (i=j))) h
  congr 2
  rw[decide_eq_decide]
  exact⟨V.str.inj,congrArg _⟩
@[simp] theorem neW_int (i j:Int):neW (.int i) (.int j)=pr (.bl (!decide (i=j))):=by
  funext h
  show Rs.ok (W.bl (!decide (V.int i=V.int j))) h=Rs.ok (W.bl (!decide (i=j))) h
  congr 3
  rw[decide_eq_decide]
  exact⟨V.int.inj,congrArg _⟩
@[simp] theorem neW_str (i j:Str):neW (.str i) (.str j)=pr (.bl (!decide (i=j))):=by
  funext h
  show Rs.ok (W.bl (!decide (V.str i=V.str j))) h=Rs.ok (W.bl (!decide (i=j))) h
  congr 3
  rw[decide_eq_decide]
  exact⟨V.str.inj,congrArg _⟩
@[simp] theorem neW_bl (i j:Bool):neW (.bl i) (.bl j)=pr (.bl (!decide (i=j))):=by
  funext h
  show Rs.ok (W.bl (!decide (V.bl i=V.bl j))) h=Rs.ok (W.bl (!decide (i=j))) h
  congr 3
  rw[decide_eq_decide]
  exact⟨V.bl.inj,congrArg _⟩
theorem bM {l:List W}{i:Int}{w:W}(h:atI l i=some w):ixW (.tl l) (.int i)=pr w:=by
 funext hh
 unfold ixW
 have:ixO (.tl l) (.int i) hh=some w:=h
 rw[this];rfl
theorem j4 {l:List W}{i:Int}{w:W}(h:atI l i=some w):ixW (.tup l) (.int i)=pr w:=by
 funext hh
 unfold ixW
 have:ixO (.tup l) (.int i) hh=some w:=h
 rw[this];rfl
theorem fu {z:Str}{i:Int}{c:Nat}(hz:z.length<=sizeLine)(h:atI z.cps.toList i=some c):ixW (.str z) (.int i)=pr (.str ⟨#[c]⟩):=by
 funext hh
 unfold ixW
 have:ixO (.str z) (.int i) hh=some (.str ⟨#[c]⟩):=by
  show (if z.length<=sizeLine then (atI z.cps.toList i).map fun c=>W.str ⟨#[c]⟩ else none)=_
  rw[if_pos hz,h];rfl
 rw[this];rfl
theorem gj {z:Str}{lo hi:Option Int}(hz:z.length<=sizeLine):slW (.str z) lo hi=pr (.str (StrLaws.sliceText z lo hi)):=ai hz
@[simp] theorem slW_tl (l:List W)(lo hi:Option Int):slW (.tl l) lo hi=pr (.tl (ID l lo hi)):=rfl
@[simp] theorem slW_cl (l:List W)(lo hi:Option Int):slW (.cl l) lo hi=pr (.tl (ID l lo hi)):=rfl
@[simp] theorem lenW_tl (l:List W):Km [.tl l]=pr (.int l.length):=rfl
@[simp] theorem lenW_tup (l:List W):Km [.tup l]=pr (.int l.length):=rfl
theorem pP {z:Str}(hz:z.length<=sizeLine):Km [.str z]=pr (.int z.length):=ai hz
theorem wX {n:Nat}{f:List W->M W}{ws:List W}(h:ws.length=n):arW n f ws=f ws:=if_pos h
theorem o5 {i:Int}(h:i.natAbs.log2<1920):MO [.int i]=pr (.str (toString i)):=ai h
theorem kT {α:Type}(f:α->W)(l:List α)(d:α){i:Int}(h0:0<=i)(h:i<l.length):atI (l.map f) i=some (f (l.getD i.toNat d)):=by
 have hi:i.toNat<l.length:=by omega
 have e:atI (l.map f) ((i.toNat:Nat):Int)=some (f (l.getD i.toNat d)):=jd (by rw[DA,DR hi,EY,DR hi];rfl)
 have e2:((i.toNat:Nat):Int)=i:=by omega
 rw[e2] at e;exact e
theorem aE {α:Type}{xs:List α}{i:Int}{v:α}(h0:0<=i)(h:xs[i.toNat]?=some v):atI xs i=some v:=by
 have q:=jd h
 have e:((i.toNat:Nat):Int)=i:=by omega
 rw[e] at q;exact q
def IV:Fl->M W:=fun x=>match x with
 |.rt w=>pr w
 |.nx _=>pr .non
 |_=>no
theorem Jf {α:Type}(m:M α):gd (0<=sizeLine) m=m:=ai (by decide)
theorem Jg {α:Type}(m:M α):gd (0+1<=sizeLine) m=m:=ai (by decide)
theorem Jr {α:Type}(m:M α):gd (0+1+1<=sizeLine) m=m:=ai (by decide)
theorem Jx {α:Type}(m:M α):gd (0+1+1+1<=sizeLine) m=m:=ai (by decide)
theorem Jy {α:Type}(m:M α):gd (0+1+1+1+1<=sizeLine) m=m:=ai (by decide)
theorem Jz {α:Type}(m:M α):gd (0+1+1+1+1+1<=sizeLine) m=m:=ai (by decide)
theorem JB {α:Type}(m:M α):gd (0+1+1+1+1+1+1<=sizeLine) m=m:=ai (by decide)
theorem JC {α:Type}(m:M α):gd (0+1+1+1+1+1+1+1<=sizeLine) m=m:=ai (by decide)
theorem JD {α:Type}(m:M α):gd (0+1+1+1+1+1+1+1+1<=sizeLine) m=m:=ai (by decide)
theorem JG {α:Type}(m:M α):gd (0+1+1+1+1+1+1+1+1+1<=sizeLine) m=m:=ai (by decide)
theorem Jh {α:Type}(m:M α):gd (0+1+1+1+1+1+1+1+1+1+1<=sizeLine) m=m:=ai (by decide)
theorem Ji {α:Type}(m:M α):gd (0+1+1+1+1+1+1+1+1+1+1+1<=sizeLine) m=m:=ai (by decide)
theorem Jj {α:Type}(m:M α):gd (0+1+1+1+1+1+1+1+1+1+1+1+1<=sizeLine) m=m:=ai (by decide)
theorem Jk {α:Type}(m:M α):gd (0+1+1+1+1+1+1+1+1+1+1+1+1+1<=sizeLine) m=m:=ai (by decide)
theorem Jl {α:Type}(m:M α):gd (0+1+1+1+1+1+1+1+1+1+1+1+1+1+1<=sizeLine) m=m:=ai (by decide)
theorem Jm {α:Type}(m:M α):gd (0+1+1+1+1+1+1+1+1+1+1+1+1+1+1+1<=sizeLine) m=m:=ai (by decide)
theorem Jn {α:Type}(m:M α):gd (0+1+1+1+1+1+1+1+1+1+1+1+1+1+1+1+1<=sizeLine) m=m:=ai (by decide)
theorem Jo {α:Type}(m:M α):gd (0+1+1+1+1+1+1+1+1+1+1+1+1+1+1+1+1+1<=sizeLine) m=m:=ai (by decide)
theorem Jp {α:Type}(m:M α):gd (0+1+1+1+1+1+1+1+1+1+1+1+1+1+1+1+1+1+1<=sizeLine) m=m:=ai (by decide)
theorem Jq {α:Type}(m:M α):gd (0+1+1+1+1+1+1+1+1+1+1+1+1+1+1+1+1+1+1+1<=sizeLine) m=m:=ai (by decide)
theorem Js {α:Type}(m:M α):gd (0+1+1+1+1+1+1+1+1+1+1+1+1+1+1+1+1+1+1+1+1<=sizeLine) m=m:=ai (by decide)
theorem Jt {α:Type}(m:M α):gd (0+1+1+1+1+1+1+1+1+1+1+1+1+1+1+1+1+1+1+1+1+1<=sizeLine) m=m:=ai (by decide)
theorem Ju {α:Type}(m:M α):gd (0+1+1+1+1+1+1+1+1+1+1+1+1+1+1+1+1+1+1+1+1+1+1<=sizeLine) m=m:=ai (by decide)
theorem Jv {α:Type}(m:M α):gd (0+1+1+1+1+1+1+1+1+1+1+1+1+1+1+1+1+1+1+1+1+1+1+1<=sizeLine) m=m:=ai (by decide)
theorem Jw {α:Type}(m:M α):gd (0+1+1+1+1+1+1+1+1+1+1+1+1+1+1+1+1+1+1+1+1+1+1+1+1<=sizeLine) m=m:=ai (by decide)
theorem cj {α:Type}{m:M α}{inst:Decidable (true=true)}: @gd α (true=true) inst m=m:= @ai α (true=true) inst m rfl
theorem ar {src:HU->M Sr}{t:W->HU->Option HU}{f:HU->M Bool}{e:HU->M W}{n:Nat}{ρ:HU}:Kv [] src t f e n ρ=bd (src ρ) fun s=>gd (s.l.length<=sizeLine) (IB s.G t f e n s.l ρ):=by unfold Kv;exact ai rfl
section
theorem lC {t:W->HU->Option HU}{f:HU->M Bool}{e:HU->M W}{n:Nat}{ρ:HU}{b:W->Bool}{v:W->W}: ∀ {l:List W},(∀w∈l,∃r,t w (List.replicate n none++ρ)=some r/\f r=pr (b w)/\(b w=true->e r=pr (v w)))->IB (fun _=>True) t f e n l ρ=pr ((l.filter b).map v)
 |[],_=>by unfold IB;rw[pX];rfl
 |w::l,h=>by
  obtain⟨r,h1,h2,h3⟩:=h w Dt
  have ih:=lC (l:=l) fun x hx=>h x (Dz _ hx)
  unfold IB
  rw[pX,h1]
  dsimp only
  rw[h2,bd_pr]
  by_cases hb:b w=true
  ·rw[if_pos hb,h3 hb,bd_pr,ih,bd_pr,Fk hb];rfl
  ·rw[if_neg hb,ih,Fm hb]
theorem kG {α:Type}{f:W->Option α}{g:α->W}(hf: ∀a,f (g a)=some a): ∀l:List α,Lm f (l.map g)=some l
 |[]=>rfl
 |a::l=>by
  show (match f (g a),Lm f (l.map g) with
   |some b,some r=>some (b::r)
   |_,_=>none)=_
  rw[hf,kG hf l]
theorem mH {β:Type}{α:Type}{f:W->Option β}{g:α->W}{k:α->β}(hf: ∀a,f (g a)=some (k a)): ∀l:List α,Lm f (l.map g)=some (l.map k)
 |[]=>rfl
 |a::l=>by
  show (match f (g a),Lm f (l.map g) with
   |some b,some r=>some (b::r)
   |_,_=>none)=_
  rw[hf,mH hf l];rfl
theorem fU {α:Type}{g:α->W}{k:α->V}(hf: ∀a,vOf (g a)=some (k a)): ∀l:List α,Ng (l.map g)=some (l.map k)
 |[]=>rfl
 |a::l=>by
  show (match vOf (g a),Ng (l.map g) with
   |some v,some vs=>some (v::vs)
   |_,_=>none)=_
  rw[hf,fU hf l];rfl
theorem iq {sep:Str}{ts:List Str}(h:(ts.map (·.length)).sum+ts.length * sep.length<=sizeLine):Kb (.str sep) [.tl (ts.map W.str)]=pr (.str (Str.join sep ts)):=by
 have e:Kb (.str sep) [.tl (ts.map W.str)]=(match Lm sOf (ts.map W.str) with
  |some (ts:List Str)=>gd ((ts.map (fun z:Str=>z.length)).sum+ts.length * sep.length<=sizeLine) (pr (W.str (Str.join sep ts)))
  |none=>no):=rfl
 rw[e,kG (f:=sOf) (g:=W.str) (fun a=>rfl)]
 exact ai h
theorem um {l m:List W}{ds es:List HD}{h:List Ob}(h1:Lm (IH h 49) l=some ds)(h2:Lm (IH h 49) m=some es)(c1:HD.canLayAll0 ds=true)(c2:HD.canLayAll0 es=true):eqB (.tl l) (.tl m) h=some (HD.eqvAll ds es):=by
 show (match (Lm (IH h 49) l).map HD.list,(Lm (IH h 49) m).map HD.list with
  |some d,some e=>if d.canLay0=true/\e.canLay0=true then some (HD.eqv d e) else none
  |_,_=>none)=_
 rw[h1,h2]
 show (if (HD.list ds).canLay0=true/\(HD.list es).canLay0=true then some (HD.eqv (.list ds) (.list es)) else none)=_
 rw[if_pos ⟨by rw[HD.canLay0];exact c1,by rw[HD.canLay0];exact c2⟩,HD.eqv]
theorem Bn {x y:W}{b:Bool}(h:∀h,eqB x y h=some b):eqW x y=pr (.bl b):=by funext hh;unfold eqW;rw[h];rfl
theorem wL {α:Type}{k:α->HD}: ∀ (l:List α),(∀a∈l,(k a).canLay0=true)->HD.canLayAll0 (l.map k)=true
 |[],_=>by rw[Dm,HD.canLayAll0]
 |a::l,h=>by rw[Dj,HD.canLayAll0,h a Dt,wL l fun b hb=>h b (Dz _ hb)];rfl
theorem aO (a b:Str):(a++b).cps.toList=a.cps.toList++b.cps.toList:=by
 show (a.cps++b.cps).toList=_
 rw[Gg]
theorem kM {x:Str}{ss:List Str}:cM (.str x) (.tl (ss.map W.str))=pr (.bl (!decide (x∈ss))):=by
 funext h
 unfold cM
 have e:inB (.str x) (.tl (ss.map W.str)) h=some (decide (x∈ss)):=by
  show (match vOf (.str x),Ng (ss.map W.str) with
   |some v,some vs=>some (inV v vs)
   |_,_=>none)=_
  rw[fU (k:=V.str) (fun a=>rfl)]
  show some (inV (.str x) (ss.map V.str))=_
  congr 1
  unfold inV
  rw[Ep,FS,decide_eq_true_eq]
  constructor
  ·rintro⟨v,hv,q⟩
   obtain⟨y,hy,rfl⟩:=DV.mp hv
   have:y=x:=by simpa [eqV] using q
   subst this;exact hy
  ·intro q
   exact⟨.str x,DV.mpr ⟨x,q,rfl⟩,by simp [eqV]⟩
 rw[e];rfl
end
end L2
namespace L2
open PySem PySem.Spec PyProof.Rows
section
variable {X:Cx}{E:XK}{p pos:G1}
variable {o e:Expr}{apos cpos:G1}{fo:HU->M W}{l:HU->M (List W)}
end
end L2
namespace L2
open PySem
theorem aZ {α β:Type}(a:α)(g:α->M β):bd (pr a) g=g a:=funext fun h=>cQ (f:=pr a) (a:=a) (h:=h) (h':=h) rfl
def Ok {α:Type}(m:M α)(h:List Ob)(Q:α->List Ob->Prop):Prop:= ∃a h',m h=.ok a h'/\Q a h'
section
variable {α β:Type}{m:M α}{k:α->M β}{h h':List Ob}{a:α}
theorem Ok.imp {P Q:α->List Ob->Prop}(p:Ok m h P)(q:∀a h',P a h'->Q a h'):Ok m h Q:=let ⟨a,h',e,r⟩:=p;⟨a,h',e,q a h' r⟩
theorem bP {P:α->List Ob->Prop}{Q:β->List Ob->Prop}(p:Ok m h P)(q:∀a h',P a h'->Ok (k a) h' Q):Ok (bd m k) h Q:=by
 obtain⟨a,h',e,r⟩:=p
 obtain⟨b,h2,e2,r2⟩:=q a h' r
 exact⟨b,h2,(cQ e).trans e2,r2⟩
theorem cF {Q:β->List Ob->Prop}(e:m h=.ok a h')(q:Ok (k a) h' Q):Ok (bd m k) h Q:=by
 obtain⟨b,h2,e2,r2⟩:=q
 exact⟨b,h2,(cQ e).trans e2,r2⟩
theorem ao {Q:α->List Ob->Prop}(q:Q a h):Ok (pr a) h Q:=⟨a,h,rfl,q⟩
end
section
variable {β:Type}{h:List Ob}{Q:β->List Ob->Prop}{j:Nat}{l:List W}
theorem iG {i:Int}{w:W}{k:W->M β}(e:h[j]?=some (.lst l))(e2:atI l i=some w)(q:Ok (k w) h Q):Ok (bd (ixW (.loc j) (.int i)) k) h Q:=by
 refine cF (a:=w) (h':=h) ?_ q
 have d:II (.loc j) h=none:=by unfold II;simp only[e]
 have lo:Kr (.loc j) h=.ok l h:=by unfold Kr;simp only[e]
 have:ixO (.loc j) (.int i) h=some w:=by
  unfold ixO
  simp only[d,lo,e2]
 unfold ixW
 rw[this]
theorem y8 {n:Int}{i:Nat}{v:W}{k:Unit->M β}(e:h[j]?=some (.lst l))(e2:ixN l.length n=some i)(q:Ok (k ()) (h.set j (.lst (l.set i v))) Q):Ok (bd (km (.loc j) (.int n) v) k) h Q:=by
 refine cF (a:=()) (h':=h.set j (.lst (l.set i v))) ?_ q
 unfold km
 simp only[e,e2]
theorem dB {w:W}{k:W->M β}(e:h[j]?=some (.lst l))(z:l.length<sizeLine)(q:Ok (k .non) (h.set j (.lst (l++[w]))) Q):Ok (bd (aR (.loc j) [w]) k) h Q:=by
 refine cF (a:=.non) (h':=h.set j (.lst (l++[w]))) ?_ q
 unfold aR
 simp only[e,if_pos z]
theorem dz {k:W->M β}(e:h[j]?=some (.lst l))(q:Ok (k (.loc j)) h Q):Ok (bd (isL (.loc j)) k) h Q:=by
 refine cF (a:=.loc j) (h':=h) ?_ q
 unfold isL
 simp only[e]
theorem cE {k:W->M β}(q:Ok (k (.loc h.length)) (h++[.lst l]) Q):Ok (bd (KY l) k) h Q:=cF (a:=.loc h.length) (h':=h++[.lst l]) rfl q
theorem oa {k:W->M β}(e:h[j]?=some (.lst l))(q:Ok (k (.tl l)) (h.set j .gone) Q):Ok (bd (JK (.loc j)) k) h Q:=by
 refine cF (a:=.tl l) (h':=h.set j .gone) ?_ q
 unfold JK
 simp only[e]
theorem Aw {k:Sr->M β}(e:h[j]?=some (.lst l))(q:Ok (k ⟨l,fun h=>h[j]?=some (.lst l)⟩) h Q):Ok (bd (MF (.loc j)) k) h Q:=by
 refine cF (a:=⟨l,fun h=>h[j]?=some (.lst l)⟩) (h':=h) ?_ q
 unfold MF
 simp only[e]
noncomputable def Lw (h:List Ob)(x:W)(l:List W):Prop:=x=.tl l\/ ∃j,x=.loc j/\h[j]?=some (.lst l)
theorem Lw.of {x:W}(p:Lw h x l):Kr x h=.ok l h:=by
 rcases p with rfl|⟨j,rfl,e⟩
 ·rfl
 ·unfold Kr;simp only[e]
theorem Lw.len {x:W}{k:W->M β}(p:Lw h x l)(q:Ok (k (.int l.length)) h Q):Ok (bd (Km [x]) k) h Q:=by
 refine cF (a:=.int l.length) (h':=h) ?_ q
 have e:=p.of
 rcases p with rfl|⟨j,rfl,_⟩
 ·rfl
 ·show bd (Kr (.loc j)) (fun l=>pr (W.int l.length)) h=_
  rw[cQ e];rfl
end
theorem i4 {x:Str}{ss:List Str}:inV (.str x) (ss.map V.str)=decide (x∈ss):=by
 unfold inV
 rw[Ep,FS,decide_eq_true_eq]
 constructor
 ·rintro⟨v,hv,q⟩
  obtain⟨y,hy,rfl⟩:=DV.mp hv
  have:y=x:=by simpa [eqV] using q
  subst this;exact hy
 ·intro q
  exact⟨.str x,DV.mpr ⟨x,q,rfl⟩,by simp [eqV]⟩
theorem j5 {x:Str}{ss:List Str}:inW (.str x) (.tl (ss.map W.str))=pr (.bl (decide (x∈ss))):=by
 funext h
 unfold inW
 have e:inB (.str x) (.tl (ss.map W.str)) h=some (decide (x∈ss)):=by
  show (match vOf (.str x),Ng (ss.map W.str) with
   |some v,some vs=>some (inV v vs)
   |_,_=>none)=_
  rw[fU (k:=V.str) (fun a=>rfl)]
  show some (inV (.str x) (ss.map V.str))=_
  rw[i4]
 rw[e];rfl
theorem y9 {β:Type}{h:List Ob}{Q:β->List Ob->Prop}{j:Nat}{x:Str}{ss:List Str}{k:W->M β}(e:h[j]?=some (.lst (ss.map W.str)))(q:Ok (k (.bl (decide (x∈ss)))) h Q):Ok (bd (inW (.str x) (.loc j)) k) h Q:=by
 refine cF (a:=.bl (decide (x∈ss))) (h':=h) ?_ q
 unfold inW
 have d:II (.loc j) h=none:=by unfold II;simp only[e]
 have lo:Kr (.loc j) h=.ok (ss.map W.str) h:=by unfold Kr;simp only[e]
 have e:inB (.str x) (.loc j) h=some (decide (x∈ss)):=by
  unfold inB
  simp only[d,lo,fU (g:=W.str) (k:=V.str) (fun a=>rfl) ss]
  show some (inV (.str x) (ss.map V.str))=_
  rw[i4]
 rw[e]
theorem fW {i:Int}(h0: -(2 ^ 62)<=i)(h1:i<2 ^ 62):LI [.int i]=pr ⟨JR 0 i.toNat,fun _=>True⟩:=ai ⟨h0,h1⟩
theorem wu {G:List Ob->Prop}{t:W->HU->Option HU}{g:HU->M Fl}(I:Nat->HU->List Ob->Prop)(l:List W)(hG: ∀i ρ h,I i ρ h->G h)
  (hs: ∀i w ρ h,l[i]?=some w->I i ρ h-> ∃r,t w ρ=some r/\Ok (g r) h fun x h'=> ∃r',x=.nx r'/\I (i+1) r' h'):
  ∀ (m:List W) (n:Nat) (ρ:HU) (h:List Ob),l.drop n=m->n<=l.length->I n ρ h->Ok (forM G t g m ρ) h fun x h'=> ∃r',x=.nx r'/\I l.length r' h'
 |[],n,ρ,h,e,hn,i=>by
  have:l.length<=n:=EH.mp e
  have hn:n=l.length:=by omega
  subst hn
  refine⟨.nx ρ,h,?_,ρ,rfl,i⟩
  unfold forM
  rw[cI (hG _ _ _ i)];rfl
 |w::m,n,ρ,h,e,hn,i=>by
  have hw:l[n]?=some w:=by
   have:=congrArg EI e
   rw[EJ,EK] at this
   exact this
  have hl:n<l.length:=(DK.mp hw).1
  have em:l.drop (n+1)=m:=by rw[<-EL,e];rfl
  obtain⟨r,e1,x,h',e2,r',rfl,i'⟩:=hs n w ρ h hw i
  obtain⟨y,h2,e3,q⟩:=wu I l hG hs m (n+1) r' h' em hl i'
  refine⟨y,h2,?_,q⟩
  unfold forM
  rw[cI (hG _ _ _ i),e1]
  dsimp only
  rw[cQ e2]
  exact e3
theorem kJ {β:Type}{G:List Ob->Prop}{t:W->HU->Option HU}{g:HU->M Fl}{l:List W}{ρ:HU}{h:List Ob}{k:Fl->M β}{Q:β->List Ob->Prop}(I:Nat->HU->List Ob->Prop)(h0:I 0 ρ h)(hG: ∀i ρ h,I i ρ h->G h)
  (hs: ∀i w ρ h,l[i]?=some w->I i ρ h-> ∃r,t w ρ=some r/\Ok (g r) h fun x h'=> ∃r',x=.nx r'/\I (i+1) r' h')(hd: ∀ρ h,I l.length ρ h->Ok (k (.nx ρ)) h Q):Ok (bd (forM G t g l ρ) k) h Q:=
 bP (wu I l hG hs l 0 ρ h rfl (DB _) h0) fun x h' ⟨r',e,i⟩=>by subst e;exact hd r' h' i
theorem sK {G:List Ob->Prop}{t:W->HU->Option HU}{f:HU->M Bool}{g:HU->M W}{c:Nat}{ρ:HU}(I:Nat->List W->List Ob->Prop)(l:List W)(hf: ∀r,f r=pr true)(hG: ∀i a h,I i a h->G h)
  (hs: ∀i w a h,l[i]?=some w->I i a h-> ∃r,t w (List.replicate c none++ρ)=some r/\Ok (g r) h fun v h'=>I (i+1) (a++[v]) h'):
  ∀ (m:List W) (n:Nat) (a:List W) (h:List Ob),l.drop n=m->n<=l.length->I n a h->Ok (IB G t f g c m ρ) h fun r h'=>I l.length (a++r) h'
 |[],n,a,h,e,hn,i=>by
  have:l.length<=n:=EH.mp e
  have hn:n=l.length:=by omega
  subst hn
  refine⟨[],h,?_,by show I l.length (a++[]) h;rw[DM];exact i⟩
  unfold IB
  rw[cI (hG _ _ _ i)];rfl
 |w::m,n,a,h,e,hn,i=>by
  have hw:l[n]?=some w:=by
   have:=congrArg EI e
   rw[EJ,EK] at this
   exact this
  have hl:n<l.length:=(DK.mp hw).1
  have em:l.drop (n+1)=m:=by rw[<-EL,e];rfl
  obtain⟨r,e1,v,h',e2,i'⟩:=hs n w a h hw i
  obtain⟨y,h2,e3,q⟩:=sK I l hf hG hs m (n+1) (a++[v]) h' em hl i'
  refine⟨v::y,h2,?_,by show I l.length (a++v::y) h2;have q:I l.length (a++[v]++y) h2:=q;rw[DL] at q;exact q⟩
  unfold IB
  rw[cI (hG _ _ _ i),e1]
  dsimp only
  rw[hf,bd_pr,if_pos rfl,cQ e2,cQ e3];rfl
theorem fm {β:Type}{G:List Ob->Prop}{t:W->HU->Option HU}{f:HU->M Bool}{g:HU->M W}{c:Nat}{ρ:HU}{l:List W}{h:List Ob}{k:List W->M β}{Q:β->List Ob->Prop}(I:Nat->List W->List Ob->Prop)(h0:I 0 [] h)(hf: ∀r,f r=pr true)(hG: ∀i a h,I i a h->G h)
  (hs: ∀i w a h,l[i]?=some w->I i a h-> ∃r,t w (List.replicate c none++ρ)=some r/\Ok (g r) h fun v h'=>I (i+1) (a++[v]) h')(hd: ∀a h,I l.length a h->Ok (k a) h Q):Ok (bd (IB G t f g c l ρ) k) h Q:=
 bP (sK I l hf hG hs l 0 [] h rfl (DB _) h0) fun r h' i=>hd r h' i
theorem gg (r:HU):KM r=pr true:=rfl
structure Fr (j:Nat)(h h':List Ob):Prop where
 len:h'.length=h.length
 eq: ∀i,i≠j->h'[i]?=h[i]?
theorem cn {j:Nat}{h:List Ob}{a b:Ob}(e:h[j]?=some a):(h.set j b)[j]?=some b:=by
 rw[Eo (DK.mp e).1]
theorem eJ {j:Nat}{h:List Ob}{a:Ob}(e:h[j]?=some a):j<h.length:=(DK.mp e).1
theorem oE {j:Nat}{h r:List Ob}{a:Ob}(e:h[j]?=some a):(h++r)[j]?=some a:=by
 rw[DS (eJ e)];exact e
theorem cH {h:List Ob}{a:Ob}:(h++[a])[h.length]?=some a:=by simp
theorem least {p:Nat->Prop}: ∀ {n:Nat},(∃r,r<n/\p r)-> ∃r,r<n/\p r/\ ∀j,j<r-> ¬p j
 |0,⟨_,h,_⟩=>absurd h (EZ _)
 |n+1,⟨r,h,q⟩=>by
  by_cases z: ∃r,r<n/\p r
  ·obtain⟨r,h1,h2,h3⟩:=least z
   exact⟨r,by omega,h2,h3⟩
  ·have:r=n:=by
    by_cases e:r<n
    ·exact absurd ⟨r,e,q⟩ z
    ·omega
   subst this
   exact⟨r,h,q,fun j hj hp=>z ⟨j,hj,hp⟩⟩
section
theorem wH (l:List W):IL [.tl l]=pr ⟨K3 0 l,fun _=>True⟩:=rfl
theorem ix0 (a:W)(l:List W):ixW (.tup (a::l)) (.int 0)=pr a:=j4 (aE (by decide) rfl)
theorem ix1 (a b:W)(l:List W):ixW (.tup (a::b::l)) (.int 1)=pr b:=j4 (aE (by decide) rfl)
theorem ix2 (a b c:W)(l:List W):ixW (.tup (a::b::c::l)) (.int 2)=pr c:=j4 (aE (by decide) rfl)
theorem ix3 (a b c d:W)(l:List W):ixW (.tup (a::b::c::d::l)) (.int 3)=pr d:=j4 (aE (by decide) rfl)
end
end L2
namespace L2
open PySem PySem.Spec PyProof.Rows
section
variable {X:Cx}{E:XK}{p pos:G1}
variable {o e:Expr}{apos cpos:G1}{fo:HU->M W}{l:HU->M (List W)}
theorem vX {x:Str}{a:GH}{zs:List Str}{pos:G1}(hm:X.mg x=some (.ref a))(hq: ∀H,SqT X.K H a (zs.map V.str))(hg:Gl X x:=by rfl)(hd:(x==("__debug__":Str))=false:=by decide):JE X E (.Name x pos) (mC (.tup (zs.map W.str))):=
 oq (v:=.ref a) hg hm rfl (fun o=>by
  unfold Rv
  refine⟨a,_,rfl,hq _,?_⟩
  induction zs with
  |nil=>exact Rvs.nil
  |cons z zs ih=>exact Rvs.cons (LP.mpr rfl) (fV zs)) hd
where
 fV {K:PySem.W.Frag}{o:Wo}: ∀zs:List Str,Rvs K o (zs.map W.str) (zs.map V.str)
  |[]=>Rvs.nil
  |z::zs=>Rvs.cons (LP.mpr rfl) (fV zs)
end
section
section
variable {X:Cx}{E:XK}{o e e2:Expr}{apos cpos:G1}{fo:HU->M W}{l:HU->M (List W)}
end
theorem sC {G:List Ob->Prop}{t:W->HU->Option HU}{g:HU->M Fl}(I:Nat->HU->List Ob->Prop)(J:W->List Ob->Prop)(l:List W)(hG: ∀i ρ h,I i ρ h->G h)
  (hs: ∀i w ρ h,l[i]?=some w->I i ρ h-> ∃r,t w ρ=some r/\Ok (g r) h fun x h'=>(∃r',x=.nx r'/\I (i+1) r' h')\/ ∃v,x=.rt v/\J v h'):
  ∀ (m:List W) (n:Nat) (ρ:HU) (h:List Ob),l.drop n=m->n<=l.length->I n ρ h->Ok (forM G t g m ρ) h fun x h'=>(∃r',x=.nx r'/\I l.length r' h')\/ ∃v,x=.rt v/\J v h'
 |[],n,ρ,h,e,hn,i=>by
  have:l.length<=n:=EH.mp e
  have hn:n=l.length:=by omega
  subst hn
  refine⟨.nx ρ,h,?_,.inl ⟨ρ,rfl,i⟩⟩
  unfold forM
  rw[cI (hG _ _ _ i)];rfl
 |w::m,n,ρ,h,e,hn,i=>by
  have hw:l[n]?=some w:=by
   have:=congrArg EI e
   rw[EJ,EK] at this
   exact this
  have hl:n<l.length:=(DK.mp hw).1
  have em:l.drop (n+1)=m:=by rw[<-EL,e];rfl
  obtain⟨r,e1,x,h',e2,⟨r',rfl,i'⟩|⟨v,rfl,j'⟩⟩:=hs n w ρ h hw i
  ·obtain⟨y,h2,e3,q⟩:=sC I J l hG hs m (n+1) r' h' em hl i'
   refine⟨y,h2,?_,q⟩
   unfold forM
   rw[cI (hG _ _ _ i),e1]
   dsimp only
   rw[cQ e2]
   exact e3
  ·refine⟨.rt v,h',?_,.inr ⟨v,rfl,j'⟩⟩
   unfold forM
   rw[cI (hG _ _ _ i),e1]
   dsimp only
   rw[cQ e2];rfl
theorem xS {β:Type}{G:List Ob->Prop}{t:W->HU->Option HU}{g:HU->M Fl}{l:List W}{ρ:HU}{h:List Ob}{k:Fl->M β}{Q:β->List Ob->Prop}(I:Nat->HU->List Ob->Prop)(J:W->List Ob->Prop)(h0:I 0 ρ h)(hG: ∀i ρ h,I i ρ h->G h)
  (hs: ∀i w ρ h,l[i]?=some w->I i ρ h-> ∃r,t w ρ=some r/\Ok (g r) h fun x h'=>(∃r',x=.nx r'/\I (i+1) r' h')\/ ∃v,x=.rt v/\J v h')(hd: ∀ρ h,I l.length ρ h->Ok (k (.nx ρ)) h Q)(hr: ∀v h,J v h->Ok (k (.rt v)) h Q):Ok (bd (forM G t g l ρ) k) h Q:=
 bP (sC I J l hG hs l 0 ρ h rfl (DB _) h0) fun x h' q=>by
  rcases q with⟨r',rfl,i⟩|⟨v,rfl,j⟩
  ·exact hd r' h' i
  ·exact hr v h' j
end
section
section
variable {X:Cx}{E:XK}{a b:Expr}{p p2 pos pos2:G1}
end
end
section
section
variable {X:Cx}{E:XK}
end
theorem lD {G:List Ob->Prop}{t:W->HU->Option HU}{f:HU->M Bool}{g:HU->M W}{c:Nat}{ρ:HU}(I:Nat->List W->List Ob->Prop)(l:List W)(hG: ∀i a h,I i a h->G h)
  (hs: ∀i w a h,l[i]?=some w->I i a h-> ∃r,t w (List.replicate c none++ρ)=some r/\Ok (f r) h fun b h'=>(b=false/\I (i+1) a h')\/(b=true/\Ok (g r) h' fun v h''=>I (i+1) (a++[v]) h'')):
  ∀ (m:List W) (n:Nat) (a:List W) (h:List Ob),l.drop n=m->n<=l.length->I n a h->Ok (IB G t f g c m ρ) h fun r h'=>I l.length (a++r) h'
 |[],n,a,h,e,hn,i=>by
  have:l.length<=n:=EH.mp e
  have hn:n=l.length:=by omega
  subst hn
  refine⟨[],h,?_,by show I l.length (a++[]) h;rw[DM];exact i⟩
  unfold IB
  rw[cI (hG _ _ _ i)];rfl
 |w::m,n,a,h,e,hn,i=>by
  have hw:l[n]?=some w:=by
   have:=congrArg EI e
   rw[EJ,EK] at this
   exact this
  have hl:n<l.length:=(DK.mp hw).1
  have em:l.drop (n+1)=m:=by rw[<-EL,e];rfl
  obtain⟨r,e1,b,h',e2,q⟩:=hs n w a h hw i
  rcases q with⟨rfl,i'⟩|⟨rfl,v,h'',e3,i'⟩
  ·obtain⟨y,h2,e3,q⟩:=lD I l hG hs m (n+1) a h' em hl i'
   refine⟨y,h2,?_,q⟩
   unfold IB
   rw[cI (hG _ _ _ i),e1]
   dsimp only
   rw[cQ e2,if_neg (by decide)];exact e3
  ·obtain⟨y,h2,e4,q⟩:=lD I l hG hs m (n+1) (a++[v]) h'' em hl i'
   refine⟨v::y,h2,?_,by show I l.length (a++v::y) h2;have q:I l.length (a++[v]++y) h2:=q;rw[DL] at q;exact q⟩
   unfold IB
   rw[cI (hG _ _ _ i),e1]
   dsimp only
   rw[cQ e2,if_pos rfl,cQ e3,cQ e4];rfl
theorem pB {β:Type}{G:List Ob->Prop}{t:W->HU->Option HU}{f:HU->M Bool}{g:HU->M W}{c:Nat}{ρ:HU}{l:List W}{h:List Ob}{k:List W->M β}{Q:β->List Ob->Prop}(I:Nat->List W->List Ob->Prop)(h0:I 0 [] h)(hG: ∀i a h,I i a h->G h)
  (hs: ∀i w a h,l[i]?=some w->I i a h-> ∃r,t w (List.replicate c none++ρ)=some r/\Ok (f r) h fun b h'=>(b=false/\I (i+1) a h')\/(b=true/\Ok (g r) h' fun v h''=>I (i+1) (a++[v]) h''))(hd: ∀a h,I l.length a h->Ok (k a) h Q):Ok (bd (IB G t f g c l ρ) k) h Q:=
 bP (lD I l hG hs l 0 [] h rfl (DB _) h0) fun r h' i=>hd r h' i
section
variable {β:Type}{h:List Ob}{Q:β->List Ob->Prop}{x:W}{l:List W}
theorem Lw.sl {k:W->M β}{lo hi:Option Int}(p:Lw h x l)(q:Ok (k (.tl (ID l lo hi))) h Q):Ok (bd (slW x lo hi) k) h Q:=by
 refine cF (a:=.tl (ID l lo hi)) (h':=h) ?_ q
 have e:=p.of
 rcases p with rfl|⟨j,rfl,_⟩
 ·rfl
 ·show bd (Kr (.loc j)) (fun l=>pr (W.tl (ID l lo hi))) h=_
  rw[cQ e];rfl
end
theorem Lw.len_eq {β:Type}{h:List Ob}{Q:β->List Ob->Prop}{x:W}{l:List W}{k:W->M β}{N:Int}(p:Lw h x l)(hN:N=(l.length:Int))(q:Ok (k (.int N)) h Q):Ok (bd (Km [x]) k) h Q:=by
 subst hN;exact p.len q
end
section
noncomputable def Ko:List Str->List W->Str->Option W
 |n::ns,w::ws,f=>if f=n then some w else Ko ns ws f
 |_,_,_=>none
noncomputable def LC:List Str->List W->Str->W->List Str×List W
 |n::ns,w::ws,f,y=>if n=f then (n::ns,y::ws) else (n::(LC ns ws f y).1,w::(LC ns ws f y).2)
 |_,_,f,y=>([f],[y])
section
variable {K:PySem.W.Frag}{o:Wo}
theorem pM {f:Str}{w:W}: ∀ {fs:List (Str×V)}{ns:List Str}{ws:List W},fs.map (·.1)=ns->Rvs K o ws (fs.map (·.2))->Ko ns ws f=some w-> ∃v,fs.lookup f=some v/\Rv K o w v
 |[],_,ws,e,_,h=>by subst e;cases ws<;>cases h
 |(g,x)::fs,_,[],e,r,h=>by subst e;cases h
 |(g,x)::fs,_,y::ws,e,r,h=>by
  subst e
  unfold Rvs at r
  obtain⟨v,t,e2,r1,r2⟩:=r
  cases e2
  have h:(if f=g then some y else Ko (fs.map (·.1)) ws f)=some w:=h
  by_cases z:f=g
  ·rw[if_pos z] at h
   cases h
   exact⟨x,by rw[Eg,z];simp,r1⟩
  ·rw[if_neg z] at h
   obtain⟨v,e3,r3⟩:=pM rfl r2 h
   refine⟨v,?_,r3⟩
   rw[Eg,show (f==g)=false by simpa using z]
   exact e3
theorem pN {f:Str}: ∀ {fs:List (Str×V)},f ∉ fs.map (·.1)->fs.lookup f=none
 |[],_=>rfl
 |(g,x)::fs,h=>by
  rw[Dj,Dp,not_or] at h
  rw[Eg,show (f==g)=false by simpa using h.1]
  exact pN h.2
theorem rX {f:Str}{y:W}{v:V}(hy:Rv K o y v): ∀ {fs:List (Str×V)}{ns:List Str}{ws:List W},fs.map (·.1)=ns->Rvs K o ws (fs.map (·.2))->(Lz f v fs).map (·.1)=(LC ns ws f y).1/\Rvs K o (LC ns ws f y).2 ((Lz f v fs).map (·.2))
 |[],_,[],e,r=>by subst e;exact⟨rfl,Rvs.cons hy Rvs.nil⟩
 |[],_,w::ws,e,r=>by unfold Rvs at r;obtain⟨_,_,e2,_⟩:=r;cases e2
 |(g,x)::fs,_,[],e,r=>by unfold Rvs at r;cases r
 |(g,x)::fs,_,w::ws,e,r=>by
  subst e
  unfold Rvs at r
  obtain⟨u,t,e2,r1,r2⟩:=r
  cases e2
  show (List.map (·.1) (if g=f then (g,v)::fs else (g,x)::Lz f v fs))=(if g=f then (g::fs.map (·.1),y::ws) else (g::(LC (fs.map (·.1)) ws f y).1,w::(LC (fs.map (·.1)) ws f y).2)).1/\Rvs K o (if g=f then (g::fs.map (·.1),y::ws) else (g::(LC (fs.map (·.1)) ws f y).1,w::(LC (fs.map (·.1)) ws f y).2)).2 ((if g=f then (g,v)::fs else (g,x)::Lz f v fs).map (·.2))
  by_cases z:g=f
  ·rw[if_pos z,if_pos z]
   exact⟨rfl,Rvs.cons hy r2⟩
  ·rw[if_neg z,if_neg z]
   obtain⟨a,b⟩:=rX hy (fs:=fs) rfl r2
   exact⟨by rw[Dj,a],Rvs.cons r1 b⟩
theorem Rel.putI (R:Rel K o){k:Nat}{b:Ob}{c:Str}{C dx:GH}{ns:List Str}{ws:List W}{fs:List (Str×V)}(hk:o.h[k]?=some b)(hb:b≠.gone)(hn:GA K GW c=some (some (.ref C)))(h1:fs.map (·.1)=ns)(hl:Rvs K o ws (fs.map (·.2))):Rel K (o.put k (.ins c ns ws) (.ins C dx fs)):=
 R.put hk hb ⟨C,dx,fs,hn,aC,h1,hl.mono R (Ex.put hk hb)⟩
end
section
variable {X:Cx}{E:XK}
def JN (c:Str)(x:W):M (Nat×List Str×List W):=match x with
 |.loc k=>fun h=>match h[k]? with
  |some (.ins c' ns ws)=>if c'=c then .ok (k,ns,ws) h else .bad
  |_=>.bad
 |_=>no
theorem oB {α β:Type}{r:Wo->α->β->Prop}{c:Str}{C:GH}{o:Wo}{x:W}{v:V}{k:Nat×List Str×List W->M α}{Q:β->Hp->Prop}(hn:GA X.K GW c=some (some (.ref C)))(R:Rel X.K o)(hr:Rv X.K o x v)(h:Ps (cg X E) r o (bd (JN c x) k o.h) Q):
  ∃ (j:Nat) (ns:List Str) (ws:List W) (dx:GH) (fs:List (Str×V)),x=.loc j/\j<o.h.length/\o.h[j]?=some (.ins c ns ws)/\v=.ref (o.mu j)/\o.H (o.mu j)=some (.ins C dx fs)/\fs.map (·.1)=ns/\Rvs X.K o ws (fs.map (·.2))/\Ps (cg X E) r o (k (j,ns,ws) o.h) Q:=by
 cases x with
 |loc j=>
  unfold Rv at hr
  obtain⟨hj,rfl⟩:=hr
  unfold JN bd at h
  cases e:o.h[j]? with
  |none=>simp only[e] at h;exact h.elim
  |some b=>
   cases b with
   |ins c' ns ws=>
    simp only[e] at h
    by_cases z:c'=c
    ·subst z
     rw[if_pos rfl] at h
     obtain⟨C',dx,fs,q1,q2,q3,q4⟩:=R.ob j _ e
     rw[hn] at q1
     cases q1
     exact⟨j,ns,ws,dx,fs,rfl,hj,e,rfl,q2,q3,q4,h⟩
    ·rw[if_neg z] at h;exact h.elim
   |_=>simp only[e] at h;exact h.elim
 |_=>exact h.elim
def IY (c f:Str)(x:W):M W:=bd (JN c x) fun t=>match Ko t.2.1 t.2.2 f with
 |some w=>pr w
 |none=>no
def LA (c f:Str)(x y:W):M Unit:=bd (JN c x) fun t=>fun h=>if t.2.1.length<1000 then .ok () (h.set t.1 (.ins c (LC t.2.1 t.2.2 f y).1 (LC t.2.1 t.2.2 f y).2)) else .bad
variable {c f:Str}{C:GH}{o:Expr}{fo:HU->M W}{pos pos':G1}
theorem A6 (hn:GA X.K GW c=some (some (.ref C)))(cl:Cls X.K C)(na:NoAttr X.K C f)(ho:JE X E o fo)(hb:Hk o f X.env (G0 o X.env)=G0 o X.env:=by rfl):JE X E (.Attribute o f pos) (m1 (IY c f) fo):=
 (fO ho.h hb).imp fun σ H Q h=>by
  obtain⟨w,ρ,rfl,R,S,h⟩:=h
  refine⟨w,ρ,rfl,R,S,Ps.bd h fun p x vx e1 R1 r1 h1=>?_⟩
  obtain⟨j,ns,ws,dx,fs,rfl,hj,e,rfl,q2,q3,q4,h1⟩:=oB hn R1 r1 h1
  cases l:Ko ns ws f with
  |none=>simp only[l] at h1;exact h1.elim
  |some y=>
   simp only[l] at h1
   obtain⟨v,lv,rv⟩:=pM q3 q4 l
   exact⟨_,C,dx,fs,v,rfl,q2,cl,na,lv,h1.pr R1 rv⟩
def LW (c f:Str)(fo fv:HU->M W):HU->M Fl:=fun ρ=>bd (fv ρ) fun y=>bd (fo ρ) fun x=>bd (LA c f x y) fun _=>pr (.nx ρ)
theorem xD {D:HS}{p:Wo}{x y:W}{vx vy:V}{ρ:HU}{σ:St}(hn:GA X.K GW c=some (some (.ref C)))(R:Rel X.K p)(S:Re X.K p ρ σ)(rx:Rv X.K p x vx)(ry:Rv X.K p y vy)(h:Ps (cg X E) (RFl X.K) p (bd (LA c f x y) (fun _=>pr (.nx ρ)) p.h) (DQ D)):
  ∃a dx fs,vx=.ref a/\p.H a=some (.ins C dx fs)/\fs.length<1000/\D.nx σ (upd p.H a (.ins C dx (Lz f vy fs))):=by
 unfold LA at h
 rw[aa] at h
 obtain⟨j,ns,ws,dx,fs,rfl,hj,e,rfl,q2,q3,q4,h⟩:=oB hn R rx h
 have ln:fs.length=ns.length:=by rw[<-q3,Dh]
 by_cases z:ns.length<1000
 ·have h:Ps (cg X E) (RFl X.K) p (.ok (.nx ρ) (p.h.set j (.ins c (LC ns ws f y).1 (LC ns ws f y).2))) (DQ D):=by
   have e2:(bd (fun h=>if ns.length<1000 then Rs.ok () (h.set j (.ins c (LC ns ws f y).1 (LC ns ws f y).2)) else .bad) (fun _=>pr (Fl.nx ρ)) p.h)=.ok (.nx ρ) (p.h.set j (.ins c (LC ns ws f y).1 (LC ns ws f y).2)):=by
    unfold bd
    simp only[if_pos z];rfl
   rw[<-e2];exact h
  obtain⟨a,b⟩:=rX ry q3 q4
  refine⟨p.mu j,dx,fs,rfl,q2,by omega,?_⟩
  exact Ps.at (p:=p.put j (.ins c (LC ns ws f y).1 (LC ns ws f y).2) (.ins C dx (Lz f vy fs))) (b:=FlV.nx σ) h rfl (Ex.put e (by simp)) (R.putI e (by simp) hn a b) ⟨σ,rfl,S.mono R (Ex.put e (by simp))⟩
 ·have e2:(bd (fun h=>if ns.length<1000 then Rs.ok () (h.set j (.ins c (LC ns ws f y).1 (LC ns ws f y).2)) else .bad) (fun _=>pr (Fl.nx ρ)) p.h)=.bad:=by
   unfold bd
   simp only[if_neg z]
  have h:Ps (cg X E) (RFl X.K) p (bd (fun h=>if ns.length<1000 then Rs.ok () (h.set j (.ins c (LC ns ws f y).1 (LC ns ws f y).2)) else .bad) (fun _=>pr (Fl.nx ρ)) p.h) (DQ D):=h
  rw[e2] at h
  exact h.elim
variable {value:Expr}{fv:HU->M W}{tpos:G1}
theorem AK (hn:GA X.K GW c=some (some (.ref C)))(cl:Cls X.K C)(na:NoAttr X.K C f)(ho:JE X E o fo)(hv:JE X E value fv)(hs:swapsWith value (some (.Attribute o f pos')) pos.line X.env=pure false:=by rfl):JS X E (.Assign [.Attribute o f pos'] value pos) (LW c f fo fv):=
 (qT ho.h hv.h hs).imp fun D σ H h=>by
  obtain⟨w,ρ,rfl,R,S,h⟩:=h
  refine⟨w,ρ,rfl,R,S,Ps.bd h fun p y vy e1 R1 r1 h1=>⟨p,ρ,rfl,R1,S.mono R e1,Ps.bd h1 fun q x vx e2 R2 r2 h2=>?_⟩⟩
  obtain⟨a,dx,fs,ex,q1,q2,q3⟩:=xD hn R2 ((S.mono R e1).mono R1 e2) r2 (r1.mono R1 e2) h2
  exact⟨a,C,dx,fs,ex,q1,cl,na,q2,q3⟩
def addI (x y:W):M W:=match x,y with
 |.int i,.int j=>pr (.int (i+j))
 |_,_=>no
def LS (c f:Str)(fo fv:HU->M W):HU->M Fl:=fun ρ=>bd (fo ρ) fun x=>bd (IY c f x) fun v=>bd (fv ρ) fun y=>bd (addI v y) fun z=>bd (LA c f x z) fun _=>pr (.nx ρ)
structure CGm (P:GE)(w:GF)(K:PySem.W.Frag)(mg:Str->Option GC)(base:GG)(k:Nat)(C:GH)(m:Str)(f:GH)(fd:Hn)(ps:List Str)(n:Nat)(fn:List W->M W):Prop where
 ok:FnOk P w K mg base CX0 k f fd ps (Mz K mg n fn)
 bi:Binds K fd ps []
 me:HZ K C m f
def isI (c m:Str)(x:W):M W:=bd (JN c x) fun t=>if m∈t.2.1 then no else pr x
def Ky (c m:Str)(n:Nat)(fn:List W->M W)(fo:HU->M W)(l:HU->M (List W)):HU->M W:=fun ρ=>bd (fo ρ) fun x=>bd (isI c m x) fun x=>bd (l ρ) fun ws=>arW n fn (x::ws)
theorem wa {α β:Type}{r:Wo->α->β->Prop}{m:Str}{p:Wo}{x:W}{v:V}{k:W->M α}{Q:β->Hp->Prop}(hn:GA X.K GW c=some (some (.ref C)))(R:Rel X.K p)(hr:Rv X.K p x v)(h:Ps (cg X E) r p (bd (isI c m x) k p.h) Q):
  ∃a dx fs,v=.ref a/\p.H a=some (.ins C dx fs)/\fs.lookup m=none/\Ps (cg X E) r p (k x p.h) Q:=by
 unfold isI at h
 rw[aa] at h
 obtain⟨j,ns,ws,dx,fs,rfl,hj,e,rfl,q2,q3,q4,h⟩:=oB hn R hr h
 by_cases z:m∈ns
 ·simp only[if_pos z] at h
  exact h.elim
 ·simp only[if_neg z,aZ] at h
  exact⟨_,dx,fs,rfl,q2,pN (by rw[q3];exact z),h⟩
end
section
variable {X:Cx}{c m:Str}{C fA:GH}{fd:Hn}{ps:List Str}{k n:Nat}{fn:List W->M W}{o e:Expr}{es:List Expr}{fo:HU->M W}{l:HU->M (List W)}{pos apos p:G1}
def Kx (c:Str)(n:Nat)(fn:List W->M W)(l:HU->M (List W)):HU->M W:=fun ρ=>bd (l ρ) fun ws=>fun h=>match arW n fn (.loc h.length::ws) (h++[.ins c [] []]) with
 |.ok .non h'=>.ok (.loc h.length) h'
 |_=>.bad
theorem Rv.addLocI {K:PySem.W.Frag}{o:Wo}{q:GH}{b:Ob}{u:HO}:Rv K (o.add q b u) (.loc o.h.length) (.ref q):=by
 unfold Rv
 refine⟨by show _<(o.h++[b]).length;simp,?_⟩
 show V.ref q=V.ref (if o.h.length=o.h.length then q else o.mu o.h.length)
 rw[if_pos rfl]
end
end
end L2
namespace PySem
open Sem (wp)
section
variable {prog:GE}{w:GF}{K:Type} [DecidableEq K] {knd:KeyKind prog w K}{A:GL}{R:Result->GJ->Prop}
end
end PySem
namespace L2
open PySem PySem.Spec PyProof.Rows
section
variable {X:Cx}
end
section
section
variable {K:PySem.W.Frag}{o:Wo}
end
section
variable {X:Cx}{E:XK}{a:Expr}{p pos:G1}{l:HU->M (List W)}
end
end
section
section
variable {X:Cx}{E:XK}{e:Expr}{f:HU->M W}{pos:G1}
def LR (i:Nat)(f:HU->M W):HU->M Fl:=fun ρ=>bd (KL i ρ) fun x=>bd (f ρ) fun y=>bd (addI x y) fun z=>pr (.nx (ρ.set i (some z)))
end
end
end L2
namespace L2
open PySem
section
variable {β:Type}{h:List Ob}{Q:β->List Ob->Prop}{j d:Nat}
theorem nZ {c:Str}{ns:List Str}{ws:List W}(e:h[d]?=some (.ins c ns ws)):JN c (.loc d) h=.ok (d,ns,ws) h:=by
 unfold JN
 simp only[e,if_true]
theorem dA {c f:Str}{ns:List Str}{ws:List W}{w:W}{k:W->M β}(e:h[d]?=some (.ins c ns ws))(e2:Ko ns ws f=some w)(q:Ok (k w) h Q):Ok (bd (IY c f (.loc d)) k) h Q:=by
 refine cF (a:=w) (h':=h) ?_ q
 unfold IY
 rw[cQ (nZ e)]
 simp only[e2]
 rfl
theorem vD {c f:Str}{ns ns':List Str}{ws ws':List W}{y:W}{k:Unit->M β}(e:h[d]?=some (.ins c ns ws))(z:ns.length<1000)(e2:LC ns ws f y=(ns',ws'))(q:Ok (k ()) (h.set d (.ins c ns' ws')) Q):Ok (bd (LA c f (.loc d) y) k) h Q:=by
 refine cF (a:=()) (h':=h.set d (.ins c ns' ws')) ?_ q
 unfold LA
 rw[cQ (nZ e)]
 simp only[if_pos z,e2]
theorem eV {c m:Str}{ns:List Str}{ws:List W}{k:W->M β}(e:h[d]?=some (.ins c ns ws))(z:m ∉ ns)(q:Ok (k (.loc d)) h Q):Ok (bd (isI c m (.loc d)) k) h Q:=by
 refine cF (a:=.loc d) (h':=h) ?_ q
 unfold isI
 rw[cQ (nZ e)]
 simp only[if_neg z]
 rfl
theorem xR {c:Str}{n:Nat}{fn:List W->M W}{ws:List W}{P:List Ob->Prop}{k:W->M β}(hn:ws.length+1=n)(p:Ok (fn (.loc h.length::ws)) (h++[.ins c [] []]) fun w h'=>w=.non/\P h')(q:∀h',P h'->Ok (k (.loc h.length)) h' Q):
  Ok (bd (fun h=>match arW n fn (.loc h.length::ws) (h++[.ins c [] []]) with
 |.ok .non h'=>.ok (.loc h.length) h'
 |_=>.bad) k) h Q:=by
 obtain⟨w,h',e,rfl,hp⟩:=p
 refine cF (a:=.loc h.length) (h':=h') ?_ (q h' hp)
 have:arW n fn (.loc h.length::ws)=fn (.loc h.length::ws):=wX hn
 simp only[this,e]
end
def ctS (g:HU->M Fl):Fl->M Fl:=fun x=>match x with
 |.nx r=>g r
 |x=>pr x
def ctI (f g:HU->M Fl)(ρ:HU):Bool->M Fl:=fun b=>if b=true then f ρ else g ρ
theorem aX (f g:HU->M Fl)(ρ:HU):L7 f g ρ=bd (f ρ) (ctS g):=by unfold L7;rfl
theorem bD (g:HU->M Fl)(r:HU):ctS g (.nx r)=g r:=by unfold ctS;rfl
theorem bC (g:HU->M Fl)(w:W):ctS g (.rt w)=pr (.rt w):=by unfold ctS;rfl
theorem bG (g:HU->M Fl)(r:HU):ctS g (.bk r)=pr (.bk r):=by unfold ctS;rfl
theorem bE (g:HU->M Fl)(r:HU):ctS g (.ct r)=pr (.ct r):=by unfold ctS;rfl
theorem bu (t:HU->M Bool)(f g:HU->M Fl)(ρ:HU):sIf t f g ρ=bd (t ρ) (ctI f g ρ):=by unfold sIf;rfl
theorem ck (f g:HU->M Fl)(ρ:HU):ctI f g ρ true=f ρ:=by unfold ctI;rw[if_pos rfl]
theorem cm (f g:HU->M Fl)(ρ:HU):ctI f g ρ false=g ρ:=by unfold ctI;rw[if_neg Ds]
end L2
namespace L2
open PySem PySem.Spec PyProof.Rows
section
variable {X:Cx}{E:XK}{o e f:Expr}{apos cpos:G1}{fo fe ff:HU->M W}
end
section
variable {X:Cx}{E:XK}{o e f:Expr}{es:List Expr}{pos apos cpos:G1}{l:HU->M (List W)}{fo fe ff:HU->M W}
end
section
open Sem (wp)
open Builtin
noncomputable def F0 (f:GC):Prop:=f=.none\/ ∃T:Nat,f=Hg T
section
variable {prog:GE}{w:GF}{A:GL}{E:GC->GJ->Prop}{s:GJ}
end
section
variable {X:Cx}
end
end
section
section
variable {X:Cx}{E:XK}{p pos:G1}
end
end
section
section
variable {X:Cx}{pins:List (GH×GK)}{σ:St}{H:Hp}{s:GJ}{a c:GH}{b:Bool}{k:PKy}{xs:List (PKy×GH×V)}{A:GL}{Ex:GC->GJ->Prop}
end
section
variable {X:Cx}{E:XK}{a b:Expr}{pos:G1}{fa fb fv:HU->M W}
end
end
section
section
variable {X:Cx}{E:XK}{e st:Expr}{te:TE}{ts:TO}{pos p2:G1}{fa:HU->M W}{fs:HU->M (Option Int)}
end
end
section
open Sem (wp)
section
variable {prog:GE}{w:GF}{A:GL}{E:GC->GJ->Prop}{s:GJ}
end
section
variable {X:Cx}{pins:List (GH×GK)}{σ:St}{H:Hp}{s:GJ}
end
section
variable {X:Cx}{a b:Expr}{p p2 pos pos2:G1}
end
end
section
section
variable {X:Cx}{E:XK}
open Classical in
open Classical in
variable {a:Expr}{p pos:G1}{l:HU->M (List W)}
end
end
section
section
variable {X:Cx}{E:XK}{a b:Expr}{p p2 pos pos2:G1}
end
end
section
open Sem (wp)
open AutoSeq1 (wpAny_loadPart')
section
variable {prog:GE}{w:GF}{A:GL}{E:GC->GJ->Prop}{s:GJ}
end
section
variable {prog:GE}{w:GF}{A:GL}{E:GC->GJ->Prop}{s:GJ}
end
section
variable {X:Cx}{E:XK}{a b:Expr}{p p2 pos pos2:G1}
end
end
section
section
variable {prog:GE}{w:GF}{A:GL}{E:GC->GJ->Prop}{s:GJ}
end
section
variable {X:Cx}{o:Expr}{p apos cpos pos:G1}
end
end
end L2
namespace L2
open PyProof.Rows
section
variable (n:Nat)(lt:Nat->Nat->Bool)
structure Mg where
 out:Array Nat
 ia:Nat
 ib:Nat
 ac:Nat
 bc:Nat
 g:Nat
section
variable (a b:Array Nat)
end
end
end L2
namespace L2
open PySem PySem.W PyProof.Rows
section
variable {M:Model}{A:GL}{E:GC->GJ->Prop}{s:GJ}{σ β:Type}{f:Nat->β->StateT σ Sem (ForInStep β)}{Q:β->σ->Prop}{st:σ}
end
section
variable {prog:GE}{w:GF}{A:GL}{E:GC->GJ->Prop}{s:GJ}{κ:SortKind}{it:Array Keyed}{n:Nat}{lt:Nat->Nat->Bool}
variable {p:Array Nat}{pe:Array (Nat×Nat×Nat)}{g:Nat}
end
section
section
variable {prog:GE}{w:GF}{A:GL}{E:GC->GJ->Prop}{s:GJ}{κ:SortKind}{it:Array Keyed}{n:Nat}{lt:Nat->Nat->Bool}
variable {p:Array Nat}{pe:Array (Nat×Nat×Nat)}{g:Nat}
noncomputable abbrev GS:=Option (Option Nat)×Nat×Nat
section
variable {f:Nat->GS->StateT SortSt Sem (ForInStep GS)}{st:SortSt}{left:Bool}{key base hint mx:Nat}{a:Array Nat}
end
end
end
section
section
variable {prog:GE}{w:GF}{A:GL}{E:GC->GJ->Prop}{s:GJ}{κ:SortKind}{it:Array Keyed}{n:Nat}{lt:Nat->Nat->Bool}
variable {p:Array Nat}{pe:Array (Nat×Nat×Nat)}{a b:Array Nat}
noncomputable abbrev M6:=Option (Array Keyed)×Array Keyed×Nat×Nat×Nat×Nat
noncomputable abbrev M7:=Option (Array Keyed)×Array Keyed×Nat×Nat×Nat×Nat×Nat
noncomputable abbrev M5:=Option (Array Keyed)×Array Keyed×Nat×Nat×Nat
noncomputable abbrev t6 (it:Array Keyed)(r:Option (Array Nat))(s:Mg):M6:=(r.map (·.map (kas_item it)),s.out.map (kas_item it),s.ia,s.ib,s.ac,s.bc)
noncomputable abbrev t7 (it:Array Keyed)(s:Mg):M7:=(none,s.out.map (kas_item it),s.ia,s.ib,s.g,s.ac,s.bc)
noncomputable abbrev t5 (it:Array Keyed)(r:Option (Array Nat))(s:Mg):M5:=(r.map (·.map (kas_item it)),s.out.map (kas_item it),s.ia,s.ib,s.g)
end
end
section
section
variable {prog:GE}{w:GF}{A:GL}{E:GC->GJ->Prop}{s:GJ}{κ:SortKind}{it:Array Keyed}{n:Nat}{lt:Nat->Nat->Bool}{p:Array Nat}
end
end
section
section
variable {prog:GE}{w:GF}{A:GL}{E:GC->GJ->Prop}{s:GJ}
end
end
section
section
variable {prog:GE}{w:GF}{A:GL}{E:GC->GJ->Prop}{s:GJ}
end
section
variable {X:Cx}{pins:List (GH×GK)}{σ:St}{H:Hp}{s:GJ}
end
end
section
section
variable {prog:GE}{w:GF}{A:GL}{E:GC->GJ->Prop}{s:GJ}
end
end
end L2
namespace L2
open PySem PySem.Spec PyProof.Rows
section
variable {X:Cx}{E:XK}{a:Expr}{p p2 pos kpos:G1}{fa:HU->M W}{l:HU->M (List W)}
end
section
open Sem (wp)
section
variable {prog:GE}{w:GF}{A:GL}{E:GC->GJ->Prop}{s:GJ}
end
section
variable {X:Cx}{pins:List (GH×GK)}{σ:St}{H:Hp}{s:GJ}
end
section
variable {X:Cx}{E:XK}{tg e a b:Expr}{pos p p2 pos2:G1}{fa fb fv:HU->M W}{l:HU->M (List W)}
end
end
section
section
variable {X:Cx}{E:XK}{tg e a b:Expr}{pos p p2 pos2:G1}{fa fb fv:HU->M W}{l:HU->M (List W)}
end
end
section
open Sem (wp)
section
variable {prog:GE}{w:GF}{A:GL}{E:GC->GJ->Prop}{s:GJ}
end
section
variable {X:Cx}{E:XK}{o e f:Expr}{pos apos cpos:G1}{fa fo fe ff:HU->M W}{elts:List Expr}{tpos:G1}
end
end
section
section
variable {X:Cx}{E:XK}
noncomputable def bX (x y:Str):List Str:=if (decide (x.length<y.length)||decide (GD.Str.strKind x<GD.Str.strKind y))=true then [x] else if (GD.Str.occurrences x y 0 x.length (x.length+1)).isEmpty=true then [x] else GD.Str.partsBetween x (GD.Str.occurrences x y 0 x.length (x.length+1)) y.length
def zR:V->List V->Hp->VK->Prop:=fun x vs H Q=> ∃ (a b:Str),x=.str a/\vs=[.str b]/\(b.length==0)=false/\a.length<=sizeLine/\(bX a b).length<=sizeLine/\ ∀q,H q=none->Q (.ref q) (upd H q (.lst ((bX a b).map V.str)))
theorem mr: ∀ (l:List Str) (t:Nat),Vals (l.map V.str) (strsFrom t l)
 |[],_=>.nil
 |x::l,t=>.cons ⟨_,rfl⟩ (mr l (t+1))
theorem jz {pins:List (GH×GK)}{σ:St}{H:Hp}{s:GJ}{Q:VK}{l:List Str}{us:List GC}{tk:Nat}(I:Inv X pins σ H s)(hv:Vals (l.map V.str) us)(hz:l.length<=sizeLine)(q:∀q,H q=none->Q (.ref q) (upd H q (.lst (l.map V.str)))):
  EP X pins σ Q (.ref s.heap.objs.size) {s with toks:=tk,heap:=s.heap.push {cls:=.type "list",data:=.seq us.toArray}}:=
 ⟨.ref s.heap.objs.size,_,I.laid (t':=tk) (fun b o e=>DF _ e) (Dl _) (show ObjOk X.prog X.w _ (s.heap.push {cls:=.type "list",data:=.seq us.toArray}) _ (.lst (l.map V.str)) from⟨by rw[Dh];exact hz,us,_,hv,D0 _ rfl⟩),rfl,q _ (I.hok.fresh (Dl _))⟩
theorem pE:MtR X "str.split" zR:=by
 intro pins s σ H x vs v us Q I rx rv h
 obtain⟨a,b,rfl,rfl,hb,ha,hz,q⟩:=h
 obtain⟨t,rfl⟩:=rx
 obtain⟨u,rfl,ru⟩:=rv.one
 obtain⟨t2,rfl⟩:=ru
 by_cases c1:(decide (a.length<b.length)||decide (GD.Str.strKind a<GD.Str.strKind b))=true
 ·have e:bX a b=[a]:=if_pos c1
  rw[e] at q
  refine Hz F.slot_str_split (Hw s a t) F.entry_str_split (F.args_str_split_2 _ _) (meets_str_split_cannot_occur a b t t2 c1) ?_
  exact jz (l:=[a]) (us:=[.str a t]) (tk:=s.toks) I (.cons ⟨t,rfl⟩ .nil) (by show 1<=sizeLine;decide) q
 ·have c1':(decide (a.length<b.length)||decide (GD.Str.strKind a<GD.Str.strKind b))=false:=by rw[<-Bool.not_eq_true];exact c1
  by_cases c2:(GD.Str.occurrences a b 0 a.length (a.length+1)).isEmpty=true
  ·have e:bX a b=[a]:=by unfold bX;rw[if_neg c1,if_pos c2]
   rw[e] at q
   refine Hz F.slot_str_split (Hw s a t) F.entry_str_split (F.args_str_split_2 _ _) (meets_str_split_not_found a b t t2 c1' hb c2) ?_
   exact jz (l:=[a]) (us:=[.str a t]) (tk:=s.toks) I (.cons ⟨t,rfl⟩ .nil) (by show 1<=sizeLine;decide) q
  ·have c2':(GD.Str.occurrences a b 0 a.length (a.length+1)).isEmpty=false:=by rw[<-Bool.not_eq_true];exact c2
   have e:bX a b=GD.Str.partsBetween a (GD.Str.occurrences a b 0 a.length (a.length+1)) b.length:=by unfold bX;rw[if_neg c1,if_neg c2]
   rw[e] at q hz
   refine Hz F.slot_str_split (Hw s a t) F.entry_str_split (F.args_str_split_2 _ _) (meets_str_split_sep a b t t2 c1' hb c2' ha hz) ?_
   exact jz (l:=GD.Str.partsBetween a (GD.Str.occurrences a b 0 a.length (a.length+1)) b.length) I (mr _ _) hz q
def ME (x:W)(ws:List W):M W:=match x,ws with
 |.str a,[.str b]=>gd ((b.length==0)=false/\a.length<=sizeLine/\(bX a b).length<=sizeLine) (pr (.tl ((bX a b).map W.str)))
 |_,_=>no
theorem fV {K:PySem.W.Frag}{o:Wo}: ∀ns:List Str,Rvs K o (ns.map W.str) (ns.map V.str)
 |[]=>Rvs.nil
 |n::r=>Rvs.cons (LP.mpr rfl) (fV r)
variable {o e:Expr}{apos cpos:G1}{fo:HU->M W}{l:HU->M (List W)}
theorem vU (ho:JE X E o fo)(ha:JA X E [e] l)(hbase:Hk o "split" X.env (G0 o X.env)=G0 o X.env:=by rfl)
  (hfew:((G3 cpos (G4 [e] X.env)).all (fun x=>!x.1) && (Hl cpos (Hm [] X.env)).all (fun x=>x.1.isSome) && decide (([e]:List Expr).length+([]:List Hr).length+(if ([]:List Hr).isEmpty then 0 else 1)<30))=true:=by rfl)
  (hline:(apos.endLine==cpos.line)=true:=by rfl)(hs:G4 [e] X.env=(false,G0 e X.env)::G4 [] X.env:=by rfl)(hplain:(G3 cpos (G4 [] X.env)).any (·.1)=false:=by rfl):
  JE X E (.Call (.Attribute o "split" apos) [e] [] cpos) (Kz isS ME fo l):=
 (py PySem.F.plainAttrs_str PySem.F.slot_str_split PySem.F.type_str_split pE ho.h ha.h hbase hfew hline hs hplain).imp fun σ H Q h=>by
  obtain⟨w,ρ,rfl,R,S,h⟩:=h
  refine⟨w,ρ,rfl,R,S,Ps.bd h fun p x vx e1 R1 r1 h1=>?_⟩
  cases x with
  |str a=>
   have h1:Ps (cg X E) (Rv X.K) p (bd (l ρ) (fun ws=>ME (.str a) ws) p.h) Q:=h1
   rw[LP.mp r1]
   refine⟨rfl,p,ρ,rfl,R1,S.mono R e1,Ps.bd h1 fun q ws vs e2 R2 r2 h2=>?_⟩
   rcases ws with _|⟨w',_|⟨_,_⟩⟩
   ·exact h2.elim
   ·obtain⟨v,rfl,r⟩:=r2.one
    cases w' with
    |str b=>
     have h2:Ps (cg X E) (Rv X.K) q (gd ((b.length==0)=false/\a.length<=sizeLine/\(bX a b).length<=sizeLine) (pr (.tl ((bX a b).map W.str))) q.h) Q:=h2
     obtain⟨hz,h2⟩:=h2.gd
     exact⟨a,b,rfl,by rw[LP.mp r],hz.1,hz.2.1,hz.2.2,fun q hq=>iS R2 hq (fV _) h2⟩
    |_=>exact h2.elim
   ·cases w'<;>exact h2.elim
  |_=>exact h1.elim
end
section
variable {X:Cx}{c m:Str}{C fA:GH}{fd:Hn}{ps:List Str}{k n:Nat}{fn:List W->M W}{o:Expr}{fo:HU->M W}{pos apos:G1}
end
end
section
section
variable {X:Cx}{E:XK}{o i e value:Expr}{p pos apos cpos tpos:G1}{fo fi fv:HU->M W}{l:HU->M (List W)}
def isLO (w:W):M W:=bd (Kp w) fun _=>pr w
end
end
section
section
variable {X:Cx}{E:XK}{o i e value:Expr}{p pos apos cpos tpos:G1}{fo fi fv:HU->M W}{l:HU->M (List W)}
def Mr (x:W)(ws:List W):M W:=match ws with
 |[.str k]=>bd (Kp x) fun l=>match Lm sOf l with
  |some (ss:List Str)=>match ss.findIdx? (fun m=>decide (m=k)) with
   |some j=>pr (.int (j:Int))
   |none=>no
  |none=>no
 |_=>no
theorem uL {k:Str}: ∀ {ss:List Str}{us:List GC},Vals (ss.map V.str) us->us.length=ss.length/\ ∀ (i:Nat) (u:GC),us[i]?=some u-> ∃m,ss[i]?=some m/\eqU (.str k) u=decide (m=k)
 |[],_,r=>by rw[Dm] at r;cases r;exact⟨rfl,fun i u h=>by cases h⟩
 |n::ss,_,r=>by
  rw[Dj] at r
  cases r with
  |cons h t=>
   obtain⟨a,b⟩:=uL (k:=k) t
   refine⟨congrArg (· +1) a,fun i u hu=>?_⟩
   cases i with
   |zero=>
    cases hu
    refine⟨n,rfl,?_⟩
    rw[rD h rfl]
    by_cases q:n=k
    ·subst q;simp [eqV]
    ·rw[decide_eq_false q];simp [eqV,q]
   |succ i=>exact b i u hu
def rSIdx:V->List V->Hp->VK->Prop:=fun x vs H Q=> ∃ (p:GH) (ss:List Str) (k:Str) (j:Nat),x=.ref p/\vs=[.str k]/\H p=some (.lst (ss.map V.str))/\ss.findIdx? (fun m=>decide (m=k))=some j/\Q (.int j) H
theorem ya:MtM X "list.index" rSIdx:=by
 intro pins s σ H x vs v us Q I rx rv h
 obtain⟨p,ss,k,j,rfl,rfl,hp,hj,q⟩:=h
 cases rx
 obtain⟨u,rfl,ru⟩:=rv.one
 obtain⟨t,rfl⟩:=ru
 obtain⟨its,n,r,ho,hz⟩:=I.lst hp
 obtain⟨len,gt⟩:=uL (k:=k) r
 rw[FU] at hj
 obtain⟨h1,h2,h3⟩:=hj
 have at': ∀ (i:Nat) (hi:i<its.length),eqU (.str k) its[i]=decide (ss[i]'(by omega)=k):=fun i hi=>by
  obtain⟨m,e1,e2⟩:=gt i its[i] (DR hi)
  rw[DR (by omega)] at e1
  cases e1
  exact e2
 have lz:=iM
 rw[Dh] at hz
 refine Hz F.slot_list_index ⟨_,ho,rfl⟩ F.entry_list_index (F.args_list_index_2 _ _) (SeqAt.list_indexAt p its.toArray n none #[] (.str k t) (eqU (.str k)) j (by rw[Du];omega) (by omega) ?_ fun m hm hlt=>?_) ⟨ho,fun y hy=>f9 (x:=.str k) (v:=.str k t) ⟨t,rfl⟩ rfl r ?_ y (by simpa using hy),.int j,H,I.tok _,⟨_,rfl⟩,q⟩
 ·rw[Gh,at' j (by omega)];exact h2
 ·rw[Gh,at' m (by rw[Du] at hm;exact hm)]
  have:=h3 m hlt
  simpa using this
 ·rw[FV];exact DC.mpr fun _ _=>rfl
theorem ym (ho:JE X E o fo)(ha:JA X E [e] l)(hbase:Hk o "index" X.env (G0 o X.env)=G0 o X.env:=by rfl)
  (hfew:((G3 cpos (G4 [e] X.env)).all (fun x=>!x.1) && (Hl cpos (Hm [] X.env)).all (fun x=>x.1.isSome) && decide (([e]:List Expr).length+([]:List Hr).length+(if ([]:List Hr).isEmpty then 0 else 1)<30))=true:=by rfl)
  (hline:(apos.endLine==cpos.line)=true:=by rfl)(hs:G4 [e] X.env=(false,G0 e X.env)::G4 [] X.env:=by rfl)(hplain:(G3 cpos (G4 [] X.env)).any (·.1)=false:=by rfl):
  JE X E (.Call (.Attribute o "index" apos) [e] [] cpos) (Kz isLO Mr fo l):=
 (py PySem.F.plainAttrs_list PySem.F.slot_list_index PySem.F.type_list_index ya ho.h ha.h hbase hfew hline hs hplain).imp fun σ H Q h=>by
  obtain⟨w,ρ,rfl,R,S,h⟩:=h
  refine⟨w,ρ,rfl,R,S,Ps.bd h fun p x vx e1 R1 r1 h1=>?_⟩
  have h1:Ps (cg X E) (Rv X.K) p (bd (bd (Kp x) fun _=>pr x) (fun x=>bd (l ρ) fun ws=>Mr x ws) p.h) Q:=h1
  rw[aa] at h1
  obtain⟨l0,a,vs0,rfl,s1,r3,h1⟩:=ft R1 r1 h1
  rw[aZ] at h1
  refine⟨.inl ⟨rfl,vs0,.of s1⟩,p,ρ,rfl,R1,S.mono R e1,Ps.bd h1 fun q ws vs e2 R2 r2 h2=>?_⟩
  unfold Mr at h2
  split at h2
  ·rename_i k
   obtain⟨v,rfl,r⟩:=r2.one
   obtain⟨l1,a1,vs1,ea,s2,r4,h2⟩:=ft R2 (r1.mono R1 e2) h2
   cases ea
   cases t1:Lm sOf l1 with
   |none=>simp only[t1] at h2;exact h2.elim
   |some ss=>
    simp only[t1] at h2
    have e3:vs1=ss.map V.str:=jX uR t1 r4
    subst e3
    cases hj:ss.findIdx? (fun m=>decide (m=k)) with
    |none=>simp only[hj] at h2;exact h2.elim
    |some j=>
     simp only[hj] at h2
     exact⟨a,ss,k,j,rfl,by rw[LP.mp r],s2,hj,h2.pr R2 (LN.mpr rfl)⟩
  ·exact h2.elim
end
end
end L2
namespace L2
open PySem
theorem qx {c:Nat}: ∀ {a b u v:List Nat},c ∉ a->c ∉ b->a++c::u=b++c::v->a=b/\u=v
 |[],[],u,v,_,_,e=>⟨rfl,(List.cons.inj e).2⟩
 |[],y::b,u,v,_,h,e=>absurd (List.cons.inj e).1 (fun z=>h (z▸Dt))
 |x::a,[],u,v,h,_,e=>absurd (List.cons.inj e).1 (fun z=>h (z▸Dt))
 |x::a,y::b,u,v,h1,h2,e=>by
  obtain⟨e1,e2⟩:=List.cons.inj e
  obtain⟨q1,q2⟩:=qx (fun z=>h1 (Dz _ z)) (fun z=>h2 (Dz _ z)) e2
  exact⟨by rw[e1,q1],q2⟩
theorem dS {a b:Str}(h:a.cps.toList=b.cps.toList):a=b:=by
 cases a;cases b
 congr 1
 exact Array.toList_inj.mp h
theorem b9 (c:Nat)(x y:Str)(r:List Str):(Str.join ⟨#[c]⟩ (x::y::r)).cps.toList=x.cps.toList++c::(Str.join ⟨#[c]⟩ (y::r)).cps.toList:=by
 show ((x++(⟨#[c]⟩:Str))++Str.join ⟨#[c]⟩ (y::r)).cps.toList=_
 rw[aO,aO,DL]
 rfl
theorem pT {c:Nat}: ∀ {ps qs:List Str},ps≠ []->qs≠ []->(∀p∈ps,c ∉ p.cps.toList)->(∀p∈qs,c ∉ p.cps.toList)->Str.join ⟨#[c]⟩ ps=Str.join ⟨#[c]⟩ qs->ps=qs
 |[],_,h,_,_,_,_=>absurd rfl h
 |_::_,[],_,h,_,_,_=>absurd rfl h
 |[x],[y],_,_,_,_,e=>by rw[show x=y from e]
 |[x],y::z::r,_,_,f,_,e=>by
  have e:=congrArg (fun s:Str=>s.cps.toList) e
  rw[b9] at e
  refine absurd ?_ (f x Dt)
  have e:x.cps.toList=_:=e
  rw[e]
  exact DW _ Dt
 |x::w::s,[y],_,_,_,f,e=>by
  have e:=congrArg (fun s:Str=>s.cps.toList) e
  rw[b9] at e
  refine absurd ?_ (f y Dt)
  have e:_=y.cps.toList:=e
  rw[<-e]
  exact DW _ Dt
 |x::w::s,y::z::r,_,_,f,g,e=>by
  have e:=congrArg (fun s:Str=>s.cps.toList) e
  rw[b9,b9] at e
  obtain⟨e1,e2⟩:=qx (f x Dt) (g y Dt) e
  have e3:=pT (ps:=w::s) (qs:=z::r) (by simp) (by simp) (fun p hp=>f p (Dz _ hp)) (fun p hp=>g p (Dz _ hp)) (dS e2)
  rw[dS e1,e3]
theorem ko {c:Nat}{ps:List Str}(h:ps≠ [])(f:∀p∈ps,c ∉ p.cps.toList):bX (Str.join ⟨#[c]⟩ ps) ⟨#[c]⟩=ps:=by
 have e:bX (Str.join ⟨#[c]⟩ ps) ⟨#[c]⟩=Txt.split (Str.join ⟨#[c]⟩ ps) ⟨#[c]⟩:=rfl
 rw[e]
 refine pT (c:=c) (fun z=>?_) h (StrLaws.split_free _ _) f (StrLaws.join_split _ _)
 have:=PyProof.Rows.split_pos (Str.join ⟨#[c]⟩ ps) ⟨#[c]⟩
 rw[z] at this
 exact absurd this (by simp)
theorem kq {c:Nat}{ps:List Str}(h:ps≠ [])(f:∀p∈ps,c ∉ p.cps.toList)(z:(Str.join ⟨#[c]⟩ ps).length<=sizeLine)(z2:ps.length<=sizeLine):ME (.str (Str.join ⟨#[c]⟩ ps)) [.str ⟨#[c]⟩]=pr (.tl (ps.map W.str)):=by
 show gd _ _=_
 rw[ko h f,ai ⟨rfl,z,z2⟩]
end L2
namespace HT
open PySem PySem.Spec PyProof.Rows
section
variable {prog:GE}{w:GF}{A:GL}{E:GC->GJ->Prop}{s:GJ}
end
end HT
namespace L2
open PySem PySem.Spec PyProof.Rows
section
variable {X:Cx}{E:XK}
end
section
noncomputable def Ls {α:Type}(l:List α)(a b:Option Int)(k:Int):List α:=(sliceRange (Hy a b (some k) l.length).1 (Hy a b (some k) l.length).2.1 (Hy a b (some k) l.length).2.2).filterMap (l[·]?)
theorem xF (its:List GC)(a b:Option Int)(k:Int):slicePick its.toArray a b (some k)=(Ls its a b k).toArray:=by
 unfold slicePick Ls
 rw[Du]
 congr 1
 exact congrArg (fun f=>List.filterMap f _) (funext fun i=>Gb)
theorem nv {xs:List V}{us:List GC}(r:Vals xs us): ∀is:List Nat,Vals (is.filterMap (xs[·]?)) (is.filterMap (us[·]?))
 |[]=>.nil
 |i::is=>by
  rw[Ef,Ef]
  cases e:xs[i]? with
  |none=>rw[r.none_of e];exact nv r is
  |some x=>obtain⟨u,e2,q⟩:=r.get e;rw[e2];exact .cons q (nv r is)
theorem qP {K:PySem.W.Frag}{o:Wo}{l:List W}{vs:List V}(r:Rvs K o l vs): ∀is:List Nat,Rvs K o (is.filterMap (l[·]?)) (is.filterMap (vs[·]?))
 |[]=>Rvs.nil
 |i::is=>by
  rw[Ef,Ef]
  cases e:l[i]? with
  |none=>
   have:=r.len
   rw[show vs[i]?=none from List.getElem?_eq_none (by rw[this];exact Fz.mp e)];exact qP r is
  |some x=>obtain⟨u,e2,q⟩:=r.get e;rw[e2];exact Rvs.cons q (qP r is)
theorem tE {xs:List V}{us:List GC}(r:Vals xs us)(a b:Option Int)(k:Int):Vals (Ls xs a b k) (Ls us a b k):=by
 unfold Ls
 rw[r.length]
 exact nv r _
theorem u2 {K:PySem.W.Frag}{o:Wo}{l:List W}{vs:List V}(r:Rvs K o l vs)(a b:Option Int)(k:Int):Rvs K o (Ls l a b k) (Ls vs a b k):=by
 unfold Ls
 rw[r.len]
 exact qP r _
theorem u3 {α β:Type}(f:α->β)(l:List α)(a b:Option Int)(k:Int):Ls (l.map f) a b k=(Ls l a b k).map f:=by
 unfold Ls
 rw[Dh,List.map_filterMap]
 congr 1
 funext i
 exact DA ..
theorem u4 {α:Type}(l:List α)(a b:Option Int)(k:Int)(hk:1<=k)(hn:l.length<=sizeLine):(Ls l a b k).length<=sizeLine:=by
 unfold Ls
 refine Dy (F9 _ _) (Dy ?_ hn)
 unfold sliceRange
 rw[Dh,List.length_range]
 have h2:(Hy a b (some k) l.length).2.2=k:=rfl
 have h0:0<=(Hy a b (some k) l.length).1:=by
  unfold Hy
  dsimp only[FP]
  rw[if_pos (by omega)]
  cases a with
  |none=>exact Int.le_refl _
  |some i=>dsimp only;rw[if_pos (by omega)];omega
 have h1:(Hy a b (some k) l.length).2.1<=l.length:=by
  unfold Hy
  dsimp only[FP]
  rw[if_pos (show k>0 by omega)]
  cases b with
  |none=>exact Int.le_refl _
  |some i=>dsimp only;rw[if_pos (show k>0 by omega)];omega
 generalize (Hy a b (some k) l.length).1=s at *
 generalize (Hy a b (some k) l.length).2.1=e at *
 rw[h2,if_pos (show k>0 by omega)]
 by_cases z:s<e
 ·rw[if_pos z]
  have:(e - s+k - 1) / k<=e - s:=by
   have a1:e - s+k - 1<=(e - s) * k:=by
    have:0<=(e - s - 1) * (k - 1):=Int.mul_nonneg (by omega) (by omega)
    have e1:(e - s - 1) * (k - 1)=(e - s) * k - (e - s) - k+1:=by
     rw[Int.sub_mul,Int.mul_sub,Int.mul_sub];omega
    omega
   exact Int.ediv_le_of_le_mul (by omega) a1
  omega
 ·rw[if_neg z];exact DB _
section
variable {X:Cx}{E:XK}{e st:Expr}{lo hi:Option Expr}{te:TE}{tl th ts:TO}{pos p2:G1}{fa:HU->M W}{fl fh fs:HU->M (Option Int)}
def tSlS (K:PySem.W.Frag)(te:TE)(tl th ts:TO):TE:=fun σ H Q=>te σ H fun x H1=>tl σ H1 fun a H2=>th σ H2 fun b H3=>ts σ H3 fun c H4=> ∃ (k:Int) (p:GH) (xs:List V),c=some k/\1<=k/\x=.ref p/\SqL K H4 p xs/\ ∀q,H4 q=none->Q (.ref q) (upd H4 q (.lst (Ls xs a b k)))
theorem z7 (he:PE X e te)(hl:PO X lo tl)(hu:PO X hi th)(hs:PO X (some st) ts):PE X (.Subscript e (.Slice lo hi (some st) p2) pos) (tSlS X.K te tl th ts):=by
 intro pins s σ H Q I h
 refine Subscript_ (thn (he pins s σ H _ I h) fun v s1 qz=>?_)
 obtain⟨x,H1,I1,r1,q1⟩:=qz
 refine wpAny_Slice (thn (hl pins s1 σ H1 _ I1 q1) fun vl s2 ⟨l,H2,I2,pl,q2⟩=>thn (hu pins s2 σ H2 _ I2 q2) fun vu s3 ⟨u,H3,I3,pu,q3⟩=>thn (hs pins s3 σ H3 _ I3 q3) fun vs s4 qz=>?_)
 obtain⟨c,H4,I4,pc,q4⟩:=qz
 obtain⟨k,a,xs,rfl,hk,rfl,hx,q⟩:=q4
 cases r1
 have I5:Inv X pins σ H4 {s4 with heap:=s4.heap.push {cls:=.type "slice",data:=.fields #[vl,vu,vs]}}:=I4.kept (t':=s4.toks) fun b ob q=>DF _ q
 show GN (GO X.prog X.w) X.A (subscriptTail e (.Slice lo hi (some st) p2) (.ref a) (.ref s4.heap.objs.size)) (EP X pins σ Q) X.xe {s4 with heap:=s4.heap.push {cls:=.type "slice",data:=.fields #[vl,vu,vs]}}
 obtain⟨its,r,ht,hz⟩:=I5.list hx
 have hlen:=r.length
 refine tail_any (ops:=[.ref a,.ref s4.heap.objs.size]) ht.isList.typeIs slot_list_getitem.lookup ?_ (by with_unfolding_all rfl)
 refine wpAny_getItem_list_slice ht.isList (GG.IsSliceOf.new ..) pl pu pc (by intro z;cases z;omega) ?_ (by rw[Du]<;>omega)
 rw[xF]
 refine⟨.ref _,_,I5.laid (t':=s4.toks) (o:=.lst (Ls xs l u k)) (fun b ob q=>DF _ q) (Dl _) ?_,rfl,q _ (I5.hok.fresh (Dl _))⟩
 exact⟨u4 _ _ _ _ hk hz,_,0,tE r _ _ _,D0 _ rfl⟩
def Mw (x:W)(a b c:Option Int):M W:=match c with
 |some k=>gd (1<=k) (bd (Kr x) fun l=>pr (.tl (Ls l a b k)))
 |_=>no
def KG (fa:HU->M W)(fl fh fs:HU->M (Option Int)):HU->M W:=fun ρ=>bd (fa ρ) fun x=>bd (fl ρ) fun a=>bd (fh ρ) fun b=>bd (fs ρ) fun c=>Mw x a b c
theorem AR (he:JE X E e fa)(hl:JO X E lo fl)(hh:JO X E hi fh)(hs:JO X E (some st) fs):JE X E (.Subscript e (.Slice lo hi (some st) p2) pos) (KG fa fl fh fs):=(z7 he.h hl.h hh.h hs.h).imp fun σ H Q h=>by
 obtain⟨o,ρ,rfl,R,S,h⟩:=h
 refine⟨o,ρ,rfl,R,S,Ps.bd h fun p x vx e1 R1 r1 h1=>⟨p,ρ,rfl,R1,S.mono R e1,Ps.bd h1 fun q a va e2 R2 r2 h2=>?_⟩⟩
 subst r2
 refine⟨q,ρ,rfl,R2,(S.mono R e1).mono R1 e2,Ps.bd h2 fun q2 b vb e3 R3 r3 h3=>?_⟩
 subst r3
 refine⟨q2,ρ,rfl,R3,((S.mono R e1).mono R1 e2).mono R2 e3,Ps.bd h3 fun q3 c vc e4 R4 r4 h4=>?_⟩
 subst r4
 have rx:=((r1.mono R1 e2).mono R2 e3).mono R3 e4
 unfold Mw at h4
 split at h4
 ·rename_i k
  obtain⟨hk,h4⟩:=h4.gd
  obtain⟨l,a',vs,rfl,s,r,h5⟩:=gc R4 rx h4
  exact⟨k,a',vs,rfl,hk,rfl,s,fun q' hq=>iS R4 hq (u2 r _ _ _) h5⟩
 ·exact h4.elim
variable {p:G1}{a b:Expr}{l:HU->M (List W)}
end
end
section
section
variable {prog:GE}{w:GF}{A:GL}{E:GC->GJ->Prop}{it l:GH}{items:Array GC}
theorem mV (ne:l≠it): ∀ (n i:Nat) (s:GJ) (Q:List GC->GJ->Prop),s.heap.IsListIter it l i->s.heap.IsList l items->i+n=items.size->(∀h':GG,h'.IsListIter it l (i+n)->h'.IsList l items->GG.ExtBut it s.heap h'->Q (items.toList.drop i) {s with heap:=h'})->GN (GO prog w) A (draw (.ref it) n) Q E s
 |0,i,s,Q,st,hl,e,k=>by
  rw[draw.eq_1]
  have:=k s.heap st hl fun b o _ q=>q
  rw[Gj (by simp;omega)] at this
  exact GQ this
 |n+1,i,s,Q,st,hl,e,k=>by
  rw[draw.eq_2]
  have hi:i<items.size:=by omega
  refine GP (wpAny_pyNext_list_item st hl (x:=items[i]) (Array.getElem?_eq_getElem hi) fun h' st' sb=>?_)
  have hl':h'.IsList l items:=by
   obtain⟨o,e1,e2⟩:=hl
   exact⟨o,(sb.2 l ne).trans e1,e2⟩
  show GN (GO prog w) A (Ha [items[i]] (draw (.ref it) n)>>=fun r=>pure (items[i]::r)) Q E {s with heap:=h'}
  refine GP (GR (mV ne n (i+1) {s with heap:=h'} _ st' hl' (by omega) fun h2 st2 hl2 eb=>?_))
  refine GQ ?_
  have q:=k h2 (by rw[show i+(n+1)=i+1+n by omega];exact st2) hl2 fun b o hb q=>eb b o hb ((sb.2 b hb).trans q)
  rw[EX (by simpa using hi)] at q
  simpa using q
theorem oY {s:GJ}{Q:List GC->GJ->Prop}(hA:A.handled=none)(hl:s.heap.IsList l items)(k:∀h':GG,GG.ExtBut s.heap.objs.size s.heap h'->Q items.toList {s with heap:=h'}):GN (GO prog w) A (unpackItems (.ref l) items.size none) Q E s:=by
 have lt:l<s.heap.objs.size:=by obtain⟨o,e,_⟩:=hl;exact Dn e
 unfold unpackItems notIterableAtAll
 refine GP (GP (wpAny_specialOf hl.typeIs slot_list_iter.lookup ?_))
 refine GQ ?_
 show GN (GO prog w) A (Ha [.ref l] (pyIter (.ref l))>>=_) Q E s
 refine GP (GR (wpAny_pyIter_list hl ?_))
 have hl':(s.heap.push {cls:=.type "list_iterator",data:=.fields #[.ref l,.int 0 0]}).IsList l items:=by
  obtain⟨o,e1,e2⟩:=hl
  exact⟨o,DF _ e1,e2⟩
 refine GP (GR (mV (items:=items) (l:=l) (Dw lt) items.size 0 _ _ ⟨_,D0 _ rfl,rfl,rfl⟩ hl' (by omega) fun h2 st2 hl2 eb=>?_))
 rw[Ek]
 have e1: ¬items.toList.length<items.size:=by simp
 dsimp only
 rw[if_neg e1]
 refine GP (GR (wpAny_pyNext_list_end hA st2 hl2 (Array.getElem?_eq_none (by omega)) fun h3 eb3=>?_))
 exact GQ (k h3 fun b o hb q=>eb3 b o hb (eb b o hb (DF _ q)))
end
section
variable {X:Cx}{E:XK}{pos:G1}
def Je (K:PySem.W.Frag)(n:Nat)(t:TGs):TG:=fun v σ H Q=> ∃a xs,v=.ref a/\(SqT K H a xs\/SqL K H a xs)/\xs.length=n/\t xs σ H Q
theorem xI {es:List Expr}{k:Nat}{t:TGs}{n:Nat}(hc:X.calm=true)(h:PGs X es t)
  (hn:(Hc es X.env).length=n:=by rfl)(hst:(Hc es X.env).findIdx? (·.1)=none:=by rfl):PG X (.Tuple es k pos) (Je X.K n t):=by
 intro pins s σ H v u Q I r hw
 obtain⟨a,xs,e1,hq,hl,hw⟩:=hw
 subst e1
 rcases hq with hq|hq
 ·exact jv hc h hn hst pins s σ H _ u Q I r ⟨a,xs,rfl,hq,hl,hw⟩
 ·cases r
  obtain⟨its,rv,ht,hz⟩:=I.list hq
  rw[assign_Tuple]
  refine GP (wpAny_standAt ?_)
  unfold unpack
  have ln:(Hc es X.env).length=its.toArray.size:=by simp [hn,<-hl,rv.length]
  rw[hst,ln]
  refine GP (GR (oY (I.ok.hd hc) ht.isList fun h' hx=>?_))
  have I1:Inv X pins σ H {s with heap:=h'}:=I.kept (t':=s.toks) fun b o e=>hx b o (Dw (Dn e)) e
  exact h pins _ σ H xs _ Q I1 (by simpa using rv) hw
def tgL (is:List Nat):W->HU->Option HU:=fun w ρ=>match w with
 |.tup l=>Mn is l ρ
 |.tl l=>Mn is l ρ
 |_=>none
theorem xc {K:PySem.W.Frag}(m:Nat)(is:List Nat)(h:∀i∈is,i<m):Ii K m (Je K is.length (gNs is)) (tgL is):=⟨fun o w v ρ ρ2 σ rv re e=>by
 cases w with
 |tup l=>
  unfold Rv at rv
  obtain⟨a,vs,rfl,s,r⟩:=rv
  have e:Mn is l ρ=some ρ2:=e
  obtain⟨σ2,a1,a2,a3,a4⟩:=rM is l vs ρ ρ2 σ h r re e
  exact⟨σ2,fun Q q=>⟨a,vs,rfl,.inl s,by rw[r.len,iQ e],a1 Q q⟩,a2,a3,a4⟩
 |tl l=>
  unfold Rv at rv
  obtain⟨a,vs,rfl,s,_,r⟩:=rv
  have e:Mn is l ρ=some ρ2:=e
  obtain⟨σ2,a1,a2,a3,a4⟩:=rM is l vs ρ ρ2 σ h r re e
  exact⟨σ2,fun Q q=>⟨a,vs,rfl,.inr (.of s),by rw[r.len,iQ e],a1 Q q⟩,a2,a3,a4⟩
 |_=>cases e⟩
end
end
section
theorem ln1 {α:Type}: ∀ {us:List α},us.length=1-> ∃a,us=[a]
 |[a],_=>⟨a,rfl⟩
theorem ln2 {α:Type}: ∀ {us:List α},us.length=2-> ∃a b,us=[a,b]
 |[a,b],_=>⟨a,b,rfl⟩
theorem ln3 {α:Type}: ∀ {us:List α},us.length=3-> ∃a b c,us=[a,b,c]
 |[a,b,c],_=>⟨a,b,c,rfl⟩
theorem ln4 {α:Type}: ∀ {us:List α},us.length=4-> ∃a b c d,us=[a,b,c,d]
 |[a,b,c,d],_=>⟨a,b,c,d,rfl⟩
section
variable (K:PySem.W.Frag)(mg:Str->Option GC)(x:Str)(C:GH)
noncomputable def Dq (st:G5):Prop:= ∃f fd,Fun K x x st f fd/\mg x=some (.ref f)
noncomputable def Dqm (q:Str)(st:G5):Prop:= ∃f fd,Fun K x q st f fd/\HZ K C x f
def Gt (zs:List Str):Prop:= ∃a,mg x=some (.ref a)/\ ∀H,SqT K H a (zs.map V.str)
noncomputable def Gi (i:Int):Prop:= ∃t,mg x=some (.int i t)
noncomputable def Gs (i:Str):Prop:= ∃t,mg x=some (.str i t)
end
section
variable {P:GE}{w:GF}{K:PySem.W.Frag}{mg:Str->Option GC}{base:GG}{x q:Str}{st:G5}{C f:GH}{fd:Hn}{k:Nat}{fn:List W->M W}{g:HU->M Fl}{oc:GC}{od an:Option GH}{osl:Array (Option GC)}{kV doc pm cdv ct:GC}{h:GG}
theorem dq (X:K.In h)(G:h.Ns GW mg)(a:GA K GW x=some (some (.ref f)))(l:K.lookup f=some ⟨oc,od,.func (fnOf x x (cT st) (br st) (ae st) .none kV doc pm an cdv ct),osl⟩)(c:codeIn K cdv x=true)(k:Gz K (.ref f)=true):Dq K mg x st:=⟨_,_,wr l c k,GB X G a⟩
theorem dqm (a:PySem.W.findIn K (.ref C) x=some (some (.ref f)))(i:PySem.W.isFn K (.ref f)=true)(l:K.lookup f=some ⟨oc,od,.func (fnOf x q (cT st) (br st) (ae st) .none kV doc pm an cdv ct),osl⟩)(c:codeIn K cdv q=true)(k:Gz K (.ref f)=true):Dqm K x C q st:=⟨_,_,wr l c k,a,i,k⟩
theorem gi {i:Int}{t:Tok}(X:K.In h)(G:h.Ns GW mg)(a:GA K GW x=some (some (.int i t))):Gi mg x i:=⟨_,GB X G a⟩
theorem gs {i:Str}{t:Tok}(X:K.In h)(G:h.Ns GW mg)(a:GA K GW x=some (some (.str i t))):Gs mg x i:=⟨_,GB X G a⟩
theorem gn (X:K.In h)(G:h.Ns GW mg)(a:GA K GW x=some none):mg x=none:=PySem.W.mg_none_of X G a
noncomputable def stx:List GC->List Str
 |.str z _::r=>z::stx r
 |_=>[]
theorem uI: ∀ {us:List GC},(stx us).length=us.length->Vals ((stx us).map V.str) us
 |[],_=>.nil
 |.str z t::r,e=>.cons ⟨_,rfl⟩ (uI (Nat.succ.inj e))
theorem gt {zs:List Str}{its:Array GC}{n:Nat}(X:K.In h)(G:h.Ns GW mg)(a:GA K GW x=some (some (.ref f)))(l:K.lookup f=some ⟨.type "tuple",od,.seq its n,osl⟩)(e:zs=stx its.toList/\(stx its.toList).length=its.toList.length/\its.toList.length<=64):Gt K mg x zs:=by
 obtain⟨rfl,e,e2⟩:=e
 exact⟨f,GB X G a,fun H=>.inr ⟨_,_,_,l,rfl,rfl,Dy (by simpa using e2) (by unfold sizeLine;decide),uI e⟩⟩
end
section
variable {P:GE}{w:GF}{K:PySem.W.Frag}{mg:Str->Option GC}{base:GG}{x q:Str}{st:G5}{C f:GH}{fd:Hn}{k:Nat}{fn:List W->M W}{g:HU->M Fl}
theorem okf (N:List Str)(m:Nat)(F:Fun K x x st f fd)(Mf:mg x=some (.ref f))
  (hb: ∀ (cdv:GC) (A:GL) (outer:List Env) (s:GJ) (H:Hp) (E:XK),Room k (A.deeper (Ht x (ae st) s.heap.objs.size f cdv))->(A.deeper (Ht x (ae st) s.heap.objs.size f cdv)).units+1<GM->(A.deeper (Ht x (ae st) s.heap.objs.size f cdv)).units+64<GM->N.Nodup->JSs (IG CX0 P w K mg base N x (ae st) f cdv A outer s H E).nox E0 (br st) g)
  (S:HW N (N.take m) (ae st):=by exact⟨rfl,rfl,rfl,by decide+kernel,rfl,by decide+kernel,by decide+kernel⟩)(hm:(N.take m).length=m:=by rfl)(hf:fn=LK N.length g:=by rfl)
  (hi: ∀ (kV doc pm:GC) (an:Option GH) (cdv ct:GC) (us:List GC),us.length=(N.take m).length->bindArgs (fnOf x x (cT st) (br st) (ae st) .none kV doc pm an cdv ct) ⟨us,[]⟩=pure ((N.take m).zip us):=by intro _ _ _ _ _ _ us hl;first|(obtain⟨_,rfl⟩:=ln1 hl;rfl)|(obtain⟨_,_,rfl⟩:=ln2 hl;rfl)|(obtain⟨_,_,_,rfl⟩:=ln3 hl;rfl)|(obtain⟨_,_,_,_,rfl⟩:=ln4 hl;rfl)|(obtain⟨_,_,_,_,_,rfl⟩:=ln5 hl;rfl)):
  CG P w K mg base (k+1) x f fd (N.take m) m fn:=
 ⟨CB (g:=g) F S rfl hm hf fun cdv A outer s H E hr=>hb cdv A outer s H E hr (wf hr) hr.units S.nd,F.binds hi,F.kp,Mf⟩
theorem okz (N:List Str)(m:Nat)(F:Fun K x x st f fd)(Mf:mg x=some (.ref f))(h:∀ws h,fn ws h=.bad)
 (hi: ∀ (kV doc pm:GC) (an:Option GH) (cdv ct:GC) (us:List GC),us.length=(N.take m).length->bindArgs (fnOf x x (cT st) (br st) (ae st) .none kV doc pm an cdv ct) ⟨us,[]⟩=pure ((N.take m).zip us):=by intro _ _ _ _ _ _ us hl;first|(obtain⟨_,rfl⟩:=ln1 hl;rfl)|(obtain⟨_,_,rfl⟩:=ln2 hl;rfl)|(obtain⟨_,_,_,rfl⟩:=ln3 hl;rfl)):
 CG P w K mg base k x f fd (N.take m) m fn:=⟨Bq h,F.binds hi,F.kp,Mf⟩
end
section
variable {X:Cx}{E:XK}{p p0 pos apos:G1}{zs:List Str}{x:Str}
noncomputable def nst:Expr->Bool
 |.Starred ..=>false
 |_=>true
theorem sY {e:Expr}{es:List Expr}{env:Env}(h:nst e=true):G4 (e::es) env=(false,G0 e env)::G4 es env:=by
 cases e<;>first|rfl|cases h
noncomputable def nsl:Expr->Bool
 |.Slice ..=>false
 |_=>true
theorem C5 {b:Expr}(h:nsl b=true):oU b:=by
 cases b<;>first|exact fun _ _=>rfl|cases h
theorem C9 {a b:Expr}{fa fb:HU->M W}(h:nsl b=true)(hu:X.A.units+1<GM)(ha:JE X E a fa)(hb:JE X E b fb):JE X E (.Subscript a b pos) (m2 ixW fa fb):=Ce hu ha hb (C5 h)
theorem Dc {e:Expr}{es:List Expr}{u:HU->M W}{l:HU->M (List W)}(h:nst e=true)(ha:JE X E e u)(hr:JA X E es l):JA X E (e::es) (Kw u l):=aq ha hr (sY h)
theorem xW {es:List Expr}{env:Env}(h:es.all nst=true):(G3 pos (G4 es env)).any (·.1)=false:=by
 induction es with
 |nil=>exact dC
 |cons e r ih=>rw[Es,Dx] at h;exact cG (sY h.1) (ih h.2)
def Cm (X:Cx)(E:XK)(op:CmpOp)(f:W->W->M W):Prop:= ∃r,OpM X E r f/\OpR X (G7 op) r
theorem C8 {a b:Expr}{op:CmpOp}{f:W->W->M W}{fa fb:HU->M W}(h:Cm X E op f)(ha:JE X E a fa)(hb:JE X E b fb)(hm:G8 op b=false):JT X E (.Compare a [op] [b] pos) (mB (m2 f fa fb)):=h.elim fun _ h=>AG h.2 h.1 ha hb hm
theorem Db {a b:Expr}{op:CmpOp}{f:W->W->M W}{fa fb:HU->M W}(h:Cm X E op f)(ha:JE X E a fa)(hb:JE X E b fb)(hm:G8 op b=false):JE X E (.Compare a [op] [b] pos) (m2 f fa fb):=h.elim fun _ h=>A7 h.2 h.1 ha hb hm
theorem B6 {a b c:Expr}{op op':CmpOp}{f g:W->W->M W}{fa fb fc:HU->M W}(h:Cm X E op f)(h':Cm X E op' g)(ha:JE X E a fa)(hb:JE X E b fb)(hc:JE X E c fc)(hm:lastMarks [op,op'] [b,c]=false:=by with_unfolding_all rfl):JT X E (.Compare a [op,op'] [b,c] pos) (mB (ba f g fa fb fc)):=h.elim fun _ h=>h'.elim fun _ h'=>vO h.2 h.1 h'.2 h'.1 ha hb hc hm
def Cr (X:Cx)(x:Str)(m:Nat)(f:List W->M W):Prop:= ∃k a d ps,CG X.prog X.w X.K X.mg X.base k x a d ps m f/\Room k X.A
theorem Da {e:Expr}{es:List Expr}{l:HU->M (List W)}{m:Nat}{f:List W->M W}(h:Cr X x m f)(ha:JA X E0 (e::es) l)(hg:Gl X x:=by rfl)
  (hdb:(x==("__debug__":Str))=false:=by decide)(he:(e::es).all nst=true):
  JE X E0 (.Call (.Name x p) (e::es) [] pos) (Ku (arW m f) l):=by
 obtain⟨_,_,_,_,h,hr⟩:=h
 rw[Es,Dx] at he
 exact Cn h hr ha hg hdb (sY he.1) (xW he.2)
def Cs (X:Cx)(c x:Str)(m:Nat)(f:List W->M W):Prop:= ∃C k a d ps,GA X.K GW c=some (some (.ref C))/\Cls X.K C/\CGm X.prog X.w X.K X.mg X.base k C x a d ps m f/\Room k X.A
def Fq (X:Cx)(c x:Str):Prop:= ∃C,GA X.K GW c=some (some (.ref C))/\Cls X.K C/\NoAttr X.K C x
theorem Ck {c:Str}{o:Expr}{fo:HU->M W}(h:Fq X c x)(ho:JE X E o fo)(hb:Hk o x X.env (G0 o X.env)=G0 o X.env:=by rfl):JE X E (.Attribute o x pos) (m1 (IY c x) fo):=by
 obtain⟨_,n,k,a⟩:=h
 exact A6 n k a ho hb
theorem Ca {c:Str}{o value:Expr}{pos':G1}{fo fv:HU->M W}(h:Fq X c x)(ho:JE X E o fo)(hv:JE X E value fv)(hs:swapsWith value (some (.Attribute o x pos')) pos.line X.env=pure false:=by rfl):JS X E (.Assign [.Attribute o x pos'] value pos) (LW c x fo fv):=by
 obtain⟨_,n,k,a⟩:=h
 exact AK n k a ho hv hs
def Tq (X:Cx)(tg:Expr)(t:W->HU->Option HU):Prop:= ∃m gT,Ii X.K m gT t/\PG X tg gT
theorem Cb {tg iter:Expr}{body:List G5}{src:HU->M Sr}{t:W->HU->Option HU}{g:HU->M Fl}(h:Tq X tg t)(hp:Hd (GO X.prog X.w) X.A X.env X.xe)(hc:X.calm=true)(hi:JI X E tg iter src)(hb:JSs X E body g)
  (hs: ∀x,Hh iter X.env x=pure x:=by intro _;rfl):JS X E (.For tg iter body [] pos) (LX src t g):=by
 obtain⟨_,_,ht,hg⟩:=h
 exact AJ hp hc hi hg ht hb hs
theorem B7 {tg e:Expr}{t:W->HU->Option HU}{f:HU->M W}(h:Tq X tg t)(he:JE X E e f)(hs:swapsWithSole [tg] e pos.line X.env=pure false:=by rfl)(hw:swappedStores [tg] e X.env=pure none:=by rfl)
  (h1:(Hc [tg] X.env).map (·.2)=[assign tg X.env]:=by rfl):JS X E (.Assign [tg] e pos) (Ma t f):=by
 obtain⟨_,_,ht,hg⟩:=h
 exact AH he hg ht hs hw h1
theorem CO (hu:X.A.units+64<GM):Cm X E .Eq eqW:=⟨_,An hu,BX⟩
theorem CD (hu:X.A.units+64<GM):Cm X E .NotEq neW:=⟨_,Ag hu,BQ⟩
theorem CH:Cm X E .Lt ltW:=⟨_,Ah,BR⟩
theorem CI:Cm X E .LtE leW:=⟨_,Ai,BS⟩
theorem CK:Cm X E .Gt gtW:=⟨_,Al,BV⟩
theorem CL:Cm X E .GtE geW:=⟨_,Am,BW⟩
theorem CJ (hu:X.A.units+1<GM):Cm X E .In inW:=⟨_,Ak,BU hu⟩
theorem CC (hu:X.A.units+1<GM):Cm X E .NotIn cM:=⟨_,tK,vn hu⟩
theorem Ci {i:Int}(hm:Gi X.mg x i)(hg:Gl X x:=by rfl)(hd:(x==("__debug__":Str))=false:=by decide):JE X E (.Name x pos) (mC (.int i)):=hm.elim fun _ hm=>oq (w:=.int i) (v:=.int i) hg hm ⟨_,rfl⟩ (fun o=>LN.mpr rfl) hd
theorem Ch {i:Str}(hm:Gs X.mg x i)(hg:Gl X x:=by rfl)(hd:(x==("__debug__":Str))=false:=by decide):JE X E (.Name x pos) (mC (.str i)):=hm.elim fun _ hm=>oq (w:=.str i) (v:=.str i) hg hm ⟨_,rfl⟩ (fun o=>LP.mpr rfl) hd
theorem Cf (h:Gt X.K X.mg x zs)(hg:Gl X x:=by rfl)(hd:(x==("__debug__":Str))=false:=by decide):JE X E (.Name x pos) (mC (.tup (zs.map W.str))):=by
 obtain⟨a,hm,hq⟩:=h
 exact vX hm hq hg hd
end
section
variable (P:GE)(w:GF)(K:PySem.W.Frag)(mg:Str->Option GC)(base:GG)(k:Nat)(C:GH)(x:Str)(m:Nat)(fn:List W->M W)
noncomputable def Cq:Prop:= ∃a d ps,CG P w K mg base k x a d ps m fn
noncomputable def Cqm:Prop:= ∃a d ps,CGm P w K mg base k C x a d ps m fn
end
section
variable {P:GE}{w:GF}{K:PySem.W.Frag}{mg:Str->Option GC}{base:GG}{x q:Str}{st:G5}{C:GH}{k:Nat}{fn:List W->M W}{g:HU->M Fl}
theorem okq (N:List Str)(m:Nat)(D:Dq K mg x st)(hb: ∀ (f:GH) (cdv:GC) (A:GL) (outer:List Env) (s:GJ) (H:Hp) (E:XK),Room k (A.deeper (Ht x (ae st) s.heap.objs.size f cdv))->(A.deeper (Ht x (ae st) s.heap.objs.size f cdv)).units+1<GM->(A.deeper (Ht x (ae st) s.heap.objs.size f cdv)).units+64<GM->N.Nodup->JSs (IG CX0 P w K mg base N x (ae st) f cdv A outer s H E).nox E0 (br st) g)
  (S:HW N (N.take m) (ae st):=by exact⟨rfl,rfl,rfl,by decide+kernel,rfl,by decide+kernel,by decide+kernel⟩)(hm:(N.take m).length=m:=by rfl)(hf:fn=LK N.length g:=by rfl)(hi: ∀ (kV doc pm:GC) (an:Option GH) (cdv ct:GC) (us:List GC),us.length=(N.take m).length->bindArgs (fnOf x x (cT st) (br st) (ae st) .none kV doc pm an cdv ct) ⟨us,[]⟩=pure ((N.take m).zip us):=by intro _ _ _ _ _ _ us hl;first|(obtain⟨_,rfl⟩:=ln1 hl;rfl)|(obtain⟨_,_,rfl⟩:=ln2 hl;rfl)|(obtain⟨_,_,_,rfl⟩:=ln3 hl;rfl)|(obtain⟨_,_,_,_,rfl⟩:=ln4 hl;rfl)|(obtain⟨_,_,_,_,_,rfl⟩:=ln5 hl;rfl)):Cq P w K mg base (k+1) x m fn:=by
 obtain⟨f,_,F,M⟩:=D
 exact⟨_,_,_,okf N m F M (hb f) S hm hf hi⟩
theorem K6 (N:List Str)(m:Nat)(D:Dq K mg x st)(h:∀ws h,fn ws h=.bad)(hi: ∀ (kV doc pm:GC) (an:Option GH) (cdv ct:GC) (us:List GC),us.length=(N.take m).length->bindArgs (fnOf x x (cT st) (br st) (ae st) .none kV doc pm an cdv ct) ⟨us,[]⟩=pure ((N.take m).zip us):=by intro _ _ _ _ _ _ us hl;first|(obtain⟨_,rfl⟩:=ln1 hl;rfl)|(obtain⟨_,_,rfl⟩:=ln2 hl;rfl)|(obtain⟨_,_,_,rfl⟩:=ln3 hl;rfl)|(obtain⟨_,_,_,_,rfl⟩:=ln4 hl;rfl)|(obtain⟨_,_,_,_,_,rfl⟩:=ln5 hl;rfl)):Cq P w K mg base k x m fn:=by
 obtain⟨_,_,F,M⟩:=D
 exact⟨_,_,_,okz N m F M h hi⟩
end
section
variable {X:Cx}{x c:Str}{C:GH}{k m:Nat}{f:List W->M W}{p pos:G1}
theorem cr (h:Cq X.prog X.w X.K X.mg X.base k x m f)(r:Room k X.A):Cr X x m f:=h.elim fun a ⟨d,ps,h⟩=>⟨k,a,d,ps,h,r⟩
theorem cs (h:Cqm X.prog X.w X.K X.mg X.base k C x m f)(n:GA X.K GW c=some (some (.ref C)))(l:Cls X.K C)(r:Room k X.A):Cs X c x m f:=h.elim fun a ⟨d,ps,h⟩=>⟨C,k,a,d,ps,n,l,h,r⟩
end
section
variable {X:Cx}{E:XK}{e a b:Expr}{es:List Expr}{s:G5}{ss:List G5}{o:Option Expr}{op:Operator}{kw:List Hr}{c:Const}{k:Nat}{x:Str}{pos:G1}{f:HU->M W}{u:HU->M Bool}{l:HU->M (List W)}{g:HU->M Fl}{r:HU->M Sr}{q:HU->M (Option Int)}
theorem gNm (h:JE X E (.Name x pos) f):JE X E (.Name x pos) f:=h
theorem gCo {j:Nat}(h:JE X E (.Constant c j pos) f):JE X E (.Constant c j pos) f:=h
theorem gCl (h:JE X E (.Call e es kw pos) f):JE X E (.Call e es kw pos) f:=h
theorem gBi (h:JE X E (.BinOp a op b pos) f):JE X E (.BinOp a op b pos) f:=h
theorem gSu (h:JE X E (.Subscript a b pos) f):JE X E (.Subscript a b pos) f:=h
theorem gJE (h:JE X E e f):JE X E e f:=h
theorem gJT (h:JT X E e u):JT X E e u:=h
theorem gJW (h:JW X E e u):JW X E e u:=h
theorem gJA (h:JA X E es l):JA X E es l:=h
theorem gJF (h:JF X E e l):JF X E e l:=h
theorem gJS (h:JS X E s g):JS X E s g:=h
theorem gJZ (h:JSs X E ss g):JSs X E ss g:=h
theorem gJI (h:JI X E a b r):JI X E a b r:=h
theorem gJO (h:JO X E o q):JO X E o q:=h
end
end
end L2
namespace L2
open PySem PySem.W PySem.Spec PyProof.Rows
section
variable {prog:GE}{w:GF}{A:GL}{E:GC->GJ->Prop}{s:GJ}
end
section
variable {X:Cx}{E:XK}
open Classical in
open Classical in
end
end L2
namespace L2
open PySem PySem.Spec
section
variable {X:Cx}{E:XK}{pos:G1}{x:Str}
end
end L2
namespace L2
open PySem PySem.Spec PyProof.Rows
section
variable {P:GE}{w:GF}{K:PySem.W.Frag}{mg:Str->Option GC}{base:GG}{x qual:Str}{st:G5}{f C:GH}{fd:Hn}{N ps:List Str}{k:Nat}{g:HU->M Fl}
theorem wI {n m:Nat}{fn:List W->M W}(F:Fun K x qual st f fd)(S:HW N ps (ae st))(hn:N.length=n)(hm:ps.length=m)(hf:fn=LK n g)
  (hb: ∀ (cdv:GC) (A:GL) (outer:List Env) (s:GJ) (H:Hp) (E:XK),Room k (A.deeper (Ht qual (ae st) s.heap.objs.size f cdv))->JSs (IG (CXx P w) P w K mg base N qual (ae st) f cdv A outer s H E) E (br st) g):
  FnOk P w K mg base (CXx P w) (k+1) f fd ps (spX K mg m fn):=by
 subst hn hm hf
 refine F.okX S (fun vs H Q E h=>?_) (fun cdv A outer s H vs Q E hr h=>?_)
 ·obtain⟨o,ws,_,hl,_,rv,_⟩:=h
  rw[rv.len,hl]
 ·obtain⟨o,ws,rfl,hl,R,rv,h⟩:=h
  refine⟨_,(hb cdv A outer s o.H E hr).h,?_⟩
  have e:MI N vs=vs.map some++List.replicate (N.length - ws.length) none:=by unfold MI;rw[rv.len]
  rw[e]
  refine⟨o,_,rfl,R,Re.args _ rv,Ps.bd h fun p x b e1 R1 r1 h1=>?_⟩
  cases x with
  |rt w=>obtain⟨v,rfl,r⟩:=r1;exact h1.pr R1 r
  |nx r=>obtain⟨s,rfl,r⟩:=r1;exact h1.pr R1 (LO.mpr rfl)
  |bk r=>exact h1.elim
  |ct r=>exact h1.elim
theorem Dg {m:Nat}{fn:List W->M W}(c:CG P w K mg base k x f fd ps m fn)(hn: ∀ws h y h',fn ws h≠.ex y h')(F:FnOk P w K mg base (CXx P w) k f fd ps (Mz K mg m fn)):CGx P w K mg base k x f fd ps m fn:=
 ⟨F.imp fun vs H Q E h=>by
  obtain⟨o,ws,e,hl,R,rv,h⟩:=h
  refine⟨o,ws,e,hl,R,rv,?_⟩
  cases ef:fn ws o.h with
  |ok a h'=>rw[ef] at h;exact h
  |ex y h'=>exact absurd ef (hn _ _ _ _)
  |bad=>rw[ef] at h;exact h,c.bi,c.kp,c.mg⟩
structure HI (P:GE)(w:GF)(K:PySem.W.Frag)(mg:Str->Option GC)(base:GG)(k:Nat)(C:GH)(m:Str)(f:GH)(fd:Hn)(ps:List Str)(n:Nat)(fn:List W->M W):Prop where
 ok:FnOk P w K mg base (CXx P w) k f fd ps (spX K mg n fn)
 bi:Binds K fd ps []
 me:HZ K C m f
end
section
variable {X:Cx}{E:XK}{p p0 pos apos cpos np:G1}{e o a:Expr}{es:List Expr}{l:HU->M (List W)}{fn:List W->M W}{fo:HU->M W}{k n:Nat}{fA C:GH}{fd:Hn}{ps:List Str}{x c m:Str}
theorem Cj (F:CGx X.prog X.w X.K X.mg X.base k x fA fd ps n fn)(hP:b7 (CXx X.prog X.w) X E)(hr:Room k X.A)(ha:JA X E (e::es) l)(hg:Gl X x:=by rfl)
  (hdb:(x==("__debug__":Str))=false:=by decide)(he:G4 (e::es) X.env=(false,G0 e X.env)::G4 es X.env:=by rfl)(hpl:(G3 pos (G4 es X.env)).any (·.1)=false:=by rfl):
  JE X E (.Call (.Name x p) (e::es) [] pos) (Ku (arW n fn) l):=(du F.ok hr hg F.mg F.kp F.bi .nil hP ha.h hdb he hpl).imp fun σ H Q h=>by
 obtain⟨o,ρ,rfl,R,S,h⟩:=h
 refine⟨o,ρ,rfl,R,S,Ps.bd h fun p x vx e1 R1 r1 h1=>?_⟩
 unfold arW at h1
 by_cases z:x.length=n
 ·rw[if_pos z] at h1
  exact⟨p,x,rfl,z,R1,by rw[DM];exact r1,h1⟩
 ·rw[if_neg z] at h1
  exact h1.elim
theorem yn {pl:Sem Bool}(hn:GA X.K GW c=some (some (.ref C)))(cl:Cls X.K C)(F:HI X.prog X.w X.K X.mg X.base k C m fA fd ps n fn)(hP:b7 (CXx X.prog X.w) X E)(hr:Room k X.A)(ho:JE X E o fo)(ha:JA X E (e::es) l)
  (hst:G4 (e::es) X.env=(false,G0 e X.env)::G4 es X.env:=by rfl)(hpl:(G3 pos (G4 es X.env)).any (·.1)=false:=by rfl)
  (ht:G0 (.Call (.Attribute o m apos) (e::es) [] pos) X.env=(do
   let ov<-G0 o X.env
   G9 apos.atName
   let (f,first)<-Ha [ov] (Hj ov m pl)
   callWith pos f first (G3 pos (G4 (e::es) X.env)) (Hl pos (Hm [] X.env))):=by rfl):
  JE X E (.Call (.Attribute o m apos) (e::es) [] pos) (Ky c m n fn fo l):=(gp ho.h cl F.me F.ok hr F.bi .nil hP ha.h hst hpl ht).imp fun σ H Q h=>by
 obtain⟨w,ρ,rfl,R,S,h⟩:=h
 refine⟨w,ρ,rfl,R,S,Ps.bd h fun p x vx e1 R1 r1 h1=>?_⟩
 obtain⟨a,dx,fs,rfl,q1,q2,h1⟩:=wa hn R1 r1 h1
 refine⟨a,dx,fs,rfl,q1,q2,p,ρ,rfl,R1,S.mono R e1,Ps.bd h1 fun q ws vs e2 R2 r2 h2=>?_⟩
 unfold arW at h2
 by_cases z:(x::ws).length=n
 ·rw[if_pos z] at h2
  exact⟨q,x::ws,rfl,z,R2,by rw[DM];exact Rvs.cons (r1.mono R1 e2) r2,h2⟩
 ·rw[if_neg z] at h2
  exact h2.elim
def bY (x:Str)(l:HU->M (List W)):HU->M Fl:=fun ρ=>bd (l ρ) fun ws=>gd (ws.length<=sizeLine) fun h=>.ex x h
theorem vR (hX:ji X E)(hc:X.calm=true)(hm:X.mg x=some (.ref C))(q:excIn X.K C Ip "ValueError.__new__"=true)(ha:JA X E (a::es) l)(hg:Gl X x:=by rfl)
  (he:G4 (a::es) X.env=(false,G0 a X.env)::G4 es X.env:=by rfl)(hpl:(G3 cpos (G4 es X.env)).any (·.1)=false:=by rfl)(hd:(x==("__debug__":Str))=false:=by decide):
  JS X E (.Raise (some (.Call (.Name x np) (a::es) [] cpos)) none pos) (bY x l):=(eS hX hc hg hm q ha.h he hpl hd).imp fun D σ H h=>by
 obtain⟨o,ρ,rfl,R,S,h⟩:=h
 refine⟨o,ρ,rfl,R,S,Ps.bd h fun p ws vs e1 R1 r1 h1=>?_⟩
 obtain⟨hz,h1⟩:=h1.gd
 obtain⟨u,hu,h1⟩:=h1
 have hu:X.mg x=some u:=hu
 rw[hm] at hu
 cases hu
 exact⟨by rw[r1.len];exact hz,h1 p rfl (Ex.refl p) R1⟩
theorem sE (z:Str):Str.empty++z=z:=by
 show (⟨#[]++z.cps⟩:Str)=z
 rw[Array.empty_append]
def tFst (z:Str)(tv:TE):TE:=fun σ H Q=>z.length<=sizeLine/\tv σ H fun x H1=> ∃y,x=.str y/\y.length<=sizeLine/\(z++y).length<=sizeLine/\Q (.str (z++y)) H1
theorem Ab {z:Str}{j:Nat}{cp p2 pos:G1}{v:Expr}{tv:TE}(hv:PE X v tv):PE X (.JoinedStr [.Constant (.str z) j cp,.FormattedValue v (-1) none p2] pos) (tFst z tv):=by
 intro pins s σ H Q I h
 obtain⟨hz,h⟩:=h
 refine JoinedStr_many (joinParts_cons (Calls.Constant_str ⟨by rw[sE];exact hz,?_⟩))
 rw[sE]
 refine joinParts_cons (FormattedValue_plain (thn (hv pins _ σ H _ (I.tok _) h) fun u s1 h1=>?_))
 obtain⟨x,H1,I1,rx,y,rfl,hy,hzy,q⟩:=h1
 obtain⟨t,rfl⟩:=(show∃t,u=GC.str y t from rx)
 refine formatField_str (fun t' tk=>⟨hzy,?_⟩) hy
 exact joinParts_nil ⟨.str (z++y),H1,(I1.tok _).tok _,⟨_,rfl⟩,q⟩ hzy
def Jb (z:Str)(x:W):M W:=match x with
 |.str y=>gd (z.length<=sizeLine/\y.length<=sizeLine/\(z++y).length<=sizeLine) (pr (.str (z++y)))
 |_=>no
theorem A5 {z:Str}{j:Nat}{cp p2 pos:G1}{v:Expr}{fv:HU->M W}(hz:z.length<=sizeLine)(hv:JE X E v fv):JE X E (.JoinedStr [.Constant (.str z) j cp,.FormattedValue v (-1) none p2] pos) (m1 (Jb z) fv):=(Ab hv.h).imp fun σ H Q h=>by
 obtain⟨o,ρ,rfl,R,S,h⟩:=h
 refine⟨hz,o,ρ,rfl,R,S,Ps.bd h fun p x vx e1 R1 r1 h1=>?_⟩
 unfold Jb at h1
 split at h1
 ·rename_i y
  obtain⟨⟨_,h3,h4⟩,h1⟩:=h1.gd
  exact⟨y,LP.mp r1,h3,h4,h1.pr R1 (LP.mpr rfl)⟩
 ·exact h1.elim
end
end L2
namespace L2
open PySem PySem.W PySem.Spec PyProof.Rows
section
variable {M:Model}{A:GL}{E:GC->GJ->Prop}{s:GJ}
noncomputable def FlyT (base:GG)(l:List Env)(e:GH)(cls a0:GC)(h:GG):Prop:=base.StaysIn h/\base.get? e=none/\h.FunFrames base l/\ ∃fl,h.TracedAtW base e cls a0 fl
theorem vZ {base:GG}{env:Env}{outer:List Env}{L e:GH}{cls a0:GC}{Q:Unit->GJ->Prop}(hfr:A.frames=some (env::outer))(hf:env.frame=some L)(hh:FlyT base (env::outer) e cls a0 s.heap)
  (hQ: ∀h',EE base outer e cls a0 h'->s.heap.UpToSlots h'->Q () {s with heap:=h'}):GN M A (leaving env (.ref e)) Q E s:=by
 obtain⟨f1,f2,f3,fl,f4⟩:=hh
 by_cases z:fl=Hg L
 ·subst z
  unfold leaving
  refine GP (wpAny_noteFrame_againW hf f4 ?_)
  refine wpAny_landsW (L:=L) ⟨f1,f2,f3,f4⟩ fun h' hfl up=>?_
  obtain⟨k1,k2,⟨_,_,k3⟩,k4⟩:=hfl
  exact hQ h' ⟨k1,k2,k3,k4⟩ up
 ·obtain⟨oe,vs,T,oT,ts,he,⟨hcls,h0⟩,hd,h1,hnT,hTe,hT,hdT,h3⟩:=f4
  subst hcls
  unfold leaving noteFrame
  simp only[hf]
  refine GP (GP (Hu he hd h1 ?_))
  rw[if_pos (show (GC.ref T !=GC.none)=true from by simp)]
  refine GP (Hu hT hdT h3 ?_)
  rw[if_neg (show¬((fl==Hg L)=true) from fun q=>z (by simpa using q))]
  refine GP (wpAny_setField hT hdT (Fp.mp h3).1 ?_)
  have other: ∀b,b≠T->(s.heap.update T (GK.mapFields (·.setIfInBounds 3 GC.none))).get? b=s.heap.get? b:=fun b hb=>ET _ _ (Ne.symm hb)
  have nr: ∀b o,s.heap.get? b=some o->(∀vs,o.data≠.fields vs)->b≠T:=fun b o hb hnf q=>by
   rw[q,hT] at hb
   injection hb with hb
   subst hb
   exact hnf ts hdT
  refine wpAny_newEntryW hfr (f3.of_keeps fun b o hb hnf=>⟨o,(other b (nr b o hb hnf)).trans hb,rfl⟩) hf ((other e (Ne.symm hTe)).trans he)
   (fun b o hbo=>(other b fun q=>by rw[q,hnT] at hbo;cases hbo).trans (f1 b o hbo)) f2 hd (Fp.mp h1).1 h0 fun h' hL=>?_
  obtain⟨k1,⟨_,_,k2⟩,k3,k4⟩:=hL
  exact hQ h' ⟨k1,f2,k2,k3⟩ fun b o hb hnf=>k4 b o ((other b (nr b o hb hnf)).trans hb) hnf
end
structure NotT (l:List Env)(B:GG)(ea:GH)(cls a0:GC)(s s':GJ):Prop where
 os:s'.os=s.os
 gens:s'.gens=s.gens
 fly:FlyT B l ea cls a0 s'.heap
 slot: ∀b∈frs l,∀o,s.heap.get? b=some o-> ∃sl,s'.heap.get? b=some {o with slots:=sl}
def iF (X:Cx)(E:XK):Prop:= ∀ (pins:List (GH×GK)) (σ:St) (H H':Hp) (s s1 s2:GJ) (ea C:GH) (cls a0:GC) (B:GG),X.s₀.heap.get? C=none->H' C=none->Inv X pins σ H s->
 s1.os=s.os->GZ s1.gens->Un (frs X.stack) [] H H' s.heap s1.heap->HOk X.prog X.w H' s1.heap->s1.heap.FunFrames B X.stack->
 (∀b o,b≠C->s1.heap.get? b=some o->b ∉ frs X.stack->(H' b≠none\/ ∃o',s.heap.get? b=some o')->B.get? b=some o)->s.heap.get? ea=none->H' ea=none->E cls none H'->NotT X.stack B ea cls a0 s1 s2->X.xe (.ref ea) s2
section
variable {P:GE}{w:GF}{K:PySem.W.Frag}{mg:Str->Option GC}{base:GG}{N:List Str}{qual:Str}{scope:GY}{f:GH}{cd:GC}{A:GL}{outer:List Env}{s:GJ}{H:Hp}{E:XK}
theorem mG:iF (IG (CXx P w) P w K mg base N qual scope f cd A outer s H E) E:=by
 intro pins σ H1 H2 s1 s2 s3 ea C cls a0 B hC0 hC2 I os bare un hok fly cov new hn hE nt
 have frm:=I.ok.frames
 refine vZ (show (A.deeper (Ht qual scope s.heap.objs.size f cd)).frames=some (Ht qual scope s.heap.objs.size f cd::outer) from frm) rfl nt.fly fun h' fl up=>?_
 have fr2: ∀b,b∈frs (IG (CXx P w) P w K mg base N qual scope f cd A outer s H E).stack↔b=s.heap.objs.size\/b∈frs outer:=fun b=>by
  rw[(i5 (CX:=CXx P w)).frs]
  exact Dp
 have old: ∀b o,s.heap.get? b=some o->b≠s.heap.objs.size:=fun b o q=>Dw (Dn q)
 have baseU:Un (frs outer) [] H H1 s.heap s1.heap:=I.base
 have frN: ∀b,b∈frs (IG (CXx P w) P w K mg base N qual scope f cd A outer s H E).stack->H2 b=none:=fun b hb=>by
  obtain⟨o,q,_⟩:=I.frame_obj hb
  exact un.free b o q (I.stkFree b hb) (by simp)
 have tr: ∀b u,H2 b=some u->b ∉ frs (IG (CXx P w) P w K mg base N qual scope f cd A outer s H E).stack:=fun b u q z=>by rw[frN b z] at q;cases q
 have slotB: ∀b o,s2.heap.get? b=some o->b∈frs (IG (CXx P w) P w K mg base N qual scope f cd A outer s H E).stack-> ∃sl,h'.get? b=some {o with slots:=sl}:=fun b o q hb=>by
  obtain⟨o',e',nd⟩:=(fly.mem hb).2
  rw[q] at e';cases e'
  obtain⟨sl,q2⟩:=nt.slot b hb o q
  obtain⟨sl2,q3⟩:=up b {o with slots:=sl} q2 nd
  exact⟨sl2,q3⟩
 have hC0:s.heap.get? C=none:=hC0
 have c0: ∀ {b o},s.heap.get? b=some o->b≠C:=fun{b o} q z=>by rw[z,hC0] at q;cases q
 have c2: ∀ {b},H2 b≠none->b≠C:=fun{b} q z=>q (by rw[z];exact hC2)
 have noSt: ∀b o,s.heap.get? b=some o->b ∉ frs outer->b ∉ frs (IG (CXx P w) P w K mg base N qual scope f cd A outer s H E).stack:=fun b o q hb z=>((fr2 b).mp z).elim (old b o q) hb
 refine⟨ea,cls,a0,H2,B,rfl,(nt.os.trans os).trans I.os,by show GZ s3.gens;rw[nt.gens];exact bare,⟨fun b o q n hb hx=>?_,fun b o q n hb hx=>?_,fun b o q n hx=>?_,fun b o q hx=>?_,fun b xs q=>un.tups b xs (baseU.tups b xs q),fun b o u q=>un.frzs b o u (baseU.frzs b o u q),fun b ps q=>?_⟩,fun b u q=>?_,fl,fun b o q hb hh=>?_,?_,hn,hE⟩
 ·have q1:=baseU.keep b o q n hb hx
  have q2:=un.keep b o q1 (baseU.free b o q n hx) (noSt b o q hb) hx
  exact fl.1 b o (cov b o (c0 q) q2 (noSt b o q hb) (.inr ⟨o,q1⟩))
 ·obtain⟨sl,q1⟩:=baseU.slot b o q n hb hx
  obtain⟨sl2,q2⟩:=un.slot b _ q1 (baseU.free b o q n hx) ((fr2 b).mpr (.inr hb)) hx
  obtain⟨sl3,q3⟩:=slotB b _ q2 ((fr2 b).mpr (.inr hb))
  exact⟨sl3,q3⟩
 ·obtain⟨o1,q1⟩:=baseU.there b o q hx
  exact un.free b o1 q1 (baseU.free b o q n hx) hx
 ·obtain⟨o1,q1⟩:=baseU.there b o q hx
  obtain⟨o2,q2⟩:=un.there b o1 q1 hx
  by_cases hb:b∈frs outer
  ·obtain⟨sl,q3⟩:=slotB b o2 q2 ((fr2 b).mpr (.inr hb))
   exact⟨_,q3⟩
  ·exact⟨o2,fl.1 b o2 (cov b o2 (c0 q) q2 (noSt b o q hb) (.inr ⟨o1,q1⟩))⟩
 ·obtain⟨m1,e1⟩:=baseU.tbls b ps q
  obtain⟨m2,e2⟩:=un.tbls b _ e1
  exact⟨m1++m2,by rw[e2,FC]⟩
 ·refine (hok b u q).stay (fun c v hc r=>?_) (fun _ r=>r) fun _ _ r=>r
  have: ∃u,H2 c=some u:=by
   rcases hc with rfl|hc
   ·exact⟨u,q⟩
   ·exact⟨_,hc⟩
  obtain⟨u',qu⟩:=this
  exact fl.1 c v (cov c v (c2 (by rw[qu];simp)) r (tr c u' qu) (.inl (by rw[qu];simp)))
 ·have: ∃o2,s2.heap.get? b=some o2/\B.get? b=some o2:=by
   rcases hh with hh|⟨o',hh⟩
   ·cases qu:H2 b with
    |none=>exact absurd qu hh
    |some u=>
     obtain⟨o2,q2⟩:=hok.there qu
     exact⟨o2,q2,cov b o2 (c2 hh) q2 (tr b u qu) (.inl hh)⟩
   ·obtain⟨o1,q1⟩:=baseU.there b o' hh (by simp)
    obtain⟨o2,q2⟩:=un.there b o1 q1 (by simp)
    exact⟨o2,q2,cov b o2 (c0 hh) q2 (noSt b o' hh hb) (.inr ⟨o1,q1⟩)⟩
  obtain⟨o2,q2,q3⟩:=this
  have q4:=fl.1 b o2 q3
  rw[q] at q4
  cases q4
  exact q3
 ·cases q:s.heap.get? ea with
  |none=>rfl
  |some o'=>
   obtain⟨o1,q1⟩:=baseU.there ea o' q (by simp)
   rw[new] at q1;cases q1
end
noncomputable def rmC (B:GG)(C:GH):GG:=B.update C fun o=>{o with data:=.freed}
theorem jV (B:GG)(C:GH):(rmC B C).get? C=none:=by
 unfold rmC GG.update GG.get?
 simp only[Array.getElem?_modify,if_true]
 cases B.objs[C]? with
 |none=>rfl
 |some o=>rfl
theorem pq {B:GG}{C b:GH}(h:b≠C):(rmC B C).get? b=B.get? b:=ET _ _ (Ne.symm h)
theorem wq {h h' B:GG}: ∀ {l:List Env},h.FunFrames B l->(∀b∈frs l,∀o,h.get? b=some o->(∀vs,o.data≠.fields vs)-> ∃o',h'.get? b=some o'/\o'.data=o.data)->h'.FunFrames B l
 |[],_,_=>trivial
 |env::r,⟨h1,⟨L,o,h2,h3,h4,h5⟩,h6⟩,k=>by
  obtain⟨o',q,d⟩:=k L (by show L∈(env::r).filterMap (·.frame);rw[Ef,h2];exact Dt) o h4 h5
  refine⟨h1,⟨L,o',h2,h3,q,fun vs=>by rw[d];exact h5 vs⟩,wq h6 fun b hb=>k b ?_⟩
  show b∈(env::r).filterMap (·.frame)
  rw[Ef,h2]
  exact Dz _ hb
theorem rA {h B:GG}{C:GH}: ∀ {l:List Env},h.FunFrames B l->h.FunFrames (rmC B C) l
 |[],_=>trivial
 |env::r,⟨h1,⟨L,o,h2,h3,h4,h5⟩,h6⟩=>⟨h1,⟨L,o,h2,by
  by_cases z:L=C
  ·rw[z];exact jV B C
  ·rw[pq z];exact h3,h4,h5⟩,rA h6⟩
section
variable {X:Cx}{E:XK}{ls:List Str}{scope:GY}{C:GH}{s2:GJ}{H2:Hp}{fp:List GH}{pn:List (GH×GK)}
def cxP (X:Cx)(ls:List Str)(scope:GY)(C:GH)(s2:GJ)(H2:Hp)(fp:List GH)(pn:List (GH×GK)):Cx:={cxC X ls scope C s2 H2 fp with pn:=pn}
def cxX (X:Cx)(ls:List Str)(scope:GY)(C:GH)(s2:GJ)(H2:Hp)(fp:List GH)(E:XK)(pn:List (GH×GK)):Cx:=
 {cxC X ls scope C s2 H2 fp with pn:=pn,xe:=fun e s'=> ∃ (pins:List (GH×GK)) (σ:St) (H:Hp) (s:GJ),Inv (cxP X ls scope C s2 H2 fp pn) pins σ H s/\CXx X.prog X.w X.stack H s E e s'}
theorem qY:b7 (CXx X.prog X.w) (cxX X ls scope C s2 H2 fp E pn) E:=fun pins σ H s e s' I h=>⟨pins,σ,H,s,⟨⟨I.ok.mod,I.ok.kind,I.ok.glob,I.ok.blt,I.ok.above,I.ok.inj,I.ok.has,I.ok.cab,I.ok.hd,I.ok.frames,I.ok.stk,I.ok.exf,I.ok.bs,I.ok.bsz,I.ok.noex,I.ok.exfs,I.ok.funs,I.ok.frf⟩,I.os,I.bare,I.base,I.loc,I.cell,I.free,I.freeC,I.pin,I.hok,I.len⟩,h⟩
theorem yA {σ:St}{H:Hp}{s:GJ}(I:Inv (cxC X ls scope C s2 H2 fp) pn σ H s):Inv (cxX X ls scope C s2 H2 fp E pn) [] σ H s:=
 ⟨⟨I.ok.mod,I.ok.kind,I.ok.glob,I.ok.blt,I.ok.above,I.ok.inj,I.ok.has,I.ok.cab,I.ok.hd,I.ok.frames,I.ok.stk,I.ok.exf,I.ok.bs,I.ok.bsz,I.ok.noex,I.ok.exfs,I.ok.funs,I.ok.frf⟩,I.os,I.bare,I.base,I.loc,I.cell,I.free,I.freeC,fun p hp=>I.pin p (by
   have hp:p∈pn++[]:=hp
   rw[DM] at hp
   exact DW _ hp),I.hok,I.len⟩
theorem yB {σ:St}{H:Hp}{s:GJ}(I:Inv (cxX X ls scope C s2 H2 fp E pn) [] σ H s):Inv (cxC X ls scope C s2 H2 fp) pn σ H s:=
 ⟨⟨I.ok.mod,I.ok.kind,I.ok.glob,I.ok.blt,I.ok.above,I.ok.inj,I.ok.has,I.ok.cab,I.ok.hd,I.ok.frames,I.ok.stk,I.ok.exf,I.ok.bs,I.ok.bsz,I.ok.noex,I.ok.exfs,I.ok.funs,I.ok.frf⟩,I.os,I.bare,I.base,I.loc,I.cell,I.free,I.freeC,fun p hp=>I.pin p (by
   have hp:p∈([]:List (GH×GK))++pn:=hp
   exact Eu _ hp),I.hok,I.len⟩
theorem yC {pins:List (GH×GK)}{σ:St}{H:Hp}{s:GJ}(I:Inv (cxP X ls scope C s2 H2 fp pn) pins σ H s):Inv (cxC X ls scope C s2 H2 fp) (pn++pins) σ H s:=
 ⟨⟨I.ok.mod,I.ok.kind,I.ok.glob,I.ok.blt,I.ok.above,I.ok.inj,I.ok.has,I.ok.cab,I.ok.hd,I.ok.frames,I.ok.stk,I.ok.exf,I.ok.bs,I.ok.bsz,I.ok.noex,I.ok.exfs,I.ok.funs,I.ok.frf⟩,I.os,I.bare,I.base,I.loc,I.cell,I.free,I.freeC,fun p hp=>I.pin p hp,I.hok,I.len⟩
theorem wb {pins pl:List (GH×GK)}{σ σ':St}{H3:Hp}{s':GJ}(I:Inv X pins σ H2 s2)(f2: ∀b∈fp,HX X pins H2 b)(J:Inv (cxC X ls scope C s2 H2 fp) pl σ' H3 s'):Inv X pins σ H3 s':=
 I.call' (ch:=fp) J.os J.base J.hok J.bare fun b hb=>by
  obtain⟨a1,a2,a3,a4,a5,a6⟩:=f2 b hb
  exact⟨a4,a2,a5,a6⟩
theorem xY (e:GC)(cl:List (Str×GH)):noteFrame e (compEnvC scope cl C X.env)=noteFrame e X.env:=rfl
theorem xX {pins:List (GH×GK)}{σ:St}{use:Option (GC->Sem Unit)}{QQ:GC->GJ->Prop}{acc:GC}{cl:List (Str×GH)}{ev:GC}{s8:GJ}(I2:Inv X pins σ H2 s2)(f2: ∀b∈fp,HX X pins H2 b)(hC:s2.heap.objs.size<=C)(hT:iF X E)(hst: ∃o L,X.stack=X.env::o/\X.env.frame=some L)
  (hx:(cxX X ls scope C s2 H2 fp E pn).xe ev s8):notedBy (GO X.prog X.w) X.A (compEnvC scope cl C X.env) (fun e s'=>compPost (GO X.prog X.w) X.A X.xe use QQ acc C (.error e) s') ev s8:=by
 obtain⟨pins',σ',H',s9,J,ea,cls,a0,H3,B,rfl,os,bare,un,hok,fly,cov,new,hn,hE⟩:=hx
 have J:=yC J
 have IX:=wb I2 f2 J
 obtain⟨o',L,est,efr⟩:=hst
 have frC:C ∉ frs X.stack:=fun z=>by
  obtain⟨o,q,_⟩:=I2.frame_obj z
  exact absurd (Dn q) (Nat.not_lt.mpr hC)
 obtain⟨m,hm,_⟩:=J.loc
 have hm:s9.heap.Ns C m:=hm
 have fC:H' C=none:=J.free
 have nC:s8.heap.Ns C m:=by
  obtain⟨o,es,ep,q,r⟩:=hm
  exact⟨o,es,ep,un.keep C o q fC frC (by simp),r⟩
 have fC3:H3 C=none:=by
  obtain⟨o,es,ep,q,r⟩:=hm
  exact un.free C o q fC (by simp)
 have c0:X.s₀.heap.get? C=none:=by
  cases q:X.s₀.heap.get? C with
  |none=>rfl
  |some o=>
   exact absurd (Dn q) (Nat.not_lt.mpr (Dy (Dy I2.ok.above (EN I2.lt)) hC))
 show GN _ _ (noteFrame (.ref ea) (compEnvC scope cl C X.env)) _ _ s8
 rw[xY]
 refine wpAny_looks_onW (env:=X.env) (outer:=o') (L:=L) (by rw[<-est];exact I2.ok.frames) efr (by rw[<-est];exact fly) fun h3 held up=>?_
 rw[<-est] at held
 obtain⟨k1,k2,k3,oe,vs,T,oT,ts,e1,e2,e3,e4,e5,e6,e7,e8,e9⟩:=held
 have n3:h3.Ns C m:=up.ns nC
 have noF: ∀ {b o ws},h3.get? b=some o->o.data=.fields ws->b≠C:=fun{b o ws} q d z=>by
  obtain⟨oc,es,ep,qc,dc,_⟩:=n3
  rw[z,qc] at q
  cases q
  rw[dc] at d
  cases d
 refine⟨m,n3,fun h4 sb cenv _=>?_⟩
 have oth: ∀b o,b≠C->h3.get? b=some o->h4.get? b=some o:=fun b o hb q=>sb.extBut b o hb q
 have q1:=oth ea oe (noF e1 e3) e1
 have q2:=oth T oT (noF e7 e8) e7
 unfold PySem.passOn
 refine GP (Hu q1 e3 e4 ?_)
 rw[if_neg (show¬((GC.ref T==GC.none)=true) from by simp)]
 refine GP (m:=setFlight (.ref ea) cenv.frame) ?_
 unfold setFlight
 refine GP (Hu q1 e3 e4 ?_)
 rw[if_pos (show (GC.ref T !=GC.none)=true from by simp)]
 refine wpAny_setField q2 e8 (Fp.mp e9).1 (wpAny_throw ?_)
 have oT5: ∀b o,b≠T->h4.get? b=some o->(h4.update T (GK.mapFields (·.setIfInBounds 3 (cenv.frame.elim GC.none fun f=>Hg f)))).get? b=some o:=fun b o hb q=>by rw[ET _ _ (Ne.symm hb)];exact q
 have frm: ∀b∈frs X.stack,b≠C:=fun b hb z=>frC (z▸hb)
 refine hT pins σ H' H3 s9 s8 _ ea C cls a0 (rmC B C) c0 fC3 IX os bare un hok (rA fly.2.2.1) (fun b o hb q h5 h6=>by rw[pq hb];exact cov b o q h5 h6) new hn hE ⟨rfl,rfl,⟨fun b o q=>?_,?_,rA ?_,cenv.frame.elim GC.none (fun f=>Hg f),?_⟩,fun b hb o q=>?_⟩
 ·have z:b≠C:=fun z=>by rw[z,jV] at q;cases q
  rw[pq z] at q
  exact oT5 b o (fun z=>by rw[z,e5] at q;cases q) (oth b o z (k1 b o q))
 ·by_cases z:ea=C
  ·rw[z];exact jV B C
  ·rw[pq z];exact k2
 ·refine wq k3 fun b hb o q nf=>?_
  exact⟨o,oT5 b o (fun z=>by rw[z,e7] at q;cases q;exact nf ts e8) (oth b o (frm b hb) q),rfl⟩
 ·refine⟨oe,vs,T,_,_,oT5 ea oe (Ne.symm e6) q1,e2,e3,e4,?_,e6,F8 _ q2 (GK.isFreed_of_fields (GK.data_mapFields e8 _)),GK.data_mapFields e8 _,?_⟩
  ·by_cases z:T=C
   ·rw[z];exact jV B C
   ·rw[pq z];exact e5
  ·have:=(Fp.mp e9).1
   simp [this]
 ·obtain⟨o2,q2',nf⟩:=(fly.2.2.1.mem hb).2
  rw[q] at q2'
  cases q2'
  obtain⟨sl,q3⟩:=up b o q nf
  exact⟨sl,oT5 b _ (fun z=>by rw[z,e7] at q3;cases q3;exact nf ts e8) (oth b _ (frm b hb) q3)⟩
end
section
variable {X:Cx}{E:XK}{elt iter tg:Expr}{ifs:List Expr}{scope:GY}{pos:G1}{ls:List Str}{wi:TI}{g:TG}{tt:TT}{te:TE}
theorem rF {use:Option (GC->Sem Unit)}{pins:List (GH×GK)}{s:GJ}{σ:St}{H:Hp}{Q:VK}{QQ:GC->GJ->Prop}{pos':G1}(hcalm:X.calm=true)(S:CScope X ls scope)(hi:PI X tg iter wi)
  (hg: ∀C s2 H2 fp,PG (cxC X ls scope C s2 H2 fp) tg g)(ht: ∀C s2 H2 fp,Ia (cxC X ls scope C s2 H2 fp) ifs tt)(he: ∀C s2 H2 fp pn,PE (cxX X ls scope C s2 H2 fp E pn) elt te)(hT:iF X E)(hst: ∃o L,X.stack=X.env::o/\X.env.frame=some L)
  (hs: ∀x,Hh iter X.env x=pure x)(I:Inv X pins σ H s)(h:MV X.N ls wi g tt te σ H Q)
  (hQQ: ∀ (D C:GH) (s':GJ) (H':Hp),(∃m,s'.heap.Ns C m)->HX X pins H' C->(∀h',En C s'.heap h'->Inv X pins σ H' {s' with heap:=h'})->Q (.ref D) H'->compPost (GO X.prog X.w) X.A X.xe use QQ (.ref D) C (.ok .next) s'):
  GN (GO X.prog X.w) X.A (comprehension (.ListComp elt [⟨tg,iter,ifs,0⟩] scope pos) scope X.env pos' (newList []) false (G0 iter X.env) use) QQ X.xe s:=by
 obtain⟨hh,h⟩:=h
 have cf: ∀p∈scope.names,p.2=.free-> ∃c,X.env.cells.lookup p.1=some c:=fun p hp e=>I.ok.has _ (S.free p hp e)
 refine wpAny_comprehension_free (use:=use) rfl hs (lE cf) S.kind S.names (thn (hi pins s σ H _ I h) fun v s1 h1=>thn h1 fun itv s2 h2=>?_)
 obtain⟨it,fp,tn,J,H2,rfl,I2,T,st2,f2,W,⟨m0,w0⟩,turn⟩:=h2
 refine Hv (wpAny_newFunctionEnv S.nocell (by intro y hy;simp at hy) (fun h₁ hns₁ hsb₁=>?_) S.kind)
 dsimp only at hns₁ hsb₁ ⊢
 generalize hH2:s2.heap.push {cls:=.type "list",dict:=none,data:=.seq ([]:List GC).toArray}=G2 at hns₁ hsb₁ ⊢
 have hC:G2.objs.size=s2.heap.objs.size+1:=by rw[<-hH2,Fb]
 have hDC:s2.heap.objs.size≠G2.objs.size:=by rw[hC];exact Dw (Fc _)
 have hCle:s2.heap.objs.size<=G2.objs.size:=by rw[hC];exact Fe _
 have old: ∀b o,s2.heap.get? b=some o->h₁.get? b=some o:=fun b o e=>hsb₁.extBut b o (Dw (Dv (Dn e) hCle)) (DF _ (hH2▸DF _ e))
 have hacc:h₁.get? s2.heap.objs.size=some {cls:=.type "list",data:=.seq ([]:List GC).toArray}:=hsb₁.extBut _ _ hDC (DF _ (hH2▸D0 _ rfl))
 have hobj: ∀b∈fp,∃o,s2.heap.get? b=some o:=fun b hb=>let ⟨o,e,_⟩:=T.obj 0 _ st2 b hb;⟨o,e⟩
 have ltf: ∀b∈fp,b<s2.heap.objs.size:=fun b hb=>let ⟨o,e⟩:=hobj b hb;Dn e
 have nofD:s2.heap.objs.size ∉ (cxC X ls scope G2.objs.size s2 H2 fp).fs:=fun z=>by
  rcases Dp.mp (I2.stkSub _ z) with z|z
  ·exact absurd I2.lt (by rw[<-z];exact Em _)
  ·exact I2.nofs (Dl _) z
 have st1:tn 0 h₁:=T.keep 0 _ _ st2 fun b _ o e=>old b o e
 have J0: ∀tk,Inv (cxC X ls scope G2.objs.size s2 H2 fp) [] (List.replicate ls.length none++σ) H2 {s2 with heap:=h₁,toks:=tk}:=fun tk=>mQ I2 S hh f2 hobj hCle hns₁ old
 have fpY: ∀ (Hx:Hp) (pl:List (GH×GK)),(∀b∈fp,Hx b=none)->(∀p∈pl,s2.heap.objs.size<=p.1)-> ∀b∈fp,HX (cxC X ls scope G2.objs.size s2 H2 fp) pl Hx b:=fun Hx pl hx hp b hb=>
  ⟨hx b hb,((J0 0).ok.exf b hb).1,(J0 0).ok.exfs b hb,.inl hb,((J0 0).ok.exf b hb).2,fun p hpp=>by
   have hpp:p∈pl:=by simpa [cxC] using hpp
   exact FD (Dv (ltf b hb) (hp p hpp))⟩
 have loop: ∀s₃:GJ,s₃={s2 with heap:=h₁,toks:=s2.toks+([]:List (Str×GC)).length}->
   codeAny (GO X.prog X.w) X.A (.compLoop (.ListComp elt [⟨tg,iter,ifs,0⟩] scope pos) 0 (.ref it) (.ref s2.heap.objs.size) (compEnvC scope (Iz scope X.env) G2.objs.size X.env))
    (compPost (GO X.prog X.w) X.A X.xe use QQ (.ref s2.heap.objs.size) G2.objs.size) s₃:=by
  rintro s₃ rfl
  refine eF (fun n s'=> ∃ (i:Nat) (ys:List V) (its:List GC) (k:Nat) (H':Hp),Inv (cxC X ls scope G2.objs.size s2 H2 fp) [] (List.replicate ls.length none++σ) H' s'/\tn i s'.heap/\(∀b∈fp,H' b=none)/\H' s2.heap.objs.size=none/\
   s'.heap.get? s2.heap.objs.size=some {cls:=.type "list",data:=.seq its.toArray k}/\Vals ys its/\ys.length<=sizeLine/\W i n ys H') ?_ m0
   ⟨0,[],[],0,H2,J0 _,st1,fun b hb=>(f2 b hb).1,I2.hok.fresh (Dl _),hacc,.nil,DB _,w0⟩
  rintro n s3 ⟨i,ys,its,k,H3,I3,st3,fr3,d3,e3,r3,z3,w3⟩
  have big: ∀p∈[((s2.heap.objs.size:GH),({cls:=.type "list",data:=.seq its.toArray k}:GK))],s2.heap.objs.size<=p.1:=fun p hp=>by
   have this:=DI.mp hp
   subst this
   exact Dl _
  rcases turn i n ys H3 w3 with⟨stop,qn⟩|⟨go,R,hR,step⟩
  ·
   have P3:Inv (cxC X ls scope G2.objs.size s2 H2 fp) [(s2.heap.objs.size,{cls:=.type "list",data:=.seq its.toArray k})] (List.replicate ls.length none++σ) H3 s3:=I3.pins_of fun p hp=>by
    have this:=DI.mp hp
    subst this
    exact⟨e3,d3,hDC,nofD,fun v z=>by cases z⟩
   refine thx (T.done (cxC X ls scope G2.objs.size s2 H2 fp) rfl rfl rfl hcalm i _ s3 _ H3 (fun _ _=>False) P3 (fpY H3 _ fr3 big) st3 stop) fun r s4 qz=>?_
   obtain⟨hr,I4⟩:=qz
   subst hr
   obtain⟨m,hm,_⟩:=I4.loc
   have e4:=(I4.pin _ (DW _ (DI.mpr rfl))).1
   exact hQQ _ _ s4 _ ⟨m,hm⟩ (I2.fpOk hCle (by rw[ap (Ne.symm hDC)];exact I4.free)) (fun h' sb=>pV I2 f2 I4 (Dl _) hCle hDC sb d3 e4 r3 z3) (qn _ d3)
  ·
   have P3:Inv (cxC X ls scope G2.objs.size s2 H2 fp) [(s2.heap.objs.size,{cls:=.type "list",data:=.seq its.toArray k})] (List.replicate ls.length none++σ) H3 s3:=I3.pins_of fun p hp=>by
    have this:=DI.mp hp
    subst this
    exact⟨e3,d3,hDC,nofD,fun v z=>by cases z⟩
   refine thx (T.item (cxC X ls scope G2.objs.size s2 H2 fp) rfl rfl rfl hcalm i _ s3 _ H3 (fun _ _=>False) P3 (fpY H3 _ fr3 big) st3 go) fun r s4 qz=>?_
   obtain⟨u,hr,h4⟩:=qz
   subst hr
   refine thx h4 fun _ s5 qz=>?_
   obtain⟨x,H5,I5,r5,y5,st5,fr5⟩:=qz
   have I5':=I5.pinned (fpY H5 _ fr5 big) (T.obj _ _ st5)
   refine thx (hg _ _ _ _ _ s5 _ H5 x u _ I5' r5 (step x H5 y5)) fun _ s6 qz=>?_
   obtain⟨σ6,H6,I6,q6⟩:=qz
   obtain⟨dr,ln,q6⟩:=q6
   have back: ∀ {s7:GJ}{H7:Hp},Inv (cxC X ls scope G2.objs.size s2 H2 fp) ([((s2.heap.objs.size:GH),({cls:=.type "list",data:=.seq its.toArray k}:GK))]++ju fp s5.heap) σ6 H7 s7->
     Inv (cxC X ls scope G2.objs.size s2 H2 fp) [] (List.replicate ls.length none++σ) H7 s7/\tn (i+1) s7.heap/\(∀b∈fp,H7 b=none)/\H7 s2.heap.objs.size=none/\s7.heap.get? s2.heap.objs.size=some {cls:=.type "list",data:=.seq its.toArray k}:=fun{s7 H7} I7=>by
    have pD:=I7.pin _ (DW _ (Eu _ (DI.mpr rfl)))
    have pF: ∀b∈fp,∀o,s5.heap.get? b=some o->s7.heap.get? b=some o/\H7 b=none:=fun b hb o e=>by
     have q:=I7.pin (b,o) (DW _ (DW _ (gy hb e)))
     exact⟨q.1,q.2.1⟩
    refine⟨(I7.pins_of (pins':=[]) fun p hp=>absurd hp (by simp)).weak ?_ ?_,T.keep _ _ _ st5 fun b hb o e=>(pF b hb o e).1,fun b hb=>?_,pD.2.1,pD.1⟩
    ·rw[ln,Dk,Ej]
    ·intro j v ej
     by_cases hj:j<ls.length
     ·rw[DS (by simpa using hj),Fg,if_pos hj] at ej
      cases ej
     ·rw[Ei (by simpa using hj),Ej,<-dr,Fi] at ej
      rw[<-ej]
      congr 1
      omega
    ·obtain⟨o,e,_⟩:=T.obj _ _ st5 b hb
     exact (pF b hb o e).2
   refine thx (ht _ _ _ _ _ s6 σ6 H6 _ I6 q6) fun b s7 qz=>?_
   obtain⟨H7,I7,q7⟩:=qz
   cases b with
   |false=>
    rw[if_neg Ds] at q7 ⊢
    obtain⟨m',hm,w7⟩:=hR _ _ q7
    obtain⟨a1,a2,a3,a4,a5⟩:=back I7
    exact⟨m',hm,i+1,ys,its,k,H7,a1,a2,a3,a4,a5,r3,z3,w7⟩
   |true=>
    rw[if_pos rfl] at q7 ⊢
    refine G6 (he _ _ _ _ _ [] s7 σ6 H7 _ (yA I7) q7) (fun y s8 hy=>?_) fun ev s8 hx=>xX I2 f2 hCle hT hst hx
    obtain⟨v,H8,I8,r8,z8,q8⟩:=hy
    have I8:=yB I8
    obtain⟨m',hm,w8⟩:=hR _ _ q8
    obtain⟨a1,a2,a3,a4,a5⟩:=back I8
    have pl:s8.heap.PlainList s2.heap.objs.size its.toArray:=⟨k,a5⟩
    refine wpAny_list_append_plain (hsz:=by rw[Du,<-r3.length];exact z3) pl fun h9 hl9 hs9=>?_
    obtain⟨k9,e9⟩:=hl9
    have cellN: ∀ (y:Str) (c:GH),(cxC X ls scope G2.objs.size s2 H2 fp).env.cells.lookup y=some c->c≠s2.heap.objs.size:=fun y c e=>by
     have e1:X.env.cells.lookup y=some c:=i8 X.env scope.names [] cf (fun y a e=>by simp at e) y c e
     obtain⟨v,o,ho,_⟩:=I2.cell y c e1
     exact Dw (Dn ho)
    have I9:Inv (cxC X ls scope G2.objs.size s2 H2 fp) [] (List.replicate ls.length none++σ) H8 {s8 with heap:=h9}:=
     a1.turned (t':=s8.toks) (fun b o hb e=>hs9.extBut b o hb e) a4 hDC (.inr (Dl _)) cellN (fun p hp=>absurd (show p∈([]:List (GH×GK)) from hp) (by simp))
    refine⟨m',hm,i+1,ys++[v],its++[y],k9,H8,I9,T.keep _ _ _ a2 fun b hb o e=>hs9.extBut b o (Dw (ltf b hb)) e,a3,a4,?_,r3.append (.cons r8 .nil),?_,w8⟩
    ·simpa using e9
    ·rw[Dk,DP];exact z8
 exact codeAny_compStart_list (loop _ rfl) (T.self _ 0 _ _ _ st1 (loop _ rfl))
theorem vg (hcalm:X.calm=true)(S:CScope X ls scope)(hi:PI X tg iter wi)
  (hg: ∀C s2 H2 fp,PG (cxC X ls scope C s2 H2 fp) tg g)(ht: ∀C s2 H2 fp,Ia (cxC X ls scope C s2 H2 fp) ifs tt)(he: ∀C s2 H2 fp pn,PE (cxX X ls scope C s2 H2 fp E pn) elt te)(hT:iF X E)(hst: ∃o L,X.stack=X.env::o/\X.env.frame=some L)
  (hs: ∀x,Hh iter X.env x=pure x:=by intro _;rfl):PE X (.ListComp elt [⟨tg,iter,ifs,0⟩] scope pos) (MV X.N ls wi g tt te):=by
 intro pins s σ H Q I h
 rw[eval_ListComp]
 refine rF (use:=none) hcalm S hi hg ht he hT hst hs I h fun D C s' H' hm _ hI q=>?_
 obtain⟨m,hm⟩:=hm
 exact⟨m,hm,fun h' sb=>⟨.ref D,H',hI h' sb,rfl,q⟩⟩
end
section
variable {X:Cx}{E:XK}{elt iter tg:Expr}{ifs:List Expr}{scope:GY}{pos:G1}{ls:List Str}{src:HU->M Sr}{gT:TG}{t:W->HU->Option HU}{f:HU->M Bool}{e:HU->M W}{hs:List Nat}
theorem pI (hcalm:X.calm=true)(S:CScope X ls scope)(hi:JI X E tg iter src)(hg: ∀C s2 H2 fp,PG (cxC X ls scope C s2 H2 fp) tg gT)(ht:Ii X.K ls.length gT t)
  (hf: ∀C s2 H2 fp,JQ (cxC X ls scope C s2 H2 fp) E ifs f)(he: ∀C s2 H2 fp pn,JE (cxX X ls scope C s2 H2 fp E pn) E elt e)(hT:iF X E)(hst: ∃o L,X.stack=X.env::o/\X.env.frame=some L)
  (hs': ∀x,Hh iter X.env x=pure x:=by intro _;rfl):JF X E (.ListComp elt [⟨tg,iter,ifs,0⟩] scope pos) (Kv hs src t f e ls.length):=
 (vg hcalm S hi.h hg (fun C s2 H2 fp=>(hf C s2 H2 fp).h) (fun C s2 H2 fp pn=>(he C s2 H2 fp pn).h) hT hst hs').impF fun σ H Q h=>jS ht h
end
end L2
namespace L2
open PySem PySem.Spec PyProof.Rows
section
variable {P:GE}{w:GF}{K:PySem.W.Frag}{mg:Str->Option GC}{base:GG}{f:GH}{fd:Hn}{ps:List Str}{k:Nat}{sp:Sp}
theorem Bk (F:FnOk P w K mg base CX0 k f fd ps sp):FnOk P w K mg base (CXx P w) k f fd ps sp:=
 ⟨F.len,fun A outer s H args us vs Q E hr he hb hv hs=>Ho (F.run A outer s H args us vs Q E hr he hb hv hs) fun r s' h=>by
  cases r with
  |ok x=>cases x<;>exact h
  |error x=>exact h.elim⟩
end
section
variable (P:GE)(w:GF)(K:PySem.W.Frag)(mg:Str->Option GC)(base:GG)(k:Nat)(C:GH)(x:Str)(m:Nat)(fn:List W->M W)
noncomputable def Cqx:Prop:= ∃a d ps,CGx P w K mg base k x a d ps m fn
noncomputable def HN:Prop:= ∃a d ps,HI P w K mg base k C x a d ps m fn
def Gx:Prop:= ∃C,mg x=some (.ref C)/\excIn K C Ip "ValueError.__new__"=true
end
section
variable {P:GE}{w:GF}{K:PySem.W.Frag}{mg:Str->Option GC}{base:GG}{x q:Str}{st:G5}{C:GH}{k:Nat}{fn:List W->M W}{g:HU->M Fl}
theorem rE (h:Cq P w K mg base k x m fn)(hn: ∀ws h y h',fn ws h≠.ex y h'):Cqx P w K mg base k x m fn:=by
 obtain⟨a,d,ps,c⟩:=h
 exact⟨a,d,ps,Dg c hn (Bk c.ok)⟩
theorem okqzx (N:List Str)(m:Nat)(D:Dq K mg x st)(h:∀ws h,fn ws h=.bad)(hi: ∀ (kV doc pm:GC) (an:Option GH) (cdv ct:GC) (us:List GC),us.length=(N.take m).length->bindArgs (fnOf x x (cT st) (br st) (ae st) .none kV doc pm an cdv ct) ⟨us,[]⟩=pure ((N.take m).zip us):=by intro _ _ _ _ _ _ us hl;first|(obtain⟨_,rfl⟩:=ln1 hl;rfl)|(obtain⟨_,_,rfl⟩:=ln2 hl;rfl)|(obtain⟨_,_,_,rfl⟩:=ln3 hl;rfl)):Cqx P w K mg base k x m fn:=
 rE (K6 N m D h hi) fun ws h' y h2 e=>by rw[h] at e;cases e
structure Bx (X:Cx)(E:XK):Prop where
 p:b7 (CXx X.prog X.w) X E
 r:ji X E
 t:iF X E
 s: ∃o L,X.stack=X.env::o/\X.env.frame=some L
theorem K5 (N:List Str)(m:Nat)(D:Dq K mg x st)(hb: ∀ (f:GH) (cdv:GC) (A:GL) (outer:List Env) (s:GJ) (H:Hp) (E:XK),Room k (A.deeper (Ht x (ae st) s.heap.objs.size f cdv))->(A.deeper (Ht x (ae st) s.heap.objs.size f cdv)).units+1<GM->(A.deeper (Ht x (ae st) s.heap.objs.size f cdv)).units+64<GM->N.Nodup->Bx (IG (CXx P w) P w K mg base N x (ae st) f cdv A outer s H E) E->JSs (IG (CXx P w) P w K mg base N x (ae st) f cdv A outer s H E) E (br st) g)
  (S:HW N (N.take m) (ae st):=by exact⟨rfl,rfl,rfl,by decide+kernel,rfl,by decide+kernel,by decide+kernel⟩)(hm:(N.take m).length=m:=by rfl)(hf:fn=LK N.length g:=by rfl)(hi: ∀ (kV doc pm:GC) (an:Option GH) (cdv ct:GC) (us:List GC),us.length=(N.take m).length->bindArgs (fnOf x x (cT st) (br st) (ae st) .none kV doc pm an cdv ct) ⟨us,[]⟩=pure ((N.take m).zip us):=by intro _ _ _ _ _ _ us hl;first|(obtain⟨_,rfl⟩:=ln1 hl;rfl)|(obtain⟨_,_,rfl⟩:=ln2 hl;rfl)|(obtain⟨_,_,_,rfl⟩:=ln3 hl;rfl)|(obtain⟨_,_,_,_,rfl⟩:=ln4 hl;rfl)|(obtain⟨_,_,_,_,_,rfl⟩:=ln5 hl;rfl)):Cqx P w K mg base (k+1) x m fn:=by
 obtain⟨f,_,F,M⟩:=D
 exact⟨_,_,_,⟨wI (g:=g) F S rfl hm hf fun cdv A outer s H E hr=>hb f cdv A outer s H E hr (wf hr) hr.units S.nd ⟨dy,eC,mG,_,_,rfl,rfl⟩,F.binds hi,F.kp,M⟩⟩
theorem K4 (N:List Str)(m:Nat)(D:Dqm K x C q st)(hb: ∀ (f:GH) (cdv:GC) (A:GL) (outer:List Env) (s:GJ) (H:Hp) (E:XK),Room k (A.deeper (Ht q (ae st) s.heap.objs.size f cdv))->(A.deeper (Ht q (ae st) s.heap.objs.size f cdv)).units+1<GM->(A.deeper (Ht q (ae st) s.heap.objs.size f cdv)).units+64<GM->N.Nodup->Bx (IG (CXx P w) P w K mg base N q (ae st) f cdv A outer s H E) E->JSs (IG (CXx P w) P w K mg base N q (ae st) f cdv A outer s H E) E (br st) g)
  (S:HW N (N.take m) (ae st):=by exact⟨rfl,rfl,rfl,by decide+kernel,rfl,by decide+kernel,by decide+kernel⟩)(hm:(N.take m).length=m:=by rfl)(hf:fn=LK N.length g:=by rfl)(hi: ∀ (kV doc pm:GC) (an:Option GH) (cdv ct:GC) (us:List GC),us.length=(N.take m).length->bindArgs (fnOf x q (cT st) (br st) (ae st) .none kV doc pm an cdv ct) ⟨us,[]⟩=pure ((N.take m).zip us):=by intro _ _ _ _ _ _ us hl;first|(obtain⟨_,rfl⟩:=ln1 hl;rfl)|(obtain⟨_,_,rfl⟩:=ln2 hl;rfl)|(obtain⟨_,_,_,rfl⟩:=ln3 hl;rfl)|(obtain⟨_,_,_,_,rfl⟩:=ln4 hl;rfl)|(obtain⟨_,_,_,_,_,rfl⟩:=ln5 hl;rfl)):HN P w K mg base (k+1) C x m fn:=by
 obtain⟨f,_,F,M⟩:=D
 exact⟨_,_,_,⟨wI (g:=g) F S rfl hm hf fun cdv A outer s H E hr=>hb f cdv A outer s H E hr (wf hr) hr.units S.nd ⟨dy,eC,mG,_,_,rfl,rfl⟩,F.binds hi,M⟩⟩
end
section
variable {X:Cx}{E:XK}{x c:Str}{C:GH}{k m:Nat}{f:List W->M W}{p pos apos cpos np:G1}{e a o:Expr}{es:List Expr}{l:HU->M (List W)}{fo:HU->M W}
variable {fA:GH}{fd:Hn}{ps:List Str}{n:Nat}{fn:List W->M W}
theorem vW {pl:Sem Bool}(hn:GA X.K GW c=some (some (.ref C)))(cl:Cls X.K C)(F:HI X.prog X.w X.K X.mg X.base k C x fA fd ps n fn)(hP:b7 (CXx X.prog X.w) X E)(hr:Room k X.A)(ho:JE X E o fo)
  (ht:G0 (.Call (.Attribute o x apos) [] [] pos) X.env=(do
   let ov<-G0 o X.env
   G9 apos.atName
   let (f,first)<-Ha [ov] (Hj ov x pl)
   callWith pos f first (G3 pos (G4 [] X.env)) (Hl pos (Hm [] X.env))):=by rfl):
  JE X E (.Call (.Attribute o x apos) [] [] pos) (Ky c x n fn fo KB):=(eU ho.h cl F.me F.ok hr F.bi .nil hP ht).imp fun σ H Q h=>by
 obtain⟨w,ρ,rfl,R,S,h⟩:=h
 refine⟨w,ρ,rfl,R,S,Ps.bd h fun p x vx e1 R1 r1 h1=>?_⟩
 obtain⟨a,dx,fs,rfl,q1,q2,h1⟩:=wa hn R1 r1 h1
 have h1:Ps (cg X E) (Rv X.K) p (arW n fn [x] p.h) Q:=h1
 unfold arW at h1
 by_cases z:([x]:List W).length=n
 ·rw[if_pos z] at h1
  exact⟨a,dx,fs,rfl,q1,q2,p,[x],rfl,z,R1,by first|(rw[DM];exact Rvs.cons r1 Rvs.nil)|exact Rvs.cons r1 Rvs.nil,h1⟩
 ·rw[if_neg z] at h1
  exact h1.elim
theorem tX {p0:G1}(M:Mk X.K C fA)(hn:GA X.K GW c=some (some (.ref C)))(F:FnOk X.prog X.w X.K X.mg X.base (CXx X.prog X.w) k fA fd ps (spX X.K X.mg n fn))(hP:b7 (CXx X.prog X.w) X E)(hb:Binds X.K fd ps [])(hr:Room (k+1) X.A)(hm:X.mg c=some (.ref C))(hg:Gl X c:=by rfl)
  (hdb:(c==("__debug__":Str))=false:=by decide):JE X E (.Call (.Name c p0) [] [] pos) (Kx c n fn KB):=(vf M F hr hg hm hb .nil hP hdb).imp fun σ H Q h=>by
 obtain⟨p,ρ,rfl,R1,S,h⟩:=h
 intro x dx hx hdx hne
 have X1:Ex p ⟨p.mu,p.h,upd p.H dx (.own x)⟩:=Ex.new hdx
 have N1:Rel X.K ⟨p.mu,p.h,upd p.H dx (.own x)⟩:=R1.new hdx
 have hx1:(⟨p.mu,p.h,upd p.H dx (.own x)⟩:Wo).H x=none:=by
  show upd p.H dx (.own x) x=none
  rw[ap (Ne.symm hne)];exact hx
 have X2:Ex ⟨p.mu,p.h,upd p.H dx (.own x)⟩ (Wo.add ⟨p.mu,p.h,upd p.H dx (.own x)⟩ x (.ins c [] []) (.ins C dx [])):=Ex.add hx1
 have N2:Rel X.K (Wo.add ⟨p.mu,p.h,upd p.H dx (.own x)⟩ x (.ins c [] []) (.ins C dx [])):=N1.add hx1 ⟨C,dx,[],hn,aC,rfl,Rvs.nil⟩
 have h1:Ps (cg X E) (Rv X.K) p (match arW n fn [.loc p.h.length] (p.h++[.ins c [] []]) with
  |.ok .non h'=>.ok (.loc p.h.length) h'
  |_=>.bad) Q:=h
 by_cases z:([W.loc p.h.length]:List W).length=n
 ·rw[wX z] at h1
  refine⟨Wo.add ⟨p.mu,p.h,upd p.H dx (.own x)⟩ x (.ins c [] []) (.ins C dx []),[.loc p.h.length],rfl,z,N2,?_,?_⟩
  ·exact Rvs.cons Rv.addLocI Rvs.nil
  ·show Ps ⟨X.K,X.mg,E⟩ (Rv X.K) _ (fn [.loc p.h.length] (p.h++[.ins c [] []])) _
   cases ef:fn [.loc p.h.length] (p.h++[.ins c [] []]) with
   |ok a h'=>
    rw[ef] at h1
    cases a with
    |non=>
     intro p' b hp X3 R3 rb
     refine⟨LO.mp rb,Ps.at (p:=p') h1 hp ((X1.trans X2).trans X3) R3 ?_⟩
     have lt:p.h.length<(Wo.add ⟨p.mu,p.h,upd p.H dx (.own x)⟩ x (.ins c [] []) (.ins C dx [])).h.length:=by show _<(p.h++[_]).length;simp
     unfold Rv
     refine⟨Dv lt X3.le,?_⟩
     rw[X3.mu _ lt]
     show V.ref x=V.ref (if p.h.length=p.h.length then x else p.mu p.h.length)
     rw[if_pos rfl]
    |_=>exact h1.elim
   |ex y h'=>rw[ef] at h1;exact h1.elim
   |bad=>rw[ef] at h1;exact h1.elim
 ·have:arW n fn [.loc p.h.length]=no:=if_neg z
  rw[this] at h1
  exact h1.elim
def Crx (X:Cx)(E:XK)(x:Str)(m:Nat)(f:List W->M W):Prop:=b7 (CXx X.prog X.w) X E/\ ∃k a d ps,CGx X.prog X.w X.K X.mg X.base k x a d ps m f/\Room k X.A
def Csx (X:Cx)(E:XK)(c x:Str)(m:Nat)(f:List W->M W):Prop:=b7 (CXx X.prog X.w) X E/\ ∃C k a d ps,GA X.K GW c=some (some (.ref C))/\Cls X.K C/\HI X.prog X.w X.K X.mg X.base k C x a d ps m f/\Room k X.A
theorem crx (hP:b7 (CXx X.prog X.w) X E)(h:Cqx X.prog X.w X.K X.mg X.base k x m f)(r:Room k X.A):Crx X E x m f:=⟨hP,h.elim fun a ⟨d,ps,h⟩=>⟨k,a,d,ps,h,r⟩⟩
theorem csx (hP:b7 (CXx X.prog X.w) X E)(h:HN X.prog X.w X.K X.mg X.base k C x m f)(n:GA X.K GW c=some (some (.ref C)))(l:Cls X.K C)(r:Room k X.A):Csx X E c x m f:=⟨hP,h.elim fun a ⟨d,ps,h⟩=>⟨C,k,a,d,ps,n,l,h,r⟩⟩
theorem Co (h:Crx X E x m f)(ha:JA X E (e::es) l)(he:(e::es).all nst=true)(hg:Gl X x:=by rfl)(hdb:(x==("__debug__":Str))=false:=by decide):JE X E (.Call (.Name x p) (e::es) [] pos) (Ku (arW m f) l):=by
 obtain⟨hP,_,_,_,_,h,hr⟩:=h
 rw[Es,Dx] at he
 exact Cj h hP hr ha hg hdb (sY he.1) (xW he.2)
theorem Cd {pl:Sem Bool}(h:Csx X E c x m f)(ho:JE X E o fo)(ha:JA X E (e::es) l)
  (hst:G4 (e::es) X.env=(false,G0 e X.env)::G4 es X.env:=by rfl)(hpl:(G3 pos (G4 es X.env)).any (·.1)=false:=by rfl)
  (ht:G0 (.Call (.Attribute o x apos) (e::es) [] pos) X.env=(do
   let ov<-G0 o X.env
   G9 apos.atName
   let (f,first)<-Ha [ov] (Hj ov x pl)
   callWith pos f first (G3 pos (G4 (e::es) X.env)) (Hl pos (Hm [] X.env))):=by rfl):
  JE X E (.Call (.Attribute o x apos) (e::es) [] pos) (Ky c x m f fo l):=by
 obtain⟨hP,_,_,_,_,_,n,cl,h,hr⟩:=h
 exact yn n cl h hP hr ho ha hst hpl ht
theorem B8 (hX:ji X E)(hc:X.calm=true)(h:Gx X.K X.mg x)(ha:JA X E (a::es) l)(he:(a::es).all nst=true)(hg:Gl X x:=by rfl)(hd:(x==("__debug__":Str))=false:=by decide):JS X E (.Raise (some (.Call (.Name x np) (a::es) [] cpos)) none pos) (bY x l):=by
 obtain⟨C,hm,q⟩:=h
 rw[Es,Dx] at he
 exact vR hX hc hm q ha hg (sY he.1) (xW he.2) hd
theorem AZ {pl:Sem Bool}(h:Csx X E c x m f)(ho:JE X E o fo)
  (ht:G0 (.Call (.Attribute o x apos) [] [] pos) X.env=(do
   let ov<-G0 o X.env
   G9 apos.atName
   let (f,first)<-Ha [ov] (Hj ov x pl)
   callWith pos f first (G3 pos (G4 [] X.env)) (Hl pos (Hm [] X.env))):=by rfl):
  JE X E (.Call (.Attribute o x apos) [] [] pos) (Ky c x m f fo KB):=by
 obtain⟨hP,_,_,_,_,_,n,cl,h,hr⟩:=h
 exact vW n cl h hP hr ho ht
theorem AX (hP:b7 (CXx X.prog X.w) X E)(h:HN X.prog X.w X.K X.mg X.base k C "__init__" m f)(hn:GA X.K GW c=some (some (.ref C)))(hk:makesIn X.K C=true)(kc:Gz X.K (.ref C)=true)(hm:X.mg c=some (.ref C))(hr:Room (k+1) X.A)(hg:Gl X c:=by rfl)(hdb:(c==("__debug__":Str))=false:=by decide):JE X E (.Call (.Name c p) [] [] pos) (Kx c m f KB):=by
 obtain⟨_,_,_,h⟩:=h
 exact tX ⟨hk,h.me.at_,h.me.fn,kc⟩ hn h.ok hP h.bi hr hm hg hdb
end
section
section
variable {X:Cx}{E:XK}{o i e value:Expr}{p pos apos cpos tpos:G1}{fo fi fv:HU->M W}{l:HU->M (List W)}
end
section
variable {X:Cx}{E:XK}{tg iter elt:Expr}{ifs:List Expr}{pos:G1}{ls ls0:List Str}{scope scope0:GY}{C0:GH}{s0:GJ}{H0:Hp}{fp0:List GH}{gT:TG}{t:W->HU->Option HU}{src:HU->M Sr}{f:HU->M Bool}{e:HU->M W}{hs:List Nat}{wh:Prop}
end
section
variable (P:GE)(w:GF)(K:PySem.W.Frag)(mg:Str->Option GC)(x:Str)
noncomputable def Gc:Prop:= ∃C,GA K GW x=some (some (.ref C))/\mg x=some (.ref C)
noncomputable def Ge (raised:List Str):Prop:= ∃C,mg x=some (.ref C)/\ ∀c∈raised,ExF K mg C c
end
section
variable {K:PySem.W.Frag}{mg:Str->Option GC}{x c:Str}{C CF:GH}{h:GG}
theorem gx (X:K.In h)(G:h.Ns GW mg)(a:GA K GW x=some (some (.ref C)))(q:excIn K C Ip "ValueError.__new__"=true):Gx K mg x:=⟨C,GB X G a,q⟩
theorem gcl (X:K.In h)(G:h.Ns GW mg)(a:GA K GW x=some (some (.ref C))):Gc K mg x:=⟨C,a,GB X G a⟩
theorem fm_nil {α:Type}{P:α->Prop}: ∀x∈([]:List α),P x:=fun _ h=>nomatch h
theorem fm_cons {α:Type}{P:α->Prop}{a:α}{l:List α}(h:P a)(t:∀x∈l,P x): ∀x∈a::l,P x:=fun x hx=>by
 rcases Dp.mp hx with rfl|hx
 ·exact h
 ·exact t x hx
theorem ge {raised:List Str}(X:K.In h)(G:h.Ns GW mg)(a:GA K GW x=some (some (.ref CF)))(f:∀c∈raised,ExF K mg CF c):Ge K mg x raised:=⟨CF,GB X G a,f⟩
theorem exf {D1 D2 D3 D4 D5 D6 D7 D8 D9 D10 D11 D12:GH}(X:K.In h)(G:h.Ns GW mg)(a:GA K GW c=some (some (.ref C)))
  (n1:GA K GW "TooLong"=some (some (.ref D1)))(n2:GA K GW "NoRow"=some (some (.ref D2)))(n3:GA K GW "NoPlace"=some (some (.ref D3)))(n4:GA K GW "Twice"=some (some (.ref D4)))(n5:GA K GW "Full"=some (some (.ref D5)))(n6:GA K GW "NoBox"=some (some (.ref D6)))(n7:GA K GW "Open"=some (some (.ref D7)))(n8:GA K GW "NoBlock"=some (some (.ref D8)))(n9:GA K GW "NoForm"=some (some (.ref D9)))(n10:GA K GW "NoneYet"=some (some (.ref D10)))(n11:GA K GW "NoOrder"=some (some (.ref D11)))(n12:GA K GW "NoWay"=some (some (.ref D12)))
  (ga:PySem.W.findIn K (.ref C) "__getattribute__"=some (some (.builtin "BaseException.__getattribute__")))(gn:PySem.W.findIn K (.ref C) "__getattr__"=some none)(cl:PySem.W.findIn K (.ref C) "__class__"=some (some (.builtin "object.__class__")))
  (sb:PySem.W.subIn K (.ref C) (.type "BaseException")=some true)(so:PySem.W.subIn K (.ref C) (.type "object")=some true)(ic:(PySem.W.clsIn K C).isSome=true)(xm:PySem.W.exmOne K (.ref C) (.ref CF)=some true)
  (kv:kitOne K (.ref C) (.type "ValueError")=some true)
  (t1:kitOne K (.ref C) (.ref D1)=some (decide (c= "TooLong")))(t2:kitOne K (.ref C) (.ref D2)=some (decide (c= "NoRow")))(t3:kitOne K (.ref C) (.ref D3)=some (decide (c= "NoPlace")))(t4:kitOne K (.ref C) (.ref D4)=some (decide (c= "Twice")))(t5:kitOne K (.ref C) (.ref D5)=some (decide (c= "Full")))(t6:kitOne K (.ref C) (.ref D6)=some (decide (c= "NoBox")))(t7:kitOne K (.ref C) (.ref D7)=some (decide (c= "Open")))(t8:kitOne K (.ref C) (.ref D8)=some (decide (c= "NoBlock")))(t9:kitOne K (.ref C) (.ref D9)=some (decide (c= "NoForm")))(t10:kitOne K (.ref C) (.ref D10)=some (decide (c= "NoneYet")))(t11:kitOne K (.ref C) (.ref D11)=some (decide (c= "NoOrder")))(t12:kitOne K (.ref C) (.ref D12)=some (decide (c= "NoWay"))):ExF K mg CF c:=by
 refine⟨C,a,GB X G a,⟨ga,gn,cl,sb,so,ic⟩,xm,fun d D hd hn=>?_,kv⟩
 unfold IA at hd
 simp only[Dp,DO,or_false] at hd
 rcases hd with rfl|rfl|rfl|rfl|rfl|rfl|rfl|rfl|rfl|rfl|rfl|rfl
 ·rw[n1] at hn;cases hn;exact t1
 ·rw[n2] at hn;cases hn;exact t2
 ·rw[n3] at hn;cases hn;exact t3
 ·rw[n4] at hn;cases hn;exact t4
 ·rw[n5] at hn;cases hn;exact t5
 ·rw[n6] at hn;cases hn;exact t6
 ·rw[n7] at hn;cases hn;exact t7
 ·rw[n8] at hn;cases hn;exact t8
 ·rw[n9] at hn;cases hn;exact t9
 ·rw[n10] at hn;cases hn;exact t10
 ·rw[n11] at hn;cases hn;exact t11
 ·rw[n12] at hn;cases hn;exact t12
end
end
section
section
variable {X:Cx}{E:XK}{o e:Expr}{apos cpos:G1}{fo:HU->M W}{l:HU->M (List W)}
def MC (x:W)(ws:List W):M W:=match x,ws with
 |.str a,[.str b]=>gd ((b.length==0)=false/\a.length<=sizeLine/\(bX a b).length<=sizeLine) (KY ((bX a b).map W.str))
 |_,_=>no
theorem yl (ho:JE X E o fo)(ha:JA X E [e] l)(hbase:Hk o "split" X.env (G0 o X.env)=G0 o X.env:=by rfl)
  (hfew:((G3 cpos (G4 [e] X.env)).all (fun x=>!x.1) && (Hl cpos (Hm [] X.env)).all (fun x=>x.1.isSome) && decide (([e]:List Expr).length+([]:List Hr).length+(if ([]:List Hr).isEmpty then 0 else 1)<30))=true:=by rfl)
  (hline:(apos.endLine==cpos.line)=true:=by rfl)(hs:G4 [e] X.env=(false,G0 e X.env)::G4 [] X.env:=by rfl)(hplain:(G3 cpos (G4 [] X.env)).any (·.1)=false:=by rfl):
  JE X E (.Call (.Attribute o "split" apos) [e] [] cpos) (Kz isS MC fo l):=
 (py PySem.F.plainAttrs_str PySem.F.slot_str_split PySem.F.type_str_split pE ho.h ha.h hbase hfew hline hs hplain).imp fun σ H Q h=>by
  obtain⟨w,ρ,rfl,R,S,h⟩:=h
  refine⟨w,ρ,rfl,R,S,Ps.bd h fun p x vx e1 R1 r1 h1=>?_⟩
  cases x with
  |str a=>
   have h1:Ps (cg X E) (Rv X.K) p (bd (l ρ) (fun ws=>MC (.str a) ws) p.h) Q:=h1
   rw[LP.mp r1]
   refine⟨rfl,p,ρ,rfl,R1,S.mono R e1,Ps.bd h1 fun q ws vs e2 R2 r2 h2=>?_⟩
   rcases ws with _|⟨w',_|⟨_,_⟩⟩
   ·exact h2.elim
   ·obtain⟨v,rfl,r⟩:=r2.one
    cases w' with
    |str b=>
     have h2:Ps (cg X E) (Rv X.K) q (gd ((b.length==0)=false/\a.length<=sizeLine/\(bX a b).length<=sizeLine) (KY ((bX a b).map W.str)) q.h) Q:=h2
     obtain⟨hz,h2⟩:=h2.gd
     refine⟨a,b,rfl,by rw[LP.mp r],hz.1,hz.2.1,hz.2.2,fun q' hq=>?_⟩
     refine Ps.at (p:=q.add q' (.lst ((bX a b).map W.str)) (.lst ((bX a b).map V.str))) h2 rfl (Ex.add hq) (R2.addL hq (fV _)) ?_
     unfold Rv
     exact⟨by show _<(q.h++[_]).length;simp,by show V.ref q'=V.ref (if q.h.length=q.h.length then q' else _);rw[if_pos rfl]⟩
    |_=>exact h2.elim
   ·cases w'<;>exact h2.elim
  |_=>exact h1.elim
end
end
end L2
namespace Wd
open PySem L2
noncomputable def LET:Str:= "abcdefghijklmnopqrstuvwxyz"
noncomputable def FIG:Str:= "0123456789"
def JY (c:Nat):Bool:=decide (c∈LET.cps.toList)
def JV (c:Nat):Bool:=decide (c∈FIG.cps.toList)
def JU (c:Nat):Bool:=decide (c∈(LET++FIG).cps.toList)
theorem pO:LET.cps.toList=List.range' 97 26:=by decide+kernel
theorem p5:FIG.cps.toList=List.range' 48 10:=by decide+kernel
theorem JZ {c:Nat}:JY c=true↔97<=c/\c<=122:=by
 unfold JY
 rw[decide_eq_true_eq,pO,Fs]
 omega
theorem JX {c:Nat}:JV c=true↔48<=c/\c<=57:=by
 unfold JV
 rw[decide_eq_true_eq,p5,Fs]
 omega
theorem i0 (c:Nat):JU c=(JY c||JV c):=by
 rw[Ep,Bool.or_eq_true,JZ,JX]
 unfold JU
 have e:(LET++FIG).cps.toList=LET.cps.toList++FIG.cps.toList:=by decide+kernel
 rw[decide_eq_true_eq,e,DE,pO,p5,Fs,Fs]
 omega
def M3:List Str:=["box", "block", "put", "say", "ask", "go", "if", "else", "table", "stop"]
def af (w:Str):Bool:=decide (1<=w.length/\w.length<=8) && (w.cps.toList.all JY && !decide (w∈M3))
def K1 (w:Str):Bool:=decide (1<=w.length/\w.length<=3) && (!(decide (w.cps.toList.head?=some 48) && !decide (w= "0")) && w.cps.toList.all JV)
noncomputable def cL (w:Str):Int:=((PySem.NumText.digitsVal w.cps.toList:Nat):Int)
inductive Exp where
 |num (n:Int)
 |box (x:Str)
 |bin (s:Str)(l r:Exp)
 deriving DecidableEq
def Kj (l:List Nat):Option (Exp×List Nat):=
 if af ⟨(l.takeWhile JU).toArray⟩=true then some (.box ⟨(l.takeWhile JU).toArray⟩,l.dropWhile JU)
 else if K1 ⟨(l.takeWhile JU).toArray⟩=true then some (.num (cL ⟨(l.takeWhile JU).toArray⟩),l.dropWhile JU) else none
noncomputable def Ix (f:List Nat->Option (Exp×List Nat))(ops:List Nat):Nat->Exp->List Nat->Option (Exp×List Nat)
 |0,e,l=>some (e,l)
 |_+1,e,[]=>some (e,[])
 |n+1,e,c::r=>if c∈ops then (match f r with
   |none=>none
   |some (e2,r2)=>Ix f ops n (.bin ⟨#[c]⟩ e e2) r2) else some (e,c::r)
def Lo (f:List Nat->Option (Exp×List Nat))(ops:List Nat)(l:List Nat):Option (Exp×List Nat):=match f l with
 |none=>none
 |some (e,r)=>Ix f ops r.length e r
noncomputable def Lk:List Nat:=[42]
noncomputable def Ll:List Nat:=[43,45]
noncomputable def bS (f:List Nat->Option (Exp×List Nat))(r:List Nat):Option (Exp×List Nat):=match f r with
 |some (e,41::r2)=>some (e,r2)
 |_=>none
def aM:Nat->List Nat->Option (Exp×List Nat)
 |0,l=>if l.head?=some 40 then none else Kj l
 |m+1,l=>if l.head?=some 40 then bS (Lo (Lo (aM m) Lk) Ll) l.tail else Kj l
def bw (m:Nat):List Nat->Option (Exp×List Nat):=Lo (aM m) Lk
def dj (m:Nat):List Nat->Option (Exp×List Nat):=Lo (bw m) Ll
def IT (w:Str):Option Exp:=if w.length>60 then none else match dj 5 w.cps.toList with
 |some (e,[])=>some e
 |_=>none
noncomputable def Suf (f:List Nat->Option (Exp×List Nat)):Prop:= ∀l e r,f l=some (e,r)->r<:+l
theorem o3:Suf Kj:=fun l e r h=>by
 unfold Kj at h
 split at h
 ·cases h;exact Gk _
 ·split at h
  ·cases h;exact Gk _
  ·cases h
theorem mq {f:List Nat->Option (Exp×List Nat)}{ops:List Nat}(hf:Suf f): ∀ (n:Nat) (e:Exp) (l:List Nat) (e':Exp) (r:List Nat),Ix f ops n e l=some (e',r)->r<:+l
 |0,e,l,e',r,h=>by cases h;exact FW _
 |_+1,e,[],e',r,h=>by cases h;exact FW _
 |n+1,e,c::l,e',r,h=>by
  unfold Ix at h
  split at h
  ·split at h
   ·cases h
   ·rename_i e2 r2 hf2
    exact (mq hf n _ r2 e' r h).trans ((hf l e2 r2 hf2).trans (List.suffix_cons c l))
  ·cases h;exact FW _
theorem iy {f:List Nat->Option (Exp×List Nat)}{ops:List Nat}(hf:Suf f):Suf (Lo f ops):=fun l e r h=>by
 unfold Lo at h
 split at h
 ·cases h
 ·rename_i e1 r1 h1
  exact (mq hf _ _ _ _ _ h).trans (hf l e1 r1 h1)
theorem o4 {f:List Nat->Option (Exp×List Nat)}(hf:Suf f):Suf (bS f):=fun l e r h=>by
 unfold bS at h
 split at h
 ·rename_i e1 r1 h1
  cases h
  exact (List.suffix_cons 41 r).trans (hf l e _ h1)
 ·cases h
theorem gh: ∀m,Suf (aM m)
 |0=>fun l e r h=>by
  unfold aM at h
  split at h
  ·cases h
  ·exact o3 l e r h
 |m+1=>fun l e r h=>by
  unfold aM at h
  split at h
  ·exact (o4 (iy (iy (gh m))) _ e r h).trans (List.tail_suffix l)
  ·exact o3 l e r h
theorem hZ (m:Nat):Suf (bw m):=iy (gh m)
theorem mn (m:Nat):Suf (dj m):=iy (hZ m)
theorem uH {w l r:List Nat}{p:Nat}(hl:l=w.drop p)(h:r<:+l):r=w.drop (w.length - r.length)/\r.length<=l.length:=by
 subst hl
 refine⟨List.suffix_iff_eq_drop.mp (h.trans (List.drop_suffix p w)),h.length_le⟩
end Wd
namespace Q
open PySem L2
noncomputable def top (i:Nat):G5:=PySem.Challenge.pw_blockfall_k07_rows_of_no_form.main.body.getD i (.Pass ⟨0,0,0,0⟩)
noncomputable abbrev jT:G5:=top 23
noncomputable abbrev nO:G5:=top 24
noncomputable abbrev LV:G5:=top 26
noncomputable abbrev nN:G5:=top 27
noncomputable abbrev iR:G5:=top 28
noncomputable abbrev jU:G5:=top 29
noncomputable abbrev ij:G5:=top 30
noncomputable abbrev qN:G5:=cx (top 25) 0
noncomputable abbrev qO:G5:=cx (top 25) 1
noncomputable abbrev kB:G5:=cx (top 25) 2
noncomputable abbrev qM:G5:=cx (top 25) 3
noncomputable abbrev L4:G5:=cx (top 25) 4
end Q
namespace Q
open PySem L2 Wd
def M4:List V:=M3.map V.str
structure Txt (K:PySem.W.Frag)(mg:Str->Option GC)(CS CN:GH):Prop where
 cl:Cls K CS
 nw:NoAttr K CS "word"
 np:NoAttr K CS "place"
 mgS:mg "Signs"=some (.ref CS)
 mgN:mg "NoRow"=some (.ref CN)
 exN:excIn K CN Ip "ValueError.__new__"=true
 len:mg "len"=none
 all:mg "all"=none
 int:mg "int"=none
 let_: ∃t,mg "LETTERS"=some (.str LET t)
 fig: ∃t,mg "FIGURES"=some (.str FIG t)
 tak: ∃a,mg "TAKEN_WORDS"=some (.ref a)/\ ∀H:Hp,SqT K H a M4
 n8: ∃t,mg "LONGEST_NAME"=some (.int 8 t)
 n3: ∃t,mg "LONGEST_NUMBER"=some (.int 3 t)
 n60: ∃t,mg "LONGEST_EXPRESSION"=some (.int 60 t)
 n5: ∃t,mg "DEEPEST_BRACKET"=some (.int 5 t)
theorem dk {H:Hp}{p:GH}(h:H p=none)(o:HO):Same H (upd H p o):=fun b u q=>by rw[ap (bg q h)];exact q
theorem small {n:Nat}(h:n<=1000):n<=sizeLine:=EN (jo h)
theorem jk {α:Type}{l:List α}{i:Nat}{x:α}(h:l[i]?=some x):l.take (i+1)=l.take i++[x]:=by
 obtain⟨hi,e⟩:=DK.mp h
 rw[Ee,h]
 rfl
theorem Bz {α:Type}{xs:List α}{i:Int}{v:α}(h0:0<=i)(h:xs[i.toNat]?=some v):atI xs i=some v:=by
 have q:=jd h
 have e:((i.toNat:Nat):Int)=i:=by omega
 rw[e] at q;exact q
theorem aU (w:Str):w.cps.toList.length=w.length:=by simp [Str.length]
theorem yesT {σ:St}{H:Hp}{A B:Hp->Prop}(h:A H):M2 σ H (fun b H3=>if b=true then A H3 else B H3):=by
 show if true=true then A H else B H
 rw[if_pos rfl];exact h
section
variable {P:GE}{w:GF}{K:PySem.W.Frag}{mg:Str->Option GC}{base:GG}{f CS CN:GH}{fd:Hn}
def kr:Sp:=fun vs H Q _=> ∃z:Str,vs=[.str z]/\z.length<=sizeLine/\ ∀H',Same H H'->Q (.bl (af z)) H'
theorem zK:HW ["word"] ["word"] (ae jT):=⟨rfl,rfl,rfl,by decide+kernel,rfl,by decide+kernel,by decide+kernel⟩
theorem vK:((["sign", ".0"]:List Str)++(["word"]:List Str).map (hid ["sign", ".0"])).Nodup:=by decide+kernel
theorem uh (z:Str):inV (.str z) M4=decide (z∈M3):=by
 unfold inV M4
 rw[Ep,FS,decide_eq_true_eq]
 constructor
 ·rintro⟨v,hv,h⟩
  obtain⟨y,hy,rfl⟩:=DV.mp hv
  have:y=z:=by simpa [eqV] using h
  subst this;exact hy
 ·intro h
  exact⟨.str z,DV.mpr ⟨z,h,rfl⟩,by simp [eqV]⟩
theorem rB:M4.all IW=true:=by decide+kernel
theorem xQ (F:Fun K "is_name" "is_name" jT f fd)(T:Txt K mg CS CN):FnOk P w K mg base CX0 1 f fd ["word"] kr:=by
 refine F.ok zK (fun vs H Q E h=>?_) (fun cdv A outer s H vs Q E hr h=>?_)
 ·obtain⟨z,rfl,_⟩:=h
  rfl
 obtain⟨z,rfl,hz,q⟩:=h
 obtain⟨t8,h8⟩:=T.n8
 obtain⟨tL,hL⟩:=T.let_
 obtain⟨aT,hT,sT⟩:=T.tak
 refine⟨_,ax (gW (PW.pt (uU (dW vo (dt Iu rfl T.len PySem.boot_len (ak (pv 0) Ln)) Lq (eW _))
   (qR (dW mI (dt Iu rfl T.len PySem.boot_len (ak (pv 0) Ln)) (cZ (v:=.int 8) rfl h8 ⟨_,rfl⟩) (eW _))))) (aK (cK vj)) Ly)
  (aK (cK (vk (dt (qm rfl) rfl T.all PyProof.Rows.boot_all (ak (nY (ls:=["sign", ".0"]) rfl (.of (ae jT)) (qW (pv 0)) (fun _ _ _ _=>bo (i:=0) vK rfl (Or.inl rfl) (.inr rfl)) (fun _ _ _ _=>nX)
      (fun _ _ _ _=>iz Le (pv 0) (cZ (v:=.str LET) rfl hL ⟨_,rfl⟩) (by with_unfolding_all rfl))) Ln))
   (vd (iz Li (pv 0) (cZ (v:=.ref aT) rfl hT rfl) (by with_unfolding_all rfl)))))),?_⟩
 refine⟨_,rfl,z,rfl,hz,_,_,rfl,rfl,_,rfl,?_⟩
 have no: ¬(1<=z.length/\z.length<=8)->af z=false:=fun h=>by unfold af;rw[decide_eq_false h];rfl
 refine J3 (fun c=>?_) (fun c=>?_)
 ·have c1:(z.length:Int)<1:=of_decide_eq_true c
  refine J5 ?_
  have:=q H (Same.refl _)
  rw[no (by omega)] at this
  exact this
 ·have c1: ¬(z.length:Int)<1:=of_decide_eq_false (Et.mpr c)
  refine⟨_,rfl,z,rfl,hz,_,_,rfl,rfl,_,rfl,?_⟩
  refine J3 (fun c=>?_) (fun c=>?_)
  ·have c2:(z.length:Int)>8:=of_decide_eq_true c
   have:=q H (Same.refl _)
   rw[no (by omega)] at this
   exact this
  ·have c2: ¬(z.length:Int)>8:=of_decide_eq_false (Et.mpr c)
   have yes:af z=(z.cps.toList.all JY && !decide (z∈M3)):=by
    unfold af
    rw[decide_eq_true (by omega:1<=z.length/\z.length<=8)];rfl
   refine⟨rfl,_,rfl,z,rfl,qh (fun i ys H'=>H'=H/\ys=((z.cps.toList.take i).map JY).map V.bl) ⟨rfl,rfl⟩ ?_ ?_⟩
   ·rintro i c0 ys H' hc ⟨rfl,rfl⟩
    refine⟨rfl,rfl,yesT ?_⟩
    refine⟨_,rfl,_,_,rfl,rfl,?_,rfl,?_⟩
    ·rw[Dh,Dh,DH]
     exact jo (by rw[aU];omega)
    ·rw[jk hc,Dr,Dr,rn];rfl
   ·rintro ys H' ⟨rfl,rfl⟩ D hD
    refine⟨D,(z.cps.toList.take z.cps.size).map JY,rfl,SqL.of aC,_,rfl,?_⟩
    have ea:((z.cps.toList.take z.cps.size).map JY).all id=z.cps.toList.all JY:=by
     have:z.cps.size=z.cps.toList.length:=by simp
     rw[this,Ed,FV];rfl
    rw[ea]
    cases hb:z.cps.toList.all JY with
    |false=>
     refine J4 ?_
     have this: ∀L,Q _ (upd H' D (.lst L)):=fun L=>q _ (dk hD _)
     rw[yes,hb] at this
     exact this _
    |true=>
     refine J5 ⟨_,rfl,aT,M4,rfl,.inr (sT _),rfl,rB,?_⟩
     have this: ∀L,Q _ (upd H' D (.lst L)):=fun L=>q _ (dk hD _)
     rw[yes,hb,<-uh] at this
     exact this _
def MA:Sp:=fun vs H Q _=> ∃z:Str,vs=[.str z]/\z.length<=sizeLine/\ ∀H',Same H H'->Q (.bl (K1 z)) H'
theorem scNum:HW ["word"] ["word"] (ae nO):=⟨rfl,rfl,rfl,by decide+kernel,rfl,by decide+kernel,by decide+kernel⟩
theorem Ay (F:Fun K "is_number" "is_number" nO f fd)(T:Txt K mg CS CN):FnOk P w K mg base CX0 1 f fd ["word"] MA:=by
 refine F.ok scNum (fun vs H Q E h=>?_) (fun cdv A outer s H vs Q E hr h=>?_)
 ·obtain⟨z,rfl,_⟩:=h
  rfl
 obtain⟨z,rfl,hz,q⟩:=h
 obtain⟨t3,h3⟩:=T.n3
 obtain⟨tL,hL⟩:=T.fig
 refine⟨_,ax (gW (PW.pt (uU (dW vo (dt Iu rfl T.len PySem.boot_len (ak (pv 0) Ln)) Lq (eW _))
   (qR (dW mI (dt Iu rfl T.len PySem.boot_len (ak (pv 0) Ln)) (cZ (v:=.int 3) rfl h3 ⟨_,rfl⟩) (eW _))))) (aK (cK vj)) Ly)
  (ax (gW (PW.pt (uV (dW Lc (r6 oy (pv 0) Lq (fun _ _=>rfl)) Lr (eW _)) (rV (dW Lh (pv 0) Lr (eW _))))) (aK (cK vj)) Ly)
  (aK (cK (dt (qm rfl) rfl T.all PyProof.Rows.boot_all (ak (nY (ls:=["sign", ".0"]) rfl (.of (ae nO)) (qW (pv 0)) (fun _ _ _ _=>bo (i:=0) vK rfl (Or.inl rfl) (.inr rfl)) (fun _ _ _ _=>nX)
      (fun _ _ _ _=>iz Le (pv 0) (cZ (v:=.str FIG) rfl hL ⟨_,rfl⟩) (by with_unfolding_all rfl))) Ln))))),?_⟩
 refine⟨_,rfl,z,rfl,hz,_,_,rfl,rfl,_,rfl,?_⟩
 have no: ¬(1<=z.length/\z.length<=3)->K1 z=false:=fun h=>by unfold K1;rw[decide_eq_false h];rfl
 refine J3 (fun c=>?_) (fun c=>?_)
 ·have c1:(z.length:Int)<1:=of_decide_eq_true c
  refine J5 ?_
  have:=q H (Same.refl _)
  rw[no (by omega)] at this
  exact this
 ·have c1: ¬(z.length:Int)<1:=of_decide_eq_false (Et.mpr c)
  refine⟨_,rfl,z,rfl,hz,_,_,rfl,rfl,_,rfl,?_⟩
  refine J3 (fun c=>?_) (fun c=>?_)
  ·have c2:(z.length:Int)>3:=of_decide_eq_true c
   have:=q H (Same.refl _)
   rw[no (by omega)] at this
   exact this
  ·have c2: ¬(z.length:Int)>3:=of_decide_eq_false (Et.mpr c)
   have yes:K1 z=(!(decide (z.cps.toList.head?=some 48) && !decide (z= "0")) && z.cps.toList.all JV):=by
    unfold K1
    rw[decide_eq_true (by omega:1<=z.length/\z.length<=3)];rfl
   obtain⟨c0,r0,e0⟩: ∃c0 r0,z.cps.toList=c0::r0:=by
    cases h:z.cps.toList with
    |nil=>have:=aU z;rw[h] at this;simp at this;omega
    |cons a b=>exact⟨a,b,rfl⟩
   refine⟨_,rfl,z,0,c0,rfl,rfl,hz,by rw[e0];exact Bz (by decide) rfl,rfl,_,rfl,?_⟩
   have h48:decide (V.str ⟨#[c0]⟩=V.str "0")=decide (z.cps.toList.head?=some 48):=by
    rw[e0,decide_eq_decide]
    constructor
    ·intro h
     have h1:=V.str.inj h
     have h2:(#[c0]:Array Nat)=("0":Str).cps:=congrArg Str.cps h1
     have h3:("0":Str).cps= #[48]:=by decide+kernel
     rw[h3] at h2
     have:c0=48:=by simpa using h2
     subst this;rfl
    ·intro h
     have:c0=48:=by simpa using h
     subst this
     have h3:(⟨#[48]⟩:Str)= "0":=by decide+kernel
     rw[h3]
   have fin:(!(decide (z.cps.toList.head?=some 48) && !decide (z= "0")))=true->tRet (tCB (fun xs H Q=> ∃ (p:GH) (bs:List Bool),xs=[.ref p]/\SqL K H p (bs.map V.bl)/\Q (.bl (bs.all id)) H) (MW (MV ["word"] ["sign", ".0"] (iStr (M1 0)) (Jd 0) M2 (tOp (fun x y H Q=> ∃i j,x=.str i/\y=.str j/\Q (.bl (!(GD.Str.occurrences j i 0 j.length 1).isEmpty)) H) (M1 0) (tC (.str FIG)))) MZ)) {nx:=fun _ H'=>Q .non H',rt:=Q} (MI ["word"] [.str z]) H:=by
    intro hb
    refine⟨rfl,_,rfl,z,rfl,qh (fun i ys H'=>H'=H/\ys=((z.cps.toList.take i).map JV).map V.bl) ⟨rfl,rfl⟩ ?_ ?_⟩
    ·rintro i c0 ys H' hc ⟨rfl,rfl⟩
     refine⟨rfl,rfl,yesT ?_⟩
     refine⟨_,rfl,_,_,rfl,rfl,?_,rfl,?_⟩
     ·rw[Dh,Dh,DH]
      exact jo (by rw[aU];omega)
     ·rw[jk hc,Dr,Dr,rn];rfl
    ·rintro ys H' ⟨rfl,rfl⟩ D hD
     refine⟨D,(z.cps.toList.take z.cps.size).map JV,rfl,SqL.of aC,?_⟩
     have ea:((z.cps.toList.take z.cps.size).map JV).all id=z.cps.toList.all JV:=by
      have:z.cps.size=z.cps.toList.length:=by simp
      rw[this,Ed,FV];rfl
     rw[ea]
     have this: ∀L,Q _ (upd H' D (.lst L)):=fun L=>q _ (dk hD _)
     rw[yes,hb,FX] at this
     exact this _
   rw[h48]
   refine J3 (fun c=>?_) (fun c=>?_)
   ·refine⟨_,rfl,rfl,_,rfl,?_⟩
    have e2:decide (V.str z=V.str "0")=decide (z= "0"):=by
     rw[decide_eq_decide];exact⟨V.str.inj,congrArg V.str⟩
    rw[e2]
    refine J3 (fun c2=>?_) (fun c2=>?_)
    ·have:=q H (Same.refl _)
     rw[yes,c,c2] at this
     exact this
    ·exact fin (by rw[c,Et.mpr c2];rfl)
   ·exact fin (by rw[Et.mpr c];rfl)
end
end Q
namespace Q
open PySem L2 Wd
structure CF (P:GE)(w:GF)(K:PySem.W.Frag)(mg:Str->Option GC)(base:GG)(CX:CXT)(k:Nat)(x:Str)(f:GH)(fd:Hn)(ps:List Str)(sp:Sp):Prop where
 ok:FnOk P w K mg base CX k f fd ps sp
 bi:Binds K fd ps []
 kp:Gz K (.ref f)=true
 mg:mg x=some (.ref f)
structure CM (P:GE)(w:GF)(K:PySem.W.Frag)(mg:Str->Option GC)(base:GG)(CX:CXT)(k:Nat)(C:GH)(m:Str)(f:GH)(fd:Hn)(ps:List Str)(sp:Sp):Prop where
 ok:FnOk P w K mg base CX k f fd ps sp
 bi:Binds K fd ps []
 me:HZ K C m f
theorem uw: ¬(("word":Str)= "place"):=by decide+kernel
def I0 (z:Str)(p:Int):List (Str×V):=Lz "place" (.int p) (Lz "word" (.str z) [])
theorem j8 (z:Str)(p:Int):I0 z p=([("word",V.str z),("place",V.int p)]:List (Str×V)):=by
 show (if ("word":Str)= "place" then [(("word":Str),V.int p)] else (("word":Str),V.str z)::Lz "place" (V.int p) [])=([("word",V.str z),("place",V.int p)]:List (Str×V))
 rw[if_neg uw]
 all_goals rfl
theorem iE (z:Str)(p:Int):(I0 z p).lookup ("word":Str)=some (.str z):=by
 unfold I0
 rw[cN,if_neg uw,cN,if_pos rfl]
theorem c9 (z:Str)(p:Int):(I0 z p).lookup ("place":Str)=some (.int p):=by
 unfold I0
 rw[cN,if_pos rfl]
theorem c8 (z:Str)(p:Int){m:Str}(h1: ¬m= "place")(h2: ¬m= "word"):(I0 z p).lookup m=none:=by
 unfold I0
 rw[cN,if_neg h1,cN,if_neg h2]
 all_goals rfl
theorem pZ (z:Str)(p y:Int):Lz "place" (.int y) (I0 z p)=I0 z y:=by
 rw[j8,j8]
 show (if ("word":Str)= "place" then _ else (("word":Str),V.str z)::(if ("place":Str)= "place" then [(("place":Str),V.int y)] else _))=([("word",V.str z),("place",V.int y)]:List (Str×V))
 rw[if_neg uw,if_pos rfl]
def SgAt (C:GH)(H:Hp)(a:GH)(z:Str)(p:Nat):Prop:=z.length<=sizeLine/\p<=z.length/\ ∃dx,H a=some (.ins C dx (I0 z (p:Int)))
def Moved (H H':Hp)(a:GH):Prop:= ∀b o,b≠a->H b=some o->H' b=some o
theorem Moved.refl (H:Hp)(a:GH):Moved H H a:=fun _ _ _ h=>h
theorem Moved.trans {H H1 H2:Hp}{a:GH}(x:Moved H H1 a)(y:Moved H1 H2 a):Moved H H2 a:=fun b o hb h=>y b o hb (x b o hb h)
theorem Moved.same {H H1:Hp}{a:GH}(x:Same H H1):Moved H H1 a:=fun b o _ h=>x b o h
theorem iA {H:Hp}{a:GH}(o:HO):Moved H (upd H a o) a:=fun b u hb h=>by rw[ap hb];exact h
theorem SgAt.same {C:GH}{H H':Hp}{a:GH}{z:Str}{p:Nat}(g:Same H H')(h:SgAt C H a z p):SgAt C H' a z p:=let ⟨h1,h2,dx,e⟩:=h;⟨h1,h2,dx,g _ _ e⟩
noncomputable def cV (z:Str)(p:Nat)(y:Str):Bool:=match z.cps.toList.drop p with
 |[]=>false
 |c::_=>decide (c∈y.cps.toList)
section
variable {P:GE}{w:GF}{K:PySem.W.Frag}{mg:Str->Option GC}{base:GG}{f CS CN fD fS:GH}{fd fdD fdS:Hn}
def rO (C:GH):Sp:=fun vs H Q _=> ∃ (a dx:GH) (z:Str),vs=[.ref a,.str z]/\H a=some (.ins C dx [])/\z.length<=sizeLine/\ ∀H',Moved H H' a->SgAt C H' a z 0->Q .non H'
theorem xv:HW ["self", "word"] ["self", "word"] (ae qN):=⟨rfl,rfl,rfl,by decide+kernel,rfl,by decide+kernel,by decide+kernel⟩
theorem vC (F:Fun K "__init__" "Signs.__init__" qN f fd)(T:Txt K mg CS CN):FnOk P w K mg base CX0 1 f fd ["self", "word"] (rO CS):=by
 refine F.ok xv (fun vs H Q E h=>?_) (fun cdv A outer s H vs Q E hr h=>?_)
 ·obtain⟨a,dx,z,rfl,_⟩:=h
  rfl
 obtain⟨a,dx,z,rfl,hp,hz,k⟩:=h
 refine⟨_,ax (qT (pv 0) (pv 1) rfl) (aK (qT (pv 0) Lq rfl)),?_⟩
 refine⟨_,rfl,_,rfl,a,CS,dx,[],rfl,hp,T.cl,T.nw,(by show 0<1000;decide),_,rfl,a,CS,dx,_,rfl,aC,T.cl,T.np,(by show 1<1000;decide),?_⟩
 exact k _ ((iA _).trans (iA _)) ⟨hz,DB _,dx,aC⟩
def nJ (C:GH):Sp:=fun vs H Q _=> ∃ (a:GH) (z:Str) (p:Nat),vs=[.ref a]/\SgAt C H a z p/\Q (.bl (decide (p=z.length))) H
theorem zL:HW ["self"] ["self"] (ae qO):=⟨rfl,rfl,rfl,by decide+kernel,rfl,by decide+kernel,by decide+kernel⟩
theorem xU (F:Fun K "is_done" "Signs.is_done" qO f fd)(T:Txt K mg CS CN):FnOk P w K mg base CX0 1 f fd ["self"] (nJ CS):=by
 refine F.ok zL (fun vs H Q E h=>?_) (fun cdv A outer s H vs Q E hr h=>?_)
 ·obtain⟨a,z,p,rfl,_⟩:=h
  rfl
 obtain⟨a,z,p,rfl,⟨hz,hp,dx,ha⟩,k⟩:=h
 refine⟨_,aK (cK (iz Lc (fO (pv 0) rfl) (dt Iu rfl T.len PySem.boot_len (ak (fO (pv 0) rfl) Ln)) (eW _))),?_⟩
 refine⟨_,rfl,a,CS,dx,_,_,rfl,ha,T.cl,T.np,c9 _ _,_,rfl,a,CS,dx,_,_,rfl,ha,T.cl,T.nw,iE _ _,z,rfl,hz,rfl,?_⟩
 have e:decide (V.int (p:Int)=V.int (z.length:Int))=decide (p=z.length):=by
  rw[decide_eq_decide]
  exact⟨fun h=>by have:=V.int.inj h;omega,fun h=>by rw[h]⟩
 show Q (.bl (decide (V.int (p:Int)=V.int (z.length:Int)))) H
 rw[e]
 exact k
def eB (C:GH):Sp:=fun vs H Q _=> ∃ (a:GH) (z:Str) (p:Nat) (y:Str),vs=[.ref a,.str y]/\SgAt C H a z p/\Q (.bl (cV z p y)) H
theorem uQ:HW ["self", "wanted"] ["self", "wanted"] (ae kB):=⟨rfl,rfl,rfl,by decide+kernel,rfl,by decide+kernel,by decide+kernel⟩
theorem yY {z:Str}{p:Nat}(h:p<z.length): ∃c,z.cps.toList[p]?=some c/\z.cps.toList.drop p=c::z.cps.toList.drop (p+1):=by
 have hl:p<z.cps.toList.length:=by rw[aU];exact h
 exact⟨z.cps.toList[p],DR hl,EX hl⟩
theorem tO (F:Fun K "stands_one_of" "Signs.stands_one_of" kB f fd)(T:Txt K mg CS CN)(M:CM P w K mg base CX0 1 CS "is_done" fD fdD ["self"] (nJ CS)):FnOk P w K mg base CX0 2 f fd ["self", "wanted"] (eB CS):=by
 refine F.ok uQ (fun vs H Q E h=>?_) (fun cdv A outer s H vs Q E hr h=>?_)
 ·obtain⟨a,z,p,y,rfl,_⟩:=h
  rfl
 obtain⟨a,z,p,y,rfl,S,k⟩:=h
 obtain⟨hz,hp,dx,ha⟩:=id S
 refine⟨_,aK (cK (vk (ve (eU (pv 0) T.cl M.me M.ok hr M.bi .nil Lp)) (vd (iz Le (r6 oy (fO (pv 0) rfl) (fO (pv 0) rfl) (fun _ _=>rfl)) (pv 1) (by with_unfolding_all rfl))))),?_⟩
 refine⟨_,rfl,a,dx,_,rfl,ha,c8 _ _ (by decide+kernel) (by decide+kernel),a,z,p,rfl,S,_,rfl,_,rfl,?_⟩
 by_cases hd:p=z.length
 ·rw[decide_eq_true hd]
  refine J4 ?_
  have e:cV z p y=false:=by
   unfold cV
   rw[Gm (by rw[aU];omega)]
  rw[e] at k
  exact k
 ·rw[decide_eq_false hd]
  obtain⟨c,hc,hdr⟩:=yY (z:=z) (p:=p) (by omega)
  refine J5 ⟨_,rfl,a,CS,dx,_,_,rfl,ha,T.cl,T.nw,iE _ _,_,rfl,a,CS,dx,_,_,rfl,ha,T.cl,T.np,c9 _ _,z,(p:Int),c,rfl,rfl,hz,jd hc,_,rfl,_,_,rfl,rfl,?_⟩
  have e:cV z p y=decide (c∈y.cps.toList):=by
   unfold cV
   rw[hdr]
  rw[e] at k
  rw[rn]
  exact k
def jm (C:GH):Sp:=fun vs H Q _=> ∃ (a:GH) (z:Str) (p:Nat) (c:Nat),vs=[.ref a]/\SgAt C H a z p/\z.cps.toList[p]?=some c/\ ∀H',Moved H H' a->SgAt C H' a z (p+1)->Q (.str ⟨#[c]⟩) H'
theorem Mj:HW ["self", "sign"] ["self"] (ae qM):=⟨rfl,rfl,rfl,by decide+kernel,rfl,by decide+kernel,by decide+kernel⟩
theorem iZ {z:Str}{p c:Nat}(h:z.cps.toList[p]?=some c):p<z.length:=by rw[<-aU];exact (DK.mp h).1
theorem xP (F:Fun K "take_sign" "Signs.take_sign" qM f fd)(T:Txt K mg CS CN):FnOk P w K mg base CX0 1 f fd ["self"] (jm CS):=by
 refine F.ok Mj (fun vs H Q E h=>?_) (fun cdv A outer s H vs Q E hr h=>?_)
 ·obtain⟨a,z,p,c,rfl,_⟩:=h
  rfl
 obtain⟨a,z,p,c,rfl,⟨hz,hp,dx,ha⟩,hc,k⟩:=h
 refine⟨_,ax (dJ (i:=1) Mj.nd rfl (Or.inl rfl) (r6 oy (fO (pv 0) rfl) (fO (pv 0) rfl) (fun _ _=>rfl))) (ax (mD (pv 0) Lq wd) (aK (cK (pv 1)))),?_⟩
 refine⟨_,rfl,a,CS,dx,_,_,rfl,ha,T.cl,T.nw,iE _ _,_,rfl,a,CS,dx,_,_,rfl,ha,T.cl,T.np,c9 _ _,z,(p:Int),c,rfl,rfl,hz,jd hc,?_⟩
 refine⟨_,rfl,a,CS,dx,_,_,rfl,ha,T.cl,T.np,c9 _ _,_,_,rfl,rfl,dx,_,ha,(by rw[j8];show 2<1000;decide),_,rfl,?_⟩
 refine k _ (iA _) ⟨hz,iZ hc,dx,?_⟩
 rw[aC,pZ]
 rfl
def MB (C:GH):Sp:=fun vs H Q _=> ∃ (a:GH) (z:Str) (p:Nat) (y:Str),vs=[.ref a,.str y]/\SgAt C H a z p/\
 ∀H',Moved H H' a->SgAt C H' a z (p+((z.cps.toList.drop p).takeWhile fun c=>decide (c∈y.cps.toList)).length)->Q (.str ⟨((z.cps.toList.drop p).takeWhile fun c=>decide (c∈y.cps.toList)).toArray⟩) H'
theorem Mi:HW ["self", "wanted", "begin"] ["self", "wanted"] (ae L4):=⟨rfl,rfl,rfl,by decide+kernel,rfl,by decide+kernel,by decide+kernel⟩
theorem Ax (F:Fun K "run_of" "Signs.run_of" L4 f fd)(T:Txt K mg CS CN)(M:CM P w K mg base CX0 2 CS "stands_one_of" fS fdS ["self", "wanted"] (eB CS)):FnOk P w K mg base CX0 3 f fd ["self", "wanted"] (MB CS):=by
 refine F.ok Mi (fun vs H Q E h=>?_) (fun cdv A outer s H vs Q E hr h=>?_)
 ·obtain⟨a,z,p,y,rfl,_⟩:=h
  rfl
 obtain⟨a,z,p,y,rfl,S,k⟩:=h
 obtain⟨hz,hp,dx,ha⟩:=id S
 refine⟨_,ax (dJ (i:=2) Mi.nd rfl (Or.inl rfl) (fO (pv 0) rfl))
  (ax (kC Hd.never (gm (gp (pv 0) T.cl M.me M.ok hr M.bi .nil Lp (ak (pv 1) Ln))) (aK (mD (pv 0) Lq wd)))
  (aK (cK (pw Mt (fO (pv 0) rfl) (nU (pv 2)) (nU (fO (pv 0) rfl)))))),?_⟩
 refine⟨_,rfl,a,CS,dx,_,_,rfl,ha,T.cl,T.np,c9 _ _,?_⟩
 refine⟨fun m σ H'=> ∃j,σ=[some (.ref a),some (.str y),some (.int (p:Int))]/\Moved H H' a/\SgAt CS H' a z (p+j)/\m=z.length - (p+j)/\
  (z.cps.toList.drop p).takeWhile (fun c=>decide (c∈y.cps.toList))=(z.cps.toList.drop p).take j++(z.cps.toList.drop (p+j)).takeWhile (fun c=>decide (c∈y.cps.toList))/\j<=(z.cps.toList.drop p).length,⟨_,0,rfl,Moved.refl _ _,S,rfl,by simp,DB _⟩,?_⟩
 rintro m σ H' ⟨j,rfl,mv,S',rfl,tw,jl⟩
 obtain⟨hz',hp',dx',ha'⟩:=id S'
 refine⟨_,rfl,a,dx',_,rfl,ha',c8 _ _ (by decide+kernel) (by decide+kernel),_,rfl,a,z,p+j,y,rfl,S',_,rfl,?_⟩
 refine J3 (fun c=>?_) (fun c=>?_)
 ·have lt:p+j<z.length:=by
   rcases Nat.lt_or_ge (p+j) z.length with h|h
   ·exact h
   ·unfold cV at c
    rw[Gm (by rw[aU];exact h)] at c
    cases c
  obtain⟨c0,hc0,hdr⟩:=yY lt
  have cw:decide (c0∈y.cps.toList)=true:=by
   unfold cV at c
   rw[hdr] at c
   exact c
  refine⟨_,fun σ' H'' h=>h,⟨_,rfl,a,CS,dx',_,_,rfl,ha',T.cl,T.np,c9 _ _,_,_,rfl,rfl,dx',_,ha',(by rw[j8];show 2<1000;decide),?_⟩⟩
  refine⟨z.length - (p+(j+1)),by omega,j+1,rfl,mv.trans (iA _),⟨hz,by omega,dx',?_⟩,rfl,?_,?_⟩
  ·rw[aC,pZ]
   show some (HO.ins CS dx' (I0 z (((p+j:Nat):Int)+1)))=some (HO.ins CS dx' (I0 z ((p+(j+1):Nat):Int)))
   have:((p+j:Nat):Int)+1=((p+(j+1):Nat):Int):=by omega
   rw[this]
  ·rw[tw,hdr,Ft,if_pos cw]
   have:(z.cps.toList.drop p)[j]?=some c0:=by rw[Fi];exact hc0
   rw[jk this,DL]
   rfl
  ·rw[DT,aU];omega
 ·have tn:(z.cps.toList.drop (p+j)).takeWhile (fun c=>decide (c∈y.cps.toList))=[]:=by
   unfold cV at c
   split at c
   ·rename_i h;rw[h];rfl
   ·rename_i c1 r1 h
    rw[h,Ft,if_neg c]
  rw[tn,DM] at tw
  have tl:((z.cps.toList.drop p).takeWhile fun c=>decide (c∈y.cps.toList)).length=j:=by rw[tw,DH];omega
  refine⟨_,rfl,a,CS,dx',_,_,rfl,ha',T.cl,T.nw,iE _ _,_,rfl,_,rfl,_,rfl,a,CS,dx',_,_,rfl,ha',T.cl,T.np,c9 _ _,_,rfl,z,rfl,hz,?_⟩
  have q:=k H' mv (by rw[tl];exact S')
  rw[StrLaws.sliceText_nat z (a:=p) (b:=p+j) (by omega) hp',Nat.add_sub_cancel_left,<-tw]
  exact q
end
end Q
namespace Q
open PySem L2 Wd
def IsE (H:Hp):Exp->V->Prop
 |.num n,v=> ∃p,v=.ref p/\H p=some (.tup [.str "number",.int n])
 |.box x,v=> ∃p,v=.ref p/\H p=some (.tup [.str "box",.str x])
 |.bin s l r,v=> ∃p a b,v=.ref p/\H p=some (.tup [.str s,a,b])/\IsE H l a/\IsE H r b
theorem IsE.mono {H H':Hp}(g:Same H H'): ∀ {e:Exp}{v:V},IsE H e v->IsE H' e v
 |.num _,_,⟨p,e,h⟩=>⟨p,e,g _ _ h⟩
 |.box _,_,⟨p,e,h⟩=>⟨p,e,g _ _ h⟩
 |.bin _ _ _,_,⟨p,a,b,e,h,h1,h2⟩=>⟨p,a,b,e,g _ _ h,h1.mono g,h2.mono g⟩
theorem qD {H:Hp}{a p C dx:GH}{fs:List (Str×V)}{xs:List V}(ha:H a=some (.ins C dx fs))(h:H p=some (.tup xs)):p≠a:=fun z=>by rw[z,ha] at h;cases h
theorem IsE.moved {H H':Hp}{a C dx:GH}{fs:List (Str×V)}(ha:H a=some (.ins C dx fs))(g:Moved H H' a): ∀ {e:Exp}{v:V},IsE H e v->IsE H' e v
 |.num _,_,⟨p,e,h⟩=>⟨p,e,g _ _ (qD ha h) h⟩
 |.box _,_,⟨p,e,h⟩=>⟨p,e,g _ _ (qD ha h) h⟩
 |.bin _ _ _,_,⟨p,x,y,e,h,h1,h2⟩=>⟨p,x,y,e,g _ _ (qD ha h) h,h1.moved ha g,h2.moved ha g⟩
def gQ (C CN:GH)(H:Hp)(a:GH)(z:Str)(Q:VK)(E:XK):Option (Exp×List Nat)->Prop
 |some (e,r)=> ∀v H',Moved H H' a->SgAt C H' a z (z.length - r.length)->IsE H' e v->Q v H'
 |none=> ∀H',Moved H H' a->E (.ref CN) none H'
def eG (C CN:GH)(fP:Nat->List Nat->Option (Exp×List Nat))(m:Nat):Sp:=fun vs H Q E=> ∃ (a:GH) (z:Str) (p:Nat),vs=[.ref a,.int (5 - (m:Int))]/\SgAt C H a z p/\gQ C CN H a z Q E (fP m (z.cps.toList.drop p))
def brP:Nat->List Nat->Option (Exp×List Nat)
 |0,_=>none
 |m+1,r=>bS (dj m) r
theorem uk (m:Nat)(l:List Nat):aM m l=if l.head?=some 40 then brP m l.tail else Kj l:=by
 cases m<;>rfl
def Mx (C CN:GH)(m:Nat):Sp:=fun vs H Q E=> ∃ (a:GH) (z:Str) (p:Nat) (r:List Nat),vs=[.ref a,.int (6 - (m:Int))]/\m<=5/\SgAt C H a z p/\z.cps.toList.drop p=40::r/\gQ C CN H a z Q E (brP m r)
theorem lG {f:List Nat->Option (Exp×List Nat)}{ops:List Nat}{e:Exp}: ∀ {n:Nat}{l:List Nat},(∀c r,l=c::r-> ¬c∈ops)->Ix f ops n e l=some (e,l)
 |0,_,_=>rfl
 |_+1,[],_=>rfl
 |_+1,c::r,h=>by
  unfold Ix
  rw[if_neg (h c r rfl)]
theorem y6:("+-":Str).cps.toList=Ll:=by decide+kernel
theorem y7:("*":Str).cps.toList=Lk:=by decide+kernel
theorem BZ:("(":Str).cps.toList=[40]:=by decide+kernel
theorem BY:(")":Str).cps.toList=[41]:=by decide+kernel
theorem qd {z:Str}{p:Nat}(hp:p<=z.length):z.length - (z.cps.toList.drop p).length=p:=by rw[DT,aU];omega
theorem gP {z:Str}{p c:Nat}{r:List Nat}(h:z.cps.toList.drop p=c::r):z.cps.toList[p]?=some c/\z.cps.toList.drop (p+1)=r:=by
 refine⟨?_,?_⟩
 ·have:(z.cps.toList.drop p)[0]?=some c:=by rw[h];rfl
  rw[Fi] at this
  exact this
 ·have:=congrArg (List.drop 1) h
  rw[List.drop_drop] at this
  exact this
theorem wQ {f:List Nat->Option (Exp×List Nat)}{r:List Nat}(h:f r=none):bS f r=none:=by unfold bS;rw[h]
theorem yS {f:List Nat->Option (Exp×List Nat)}{r r2:List Nat}{e:Exp}(h:f r=some (e,41::r2)):bS f r=some (e,r2):=by unfold bS;rw[h];rfl
theorem wP {f:List Nat->Option (Exp×List Nat)}{r r1:List Nat}{e:Exp}(h:f r=some (e,r1))(h2: ¬r1.head?=some 41):bS f r=none:=by
 unfold bS
 rw[h]
 split
 ·rename_i heq
  cases heq
  exact absurd rfl h2
 ·rfl
theorem jc {C:GH}{H:Hp}{a:GH}{z:Str}{p:Nat}{r:List Nat}(h:r<:+z.cps.toList.drop p):z.cps.toList.drop (z.length - r.length)=r:=by
 have:=(uH (w:=z.cps.toList) rfl h).1
 rw[aU] at this
 exact this.symm
section
variable {P:GE}{w:GF}{K:PySem.W.Frag}{mg:Str->Option GC}{base:GG}{f CS CN fG fS fK:GH}{fd fdG fdS fdK:Hn}
theorem Ml:HW ["signs", "depth", "e", "sign"] ["signs", "depth"] (ae nN):=⟨rfl,rfl,rfl,by decide+kernel,rfl,by decide+kernel,by decide+kernel⟩
theorem pA {m k:Nat}(hk:2<=k)(F:Fun K "read_terms" "read_terms" nN f fd)(T:Txt K mg CS CN)(G:CF P w K mg base (CXx P w) k "read_factors" fG fdG ["signs", "depth"] (eG CS CN bw m))
  (MS:CM P w K mg base CX0 2 CS "stands_one_of" fS fdS ["self", "wanted"] (eB CS))(MT:CM P w K mg base CX0 1 CS "take_sign" fK fdK ["self"] (jm CS)):FnOk P w K mg base (CXx P w) (k+1) f fd ["signs", "depth"] (eG CS CN dj m):=by
 refine F.okX Ml (fun vs H Q E h=>?_) (fun cdv A outer s H vs Q E hr h=>?_)
 ·obtain⟨a,z,p,rfl,_⟩:=h
  rfl
 obtain⟨a,z,p,rfl,S,k0⟩:=h
 refine⟨_,ax (dJ (i:=2) Ml.nd rfl (Or.inl rfl) (du G.ok hr rfl G.mg G.kp G.bi .nil dy (ak (pv 0) (ak (pv 1) Ln))))
  (ax (kC Hd.leaving (gm (gp (pv 0) T.cl MS.me MS.ok (hr.mono hk) MS.bi .nil Lp (ak Lr Ln)))
   (ax (dJ (i:=3) Ml.nd rfl (Or.inl rfl) (eU (pv 0) T.cl MT.me MT.ok (hr.mono (by omega)) MT.bi .nil Lp))
   (aK (dJ (i:=2) Ml.nd rfl (Or.inl rfl) (kF (ak (pv 3) (ak (pv 2) (ak (du G.ok hr rfl G.mg G.kp G.bi .nil dy (ak (pv 0) (ak (pv 1) Ln))) Ln))))))))
  (aK (cK (pv 2)))),?_⟩
 have sufG:Suf (bw m):=hZ m
 refine⟨_,rfl,_,rfl,a,z,p,rfl,S,?_⟩
 have k1:gQ CS CN H a z Q E (Lo (bw m) Ll (z.cps.toList.drop p)):=k0
 unfold Lo at k1
 cases hG:bw m (z.cps.toList.drop p) with
 |none=>
  rw[hG] at k1
  exact fun H' mv=>k1 H' mv
 |some er=>
  obtain⟨e1,r1⟩:=er
  rw[hG] at k1
  have k1:gQ CS CN H a z Q E (Ix (bw m) Ll r1.length e1 r1):=k1
  intro v1 H1 mv1 S1 i1
  have b1:z.cps.toList.drop (z.length - r1.length)=r1:=jc (C:=CS) (H:=H) (a:=a) (sufG _ _ _ hG)
  generalize hR:Ix (bw m) Ll r1.length e1 r1=R at k1
  refine⟨fun mm σ H'=> ∃ (v:V) (e:Exp) (p' n:Nat) (sg:Option V),σ=[some (.ref a),some (.int (5 - (m:Int))),some v,sg]/\Moved H H' a/\SgAt CS H' a z p'/\IsE H' e v/\(z.cps.toList.drop p').length<=n/\
   Ix (bw m) Ll n e (z.cps.toList.drop p')=R/\mm=z.length - p',⟨_,v1,e1,z.length - r1.length,r1.length,none,rfl,mv1,S1,i1,by rw[b1];exact Dl _,by rw[b1];exact hR,rfl⟩,?_⟩
  rintro mm σ H' ⟨v,e,p',n,sg,rfl,mv,S',ie,ln,ch,rfl⟩
  obtain⟨hz,hp',dx,ha⟩:=id S'
  refine⟨_,rfl,a,dx,_,rfl,ha,c8 _ _ (by decide+kernel) (by decide+kernel),a,z,p', "+-",rfl,S',_,rfl,?_⟩
  refine J3 (fun c=>?_) (fun c=>?_)
  ·unfold cV at c
   cases hd:z.cps.toList.drop p' with
   |nil=>rw[hd] at c;cases c
   |cons c0 r0=>
    rw[hd] at c ch ln
    have c0m:c0∈Ll:=by rw[<-y6];exact of_decide_eq_true c
    obtain⟨n,rfl⟩: ∃n',n=n'+1:=⟨n - 1,by rw[Di] at ln;omega⟩
    obtain⟨at0,dr0⟩:=gP hd
    unfold Ix at ch
    rw[if_pos c0m] at ch
    refine⟨_,fun σ' H'' h=>h,⟨_,rfl,a,dx,_,rfl,ha,c8 _ _ (by decide+kernel) (by decide+kernel),a,z,p',c0,rfl,S',at0,fun H2 mv2 S2=>?_⟩⟩
    obtain⟨_,hp2,dx2,ha2⟩:=id S2
    refine⟨_,rfl,_,rfl,_,rfl,_,rfl,a,z,p'+1,rfl,S2,?_⟩
    rw[dr0]
    cases hG2:bw m r0 with
    |none=>
     rw[hG2] at ch
     subst ch
     exact fun H3 mv3=>k1 H3 (mv.trans (mv2.trans mv3))
    |some er2=>
     obtain⟨e2,r2⟩:=er2
     rw[hG2] at ch
     intro v2 H3 mv3 S3 i3
     refine⟨small (by show 3<=1000;decide),fun t ht=>?_⟩
     have g4:=dk ht (.tup [.str ⟨#[c0]⟩,v,v2])
     have suf2:r2<:+z.cps.toList.drop (p'+1):=by rw[dr0];exact sufG _ _ _ hG2
     have b2:=jc (C:=CS) (H:=H) (a:=a) suf2
     have l2:r2.length<=r0.length:=(sufG _ _ _ hG2).length_le
     have l0:=iZ at0
     have l3:r0.length=z.length - (p'+1):=by rw[<-dr0,DT,aU]
     refine⟨z.length - (z.length - r2.length),by omega,.ref t,.bin ⟨#[c0]⟩ e e2,z.length - r2.length,n,_,rfl,mv.trans (mv2.trans (mv3.trans (Moved.same g4))),S3.same g4,?_,?_,?_,rfl⟩
     ·exact⟨t,v,v2,rfl,aC,((ie.moved ha mv2).moved ha2 mv3).mono g4,i3.mono g4⟩
     ·rw[b2];rw[Di] at ln;omega
     ·rw[b2];exact ch
  ·have st:Ix (bw m) Ll n e (z.cps.toList.drop p')=some (e,z.cps.toList.drop p'):=lG fun c0 r0 hd hm=>by
    unfold cV at c
    rw[hd] at c
    exact c (decide_eq_true (by rw[y6];exact hm))
   rw[st] at ch
   subst ch
   exact⟨_,rfl,k1 v H' mv (by rw[qd hp'];exact S') ie⟩
theorem Mh:HW ["signs", "depth", "e", "sign"] ["signs", "depth"] (ae iR):=⟨rfl,rfl,rfl,by decide+kernel,rfl,by decide+kernel,by decide+kernel⟩
theorem kK {m k:Nat}(hk:2<=k)(F:Fun K "read_factors" "read_factors" iR f fd)(T:Txt K mg CS CN)(G:CF P w K mg base (CXx P w) k "read_factor" fG fdG ["signs", "depth"] (eG CS CN aM m))
  (MS:CM P w K mg base CX0 2 CS "stands_one_of" fS fdS ["self", "wanted"] (eB CS))(MT:CM P w K mg base CX0 1 CS "take_sign" fK fdK ["self"] (jm CS)):FnOk P w K mg base (CXx P w) (k+1) f fd ["signs", "depth"] (eG CS CN bw m):=by
 refine F.okX Mh (fun vs H Q E h=>?_) (fun cdv A outer s H vs Q E hr h=>?_)
 ·obtain⟨a,z,p,rfl,_⟩:=h
  rfl
 obtain⟨a,z,p,rfl,S,k0⟩:=h
 refine⟨_,ax (dJ (i:=2) Mh.nd rfl (Or.inl rfl) (du G.ok hr rfl G.mg G.kp G.bi .nil dy (ak (pv 0) (ak (pv 1) Ln))))
  (ax (kC Hd.leaving (gm (gp (pv 0) T.cl MS.me MS.ok (hr.mono hk) MS.bi .nil Lp (ak Lr Ln)))
   (ax (dJ (i:=3) Mh.nd rfl (Or.inl rfl) (eU (pv 0) T.cl MT.me MT.ok (hr.mono (by omega)) MT.bi .nil Lp))
   (aK (dJ (i:=2) Mh.nd rfl (Or.inl rfl) (kF (ak (pv 3) (ak (pv 2) (ak (du G.ok hr rfl G.mg G.kp G.bi .nil dy (ak (pv 0) (ak (pv 1) Ln))) Ln))))))))
  (aK (cK (pv 2)))),?_⟩
 have sufG:Suf (aM m):=gh m
 refine⟨_,rfl,_,rfl,a,z,p,rfl,S,?_⟩
 have k1:gQ CS CN H a z Q E (Lo (aM m) Lk (z.cps.toList.drop p)):=k0
 unfold Lo at k1
 cases hG:aM m (z.cps.toList.drop p) with
 |none=>
  rw[hG] at k1
  exact fun H' mv=>k1 H' mv
 |some er=>
  obtain⟨e1,r1⟩:=er
  rw[hG] at k1
  have k1:gQ CS CN H a z Q E (Ix (aM m) Lk r1.length e1 r1):=k1
  intro v1 H1 mv1 S1 i1
  have b1:z.cps.toList.drop (z.length - r1.length)=r1:=jc (C:=CS) (H:=H) (a:=a) (sufG _ _ _ hG)
  generalize hR:Ix (aM m) Lk r1.length e1 r1=R at k1
  refine⟨fun mm σ H'=> ∃ (v:V) (e:Exp) (p' n:Nat) (sg:Option V),σ=[some (.ref a),some (.int (5 - (m:Int))),some v,sg]/\Moved H H' a/\SgAt CS H' a z p'/\IsE H' e v/\(z.cps.toList.drop p').length<=n/\
   Ix (aM m) Lk n e (z.cps.toList.drop p')=R/\mm=z.length - p',⟨_,v1,e1,z.length - r1.length,r1.length,none,rfl,mv1,S1,i1,by rw[b1];exact Dl _,by rw[b1];exact hR,rfl⟩,?_⟩
  rintro mm σ H' ⟨v,e,p',n,sg,rfl,mv,S',ie,ln,ch,rfl⟩
  obtain⟨hz,hp',dx,ha⟩:=id S'
  refine⟨_,rfl,a,dx,_,rfl,ha,c8 _ _ (by decide+kernel) (by decide+kernel),a,z,p', "*",rfl,S',_,rfl,?_⟩
  refine J3 (fun c=>?_) (fun c=>?_)
  ·unfold cV at c
   cases hd:z.cps.toList.drop p' with
   |nil=>rw[hd] at c;cases c
   |cons c0 r0=>
    rw[hd] at c ch ln
    have c0m:c0∈Lk:=by rw[<-y7];exact of_decide_eq_true c
    obtain⟨n,rfl⟩: ∃n',n=n'+1:=⟨n - 1,by rw[Di] at ln;omega⟩
    obtain⟨at0,dr0⟩:=gP hd
    unfold Ix at ch
    rw[if_pos c0m] at ch
    refine⟨_,fun σ' H'' h=>h,⟨_,rfl,a,dx,_,rfl,ha,c8 _ _ (by decide+kernel) (by decide+kernel),a,z,p',c0,rfl,S',at0,fun H2 mv2 S2=>?_⟩⟩
    obtain⟨_,hp2,dx2,ha2⟩:=id S2
    refine⟨_,rfl,_,rfl,_,rfl,_,rfl,a,z,p'+1,rfl,S2,?_⟩
    rw[dr0]
    cases hG2:aM m r0 with
    |none=>
     rw[hG2] at ch
     subst ch
     exact fun H3 mv3=>k1 H3 (mv.trans (mv2.trans mv3))
    |some er2=>
     obtain⟨e2,r2⟩:=er2
     rw[hG2] at ch
     intro v2 H3 mv3 S3 i3
     refine⟨small (by show 3<=1000;decide),fun t ht=>?_⟩
     have g4:=dk ht (.tup [.str ⟨#[c0]⟩,v,v2])
     have suf2:r2<:+z.cps.toList.drop (p'+1):=by rw[dr0];exact sufG _ _ _ hG2
     have b2:=jc (C:=CS) (H:=H) (a:=a) suf2
     have l2:r2.length<=r0.length:=(sufG _ _ _ hG2).length_le
     have l0:=iZ at0
     have l3:r0.length=z.length - (p'+1):=by rw[<-dr0,DT,aU]
     refine⟨z.length - (z.length - r2.length),by omega,.ref t,.bin ⟨#[c0]⟩ e e2,z.length - r2.length,n,_,rfl,mv.trans (mv2.trans (mv3.trans (Moved.same g4))),S3.same g4,?_,?_,?_,rfl⟩
     ·exact⟨t,v,v2,rfl,aC,((ie.moved ha mv2).moved ha2 mv3).mono g4,i3.mono g4⟩
     ·rw[b2];rw[Di] at ln;omega
     ·rw[b2];exact ch
  ·have st:Ix (aM m) Lk n e (z.cps.toList.drop p')=some (e,z.cps.toList.drop p'):=lG fun c0 r0 hd hm=>by
    unfold cV at c
    rw[hd] at c
    exact c (decide_eq_true (by rw[y7];exact hm))
   rw[st] at ch
   subst ch
   exact⟨_,rfl,k1 v H' mv (by rw[qd hp'];exact S') ie⟩
theorem Mc:HW ["signs", "depth", "e"] ["signs", "depth"] (ae ij):=⟨rfl,rfl,rfl,by decide+kernel,rfl,by decide+kernel,by decide+kernel⟩
theorem Az (F:Fun K "read_bracket" "read_bracket" ij f fd)(T:Txt K mg CS CN):FnOk P w K mg base (CXx P w) 1 f fd ["signs", "depth"] (Mx CS CN 0):=by
 refine F.okX Mc (fun vs H Q E h=>?_) (fun cdv A outer s H vs Q E hr h=>?_)
 ·obtain⟨a,z,p,r,rfl,_⟩:=h
  rfl
 obtain⟨a,z,p,r,rfl,h5,S,hd,k0⟩:=h
 obtain⟨t5,g5⟩:=T.n5
 refine⟨_,ax (gW (dW mI (pv 1) (cZ (v:=.int 5) rfl g5 ⟨_,rfl⟩) (eW _)) (aK (eS eC rfl rfl T.mgN T.exN (ak Lr Ln))) Ly) tz,?_⟩
 refine⟨_,rfl,_,_,rfl,rfl,_,rfl,?_⟩
 refine J5 ⟨small (by show 1<=1000;decide),k0 H (Moved.refl _ _)⟩
theorem B4 {m k:Nat}(hk:2<=k)(F:Fun K "read_bracket" "read_bracket" ij f fd)(T:Txt K mg CS CN)(G:CF P w K mg base (CXx P w) k "read_terms" fG fdG ["signs", "depth"] (eG CS CN dj m))
  (MS:CM P w K mg base CX0 2 CS "stands_one_of" fS fdS ["self", "wanted"] (eB CS))(MT:CM P w K mg base CX0 1 CS "take_sign" fK fdK ["self"] (jm CS)):FnOk P w K mg base (CXx P w) (k+1) f fd ["signs", "depth"] (Mx CS CN (m+1)):=by
 refine F.okX Mc (fun vs H Q E h=>?_) (fun cdv A outer s H vs Q E hr h=>?_)
 ·obtain⟨a,z,p,r,rfl,_⟩:=h
  rfl
 obtain⟨a,z,p,r,rfl,h5,S,hd,k0⟩:=h
 obtain⟨t5,g5⟩:=T.n5
 refine⟨_,ax (gW (dW mI (pv 1) (cZ (v:=.int 5) rfl g5 ⟨_,rfl⟩) (eW _)) (aK (eS eC rfl rfl T.mgN T.exN (ak Lr Ln))) Ly)
  (ax (jW (eU (pv 0) T.cl MT.me MT.ok (hr.mono (by omega)) MT.bi .nil Lp))
  (ax (dJ (i:=2) Mc.nd rfl (Or.inl rfl) (du G.ok hr rfl G.mg G.kp G.bi .nil dy (ak (pv 0) (ak (pv 1) Ln))))
  (ax (gW (qS (gm (gp (pv 0) T.cl MS.me MS.ok (hr.mono hk) MS.bi .nil Lp (ak Lr Ln)))) (aK (eS eC rfl rfl T.mgN T.exN (ak Lr Ln))) Ly)
  (ax (jW (eU (pv 0) T.cl MT.me MT.ok (hr.mono (by omega)) MT.bi .nil Lp))
  (aK (cK (pv 2))))))),?_⟩
 obtain⟨hz,hp,dx,ha⟩:=id S
 obtain⟨at0,dr0⟩:=gP hd
 refine⟨_,rfl,_,_,rfl,rfl,_,rfl,?_⟩
 refine J3 (fun c=>?_) (fun c=>?_)
 ·have c1:(6 - ((m+1:Nat):Int))>5:=of_decide_eq_true c
  omega
 ·refine⟨_,rfl,a,dx,_,rfl,ha,c8 _ _ (by decide+kernel) (by decide+kernel),a,z,p,40,rfl,S,at0,fun H1 mv1 S1=>?_⟩
  have e6:(6 - ((m+1:Nat):Int))=5 - (m:Int):=by omega
  refine⟨_,rfl,_,rfl,a,z,p+1,by show [V.ref a,V.int (6 - ((m+1:Nat):Int))]=_;rw[e6],S1,?_⟩
  rw[dr0]
  have k1:gQ CS CN H a z Q E (bS (dj m) r):=k0
  cases hG:dj m r with
  |none=>
   rw[wQ hG] at k1
   exact fun H' mv=>k1 H' (mv1.trans mv)
  |some er=>
   obtain⟨e1,r1⟩:=er
   intro v2 H2 mv2 S2 i2
   obtain⟨_,hp2,dx2,ha2⟩:=id S2
   have suf1:r1<:+z.cps.toList.drop (p+1):=by rw[dr0];exact mn m _ _ _ hG
   have b1:=jc (C:=CS) (H:=H) (a:=a) suf1
   refine⟨_,rfl,a,dx2,_,rfl,ha2,c8 _ _ (by decide+kernel) (by decide+kernel),a,z,_, ")",rfl,S2,_,rfl,?_⟩
   have st:cV z (z.length - r1.length) ")"=decide (r1.head?=some 41):=by
    unfold cV
    rw[b1]
    cases r1 with
    |nil=>rfl
    |cons c0 r0=>
     show decide (c0∈(")":Str).cps.toList)=decide (some c0=some 41)
     rw[BY,decide_eq_decide]
     simp
   rw[st]
   by_cases h41:r1.head?=some 41
   ·rw[decide_eq_true h41]
    obtain⟨r2,rfl⟩: ∃r2,r1=41::r2:=by
     cases r1 with
     |nil=>cases h41
     |cons c0 r0=>have:c0=41:=by simpa using h41
                  subst this;exact⟨r0,rfl⟩
    obtain⟨at1,dr1⟩:=gP b1
    refine J4 ⟨_,rfl,a,dx2,_,rfl,ha2,c8 _ _ (by decide+kernel) (by decide+kernel),a,z,_,41,rfl,S2,at1,fun H3 mv3 S3=>⟨_,rfl,?_⟩⟩
    rw[yS hG] at k1
    have k2: ∀v H',Moved H H' a->SgAt CS H' a z (z.length - r2.length)->IsE H' e1 v->Q v H':=k1
    refine k2 v2 H3 (mv1.trans (mv2.trans mv3)) ?_ (i2.moved ha2 mv3)
    have l1:=iZ at1
    have:z.length - (41::r2).length+1=z.length - r2.length:=by
     have:=suf1.length_le
     rw[DT,aU,Di] at this
     rw[Di];omega
    rw[this] at S3
    exact S3
   ·rw[decide_eq_false h41]
    refine J5 ⟨small (by show 1<=1000;decide),?_⟩
    rw[wP hG h41] at k1
    have k2: ∀H',Moved H H' a->E (.ref CN) none H':=k1
    exact k2 H2 (mv1.trans mv2)
theorem Me:HW ["signs", "depth", "factor"] ["signs", "depth"] (ae jU):=⟨rfl,rfl,rfl,by decide+kernel,rfl,by decide+kernel,by decide+kernel⟩
theorem BB:LET.length+FIG.length<=sizeLine:=by decide+kernel
theorem kL {z:Str}(h:K1 z=true):PySem.intText? z=some (cL z)/\z.length<=640:=by
 unfold K1 at h
 simp only[Dx,decide_eq_true_eq] at h
 obtain⟨⟨h1,h2⟩,_,h4⟩:=h
 refine⟨?_,by omega⟩
 refine PySem.intText_digits (fun c hc=>?_) (fun e=>?_) (by omega)
 ·exact JX.mp (DC.mp h4 c hc)
 ·have:=aU z;rw[e] at this;simp at this;omega
theorem mJ {m k:Nat}{fN fM fR:GH}{fdN fdM fdR:Hn}(hk:3<=k)(hm5:m<=5)(F:Fun K "read_factor" "read_factor" jU f fd)(T:Txt K mg CS CN)(G:CF P w K mg base (CXx P w) k "read_bracket" fG fdG ["signs", "depth"] (Mx CS CN m))
  (MS:CM P w K mg base CX0 2 CS "stands_one_of" fS fdS ["self", "wanted"] (eB CS))(MR:CM P w K mg base CX0 3 CS "run_of" fR fdR ["self", "wanted"] (MB CS))
  (FN:CF P w K mg base CX0 1 "is_name" fN fdN ["word"] kr)(FM:CF P w K mg base CX0 1 "is_number" fM fdM ["word"] MA):FnOk P w K mg base (CXx P w) (k+1) f fd ["signs", "depth"] (eG CS CN aM m):=by
 refine F.okX Me (fun vs H Q E h=>?_) (fun cdv A outer s H vs Q E hr h=>?_)
 ·obtain⟨a,z,p,rfl,_⟩:=h
  rfl
 obtain⟨a,z,p,rfl,S,k0⟩:=h
 obtain⟨tL,hL⟩:=T.let_
 obtain⟨tF,hF⟩:=T.fig
 refine⟨_,ax (gW (gm (gp (pv 0) T.cl MS.me MS.ok (hr.mono (by omega)) MS.bi .nil Lp (ak Lr Ln))) (aK (cK (du G.ok hr rfl G.mg G.kp G.bi .nil dy (ak (pv 0) (ak (rZ K9 (pv 1) Lq) Ln))))) Ly)
  (ax (dJ (i:=2) Me.nd rfl (Or.inl rfl) (gp (pv 0) T.cl MR.me MR.ok (hr.mono hk) MR.bi .nil Lp (ak (rZ La (cZ (v:=.str LET) rfl hL ⟨_,rfl⟩) (cZ (v:=.str FIG) rfl hF ⟨_,rfl⟩)) Ln)))
  (ax (gW (gm (du FN.ok (hr.mono (by omega)) rfl FN.mg FN.kp FN.bi .nil Lp (ak (pv 2) Ln))) (aK (cK (kF (ak Lr (ak (pv 2) Ln))))) Ly)
  (ax (gW (gm (du FM.ok (hr.mono (by omega)) rfl FM.mg FM.kp FM.bi .nil Lp (ak (pv 2) Ln))) (aK (cK (kF (ak Lr (ak (mE i9 rfl T.int PyProof.Rows.boot_int (ak (pv 2) Ln)) Ln))))) Ly)
  (aK (eS eC rfl rfl T.mgN T.exN (ak Lr Ln)))))),?_⟩
 obtain⟨hz,hp,dx,ha⟩:=id S
 refine⟨_,rfl,a,dx,_,rfl,ha,c8 _ _ (by decide+kernel) (by decide+kernel),a,z,p, "(",rfl,S,_,rfl,?_⟩
 rw[uk] at k0
 have st:cV z p "("=decide ((z.cps.toList.drop p).head?=some 40):=by
  unfold cV
  cases hd:z.cps.toList.drop p with
  |nil=>rfl
  |cons c0 r0=>
   show decide (c0∈("(":Str).cps.toList)=decide (some c0=some 40)
   rw[BZ,decide_eq_decide]
   simp
 rw[st]
 by_cases h40:(z.cps.toList.drop p).head?=some 40
 ·rw[decide_eq_true h40]
  rw[if_pos h40] at k0
  obtain⟨r,hd⟩: ∃r,z.cps.toList.drop p=40::r:=by
   cases hd:z.cps.toList.drop p with
   |nil=>rw[hd] at h40;cases h40
   |cons c0 r0=>rw[hd] at h40
                have:c0=40:=by simpa using h40
                subst this;exact⟨r0,rfl⟩
  rw[hd] at k0
  refine J5 ⟨_,rfl,_,rfl,_,_,rfl,rfl,a,z,p,r,?_,hm5,S,hd,k0⟩
  show [V.ref a,V.int (5 - (m:Int)+1)]=_
  have:(5 - (m:Int)+1)=6 - (m:Int):=by omega
  rw[this]
 ·rw[decide_eq_false h40]
  rw[if_neg h40] at k0
  refine J4 ⟨_,rfl,a,dx,_,rfl,ha,c8 _ _ (by decide+kernel) (by decide+kernel),_,_,rfl,rfl,BB,a,z,p,LET++FIG,rfl,S,fun H1 mv1 S1=>?_⟩
  have ean:(fun c=>decide (c∈(LET++FIG).cps.toList))=JU:=rfl
  rw[ean] at S1 ⊢
  have fl:(⟨((z.cps.toList.drop p).takeWhile JU).toArray⟩:Str).length<=sizeLine:=by
   show (((z.cps.toList.drop p).takeWhile JU).toArray).size<=sizeLine
   rw[Du]
   have:=(List.takeWhile_sublist (l:=z.cps.toList.drop p) JU).length_le
   rw[DT,aU] at this
   omega
  have dw:z.length - ((z.cps.toList.drop p).dropWhile JU).length=p+((z.cps.toList.drop p).takeWhile JU).length:=by
   have e:=congrArg List.length (Gn (p:=JU) (l:=z.cps.toList.drop p))
   rw[Dk,DT,aU] at e
   omega
  unfold Kj at k0
  refine⟨_,rfl,_,rfl,fl,fun H2 g2=>⟨_,rfl,?_⟩⟩
  refine J3 (fun c=>?_) (fun c=>?_)
  ·rw[if_pos c] at k0
   have k1: ∀v H',Moved H H' a->SgAt CS H' a z (z.length - ((z.cps.toList.drop p).dropWhile JU).length)->IsE H' (.box ⟨((z.cps.toList.drop p).takeWhile JU).toArray⟩) v->Q v H':=k0
   refine⟨_,rfl,small (by show 2<=1000;decide),fun t ht=>?_⟩
   refine k1 _ _ (mv1.trans ((Moved.same g2).trans (Moved.same (dk ht _)))) ?_ ⟨t,rfl,aC⟩
   rw[dw]
   exact (S1.same g2).same (dk ht _)
  ·rw[if_neg c] at k0
   refine⟨_,rfl,_,rfl,fl,fun H3 g3=>⟨_,rfl,?_⟩⟩
   refine J3 (fun c2=>?_) (fun c2=>?_)
   ·rw[if_pos c2] at k0
    have k1: ∀v H',Moved H H' a->SgAt CS H' a z (z.length - ((z.cps.toList.drop p).dropWhile JU).length)->IsE H' (.num (cL ⟨((z.cps.toList.drop p).takeWhile JU).toArray⟩)) v->Q v H':=k0
    obtain⟨n1,n2⟩:=kL c2
    refine⟨_,rfl,_,_,rfl,n1,n2,small (by show 2<=1000;decide),fun t ht=>?_⟩
    refine k1 _ _ (mv1.trans ((Moved.same g2).trans ((Moved.same g3).trans (Moved.same (dk ht _))))) ?_ ⟨t,rfl,aC⟩
    rw[dw]
    exact ((S1.same g2).same g3).same (dk ht _)
   ·rw[if_neg c2] at k0
    exact⟨small (by show 1<=1000;decide),k0 H3 (mv1.trans ((Moved.same g2).trans (Moved.same g3)))⟩
end
end Q
namespace Q
open PySem L2 Wd
def Told (CN:GH)(H:Hp)(Q:VK)(E:XK):Option Exp->Prop
 |some e=> ∀v H',Same H H'->IsE H' e v->Q v H'
 |none=> ∀H',Same H H'->E (.ref CN) none H'
def nI (CN:GH):Sp:=fun vs H Q E=> ∃z:Str,vs=[.str z]/\z.length<=sizeLine/\Told CN H Q E (IT z)
section
variable {P:GE}{w:GF}{K:PySem.W.Frag}{mg:Str->Option GC}{base:GG}{f CS CN fT fI fD:GH}{fd fdT fdI fdD:Hn}
theorem Md:HW ["word", "signs", "e"] ["word"] (ae LV):=⟨rfl,rfl,rfl,by decide+kernel,rfl,by decide+kernel,by decide+kernel⟩
theorem xT {k:Nat}(hk:2<=k)(F:Fun K "expression" "expression" LV f fd)(T:Txt K mg CS CN)(G:CF P w K mg base (CXx P w) k "read_terms" fT fdT ["signs", "depth"] (eG CS CN dj 5))
  (M:Mk K CS fI)(GI:FnOk P w K mg base CX0 1 fI fdI ["self", "word"] (rO CS))(bI:Binds K fdI ["self", "word"] [])(MD:CM P w K mg base CX0 1 CS "is_done" fD fdD ["self"] (nJ CS)):FnOk P w K mg base (CXx P w) (k+1) f fd ["word"] (nI CN):=by
 refine F.okX Md (fun vs H Q E h=>?_) (fun cdv A outer s H vs Q E hr h=>?_)
 ·obtain⟨z,rfl,_⟩:=h
  rfl
 obtain⟨z,rfl,hz,k0⟩:=h
 obtain⟨t60,h60⟩:=T.n60
 refine⟨_,ax (gW (dW mI (dt Iu rfl T.len PySem.boot_len (ak (pv 0) Ln)) (cZ (v:=.int 60) rfl h60 ⟨_,rfl⟩) (eW _)) (aK (eS eC rfl rfl T.mgN T.exN (ak Lr Ln))) Ly)
  (ax (dJ (i:=1) Md.nd rfl (Or.inl rfl) (xJ M GI (hr.mono hk) rfl T.mgS bI .nil Lp (ak (pv 0) Ln)))
  (ax (dJ (i:=2) Md.nd rfl (Or.inl rfl) (du G.ok hr rfl G.mg G.kp G.bi .nil dy (ak (pv 1) (ak Lq Ln))))
  (ax (gW (qS (gm (eU (pv 1) T.cl MD.me MD.ok (hr.mono (by omega)) MD.bi .nil Lp))) (aK (eS eC rfl rfl T.mgN T.exN (ak Lr Ln))) Ly)
  (aK (cK (pv 2)))))),?_⟩
 refine⟨_,rfl,z,rfl,hz,_,_,rfl,rfl,_,rfl,?_⟩
 unfold IT at k0
 refine J3 (fun c=>?_) (fun c=>?_)
 ·have c1:(z.length:Int)>60:=of_decide_eq_true c
  rw[if_pos (by omega)] at k0
  exact⟨small (by show 1<=1000;decide),k0 H (Same.refl _)⟩
 ·have c1: ¬(z.length:Int)>60:=of_decide_eq_false (Et.mpr c)
  rw[if_neg (by omega)] at k0
  refine⟨_,rfl,fun x dx nx ndx nex=>?_⟩
  refine⟨x,dx,z,rfl,aC,hz,fun H1 mv1 S1=>⟨rfl,?_⟩⟩
  have s0: ∀ {H2:Hp},Moved H1 H2 x->Same H H2:=fun{H2} mv b o e=>mv b o (bg e nx) (mv1 b o (bg e nx) (by rw[ap (bg e nx),ap (bg e ndx)];exact e))
  refine⟨_,rfl,x,z,0,rfl,S1,?_⟩
  rw[Ek]
  cases hG:dj 5 z.cps.toList with
  |none=>
   rw[hG] at k0
   exact fun H2 mv2=>k0 H2 (s0 mv2)
  |some er=>
   obtain⟨e1,r1⟩:=er
   rw[hG] at k0
   intro v2 H2 mv2 S2 i2
   obtain⟨_,hp2,dx2,ha2⟩:=id S2
   refine⟨_,rfl,x,dx2,_,rfl,ha2,c8 _ _ (by decide+kernel) (by decide+kernel),x,z,_,rfl,S2,_,rfl,?_⟩
   have rl:r1.length<=z.length:=by
    have:=(mn 5 _ _ _ hG).length_le
    rw[aU] at this;exact this
   cases r1 with
   |nil=>
    have k1: ∀v H',Same H H'->IsE H' e1 v->Q v H':=k0
    rw[decide_eq_true (by simp:z.length - ([]:List Nat).length=z.length)]
    exact J4 ⟨_,rfl,k1 v2 H2 (s0 mv2) i2⟩
   |cons c0 r0=>
    have k1: ∀H',Same H H'->E (.ref CN) none H':=k0
    rw[decide_eq_false (by rw[Di] at rl ⊢;omega)]
    exact J5 ⟨small (by show 1<=1000;decide),k1 H2 (s0 mv2)⟩
end
section
variable {P:GE}{w:GF}{K:PySem.W.Frag}{mg:Str->Option GC}{base:GG}{CS CN fT fF fA fB fS fK fN fM fR:GH}{fdT fdF fdA fdB fdS fdK fdN fdM fdR:Hn}
theorem rR (T:Txt K mg CS CN)(FT:Fun K "read_terms" "read_terms" nN fT fdT)(bT:Binds K fdT ["signs", "depth"] [])(mT:mg "read_terms"=some (.ref fT))
  (FF:Fun K "read_factors" "read_factors" iR fF fdF)(bF:Binds K fdF ["signs", "depth"] [])(mF:mg "read_factors"=some (.ref fF))
  (FA:Fun K "read_factor" "read_factor" jU fA fdA)(bA:Binds K fdA ["signs", "depth"] [])(mA:mg "read_factor"=some (.ref fA))
  (FB:Fun K "read_bracket" "read_bracket" ij fB fdB)(bB:Binds K fdB ["signs", "depth"] [])(mB:mg "read_bracket"=some (.ref fB))
  (MS:CM P w K mg base CX0 2 CS "stands_one_of" fS fdS ["self", "wanted"] (eB CS))(MT:CM P w K mg base CX0 1 CS "take_sign" fK fdK ["self"] (jm CS))(MR:CM P w K mg base CX0 3 CS "run_of" fR fdR ["self", "wanted"] (MB CS))
  (CN':CF P w K mg base CX0 1 "is_name" fN fdN ["word"] kr)(CM':CF P w K mg base CX0 1 "is_number" fM fdM ["word"] MA):
  ∀m,m<=5->CF P w K mg base (CXx P w) (4 * m+7) "read_terms" fT fdT ["signs", "depth"] (eG CS CN dj m)
 |0,h=>by
  have B0:CF P w K mg base (CXx P w) 4 "read_bracket" fB fdB ["signs", "depth"] (Mx CS CN 0):=⟨(Az FB T).mono (by decide),bB,FB.kp,mB⟩
  have A0:CF P w K mg base (CXx P w) 5 "read_factor" fA fdA ["signs", "depth"] (eG CS CN aM 0):=⟨mJ (by decide) h FA T B0 MS MR CN' CM',bA,FA.kp,mA⟩
  have F0:CF P w K mg base (CXx P w) 6 "read_factors" fF fdF ["signs", "depth"] (eG CS CN bw 0):=⟨kK (by decide) FF T A0 MS MT,bF,FF.kp,mF⟩
  exact⟨pA (by decide) FT T F0 MS MT,bT,FT.kp,mT⟩
 |m+1,h=>by
  have T0:=rR T FT bT mT FF bF mF FA bA mA FB bB mB MS MT MR CN' CM' m (by omega)
  have B0:CF P w K mg base (CXx P w) (4 * m+8) "read_bracket" fB fdB ["signs", "depth"] (Mx CS CN (m+1)):=⟨B4 (by omega) FB T T0 MS MT,bB,FB.kp,mB⟩
  have A0:CF P w K mg base (CXx P w) (4 * m+9) "read_factor" fA fdA ["signs", "depth"] (eG CS CN aM (m+1)):=⟨mJ (by omega) h FA T B0 MS MR CN' CM',bA,FA.kp,mA⟩
  have F0:CF P w K mg base (CXx P w) (4 * m+10) "read_factors" fF fdF ["signs", "depth"] (eG CS CN bw (m+1)):=⟨kK (by omega) FF T A0 MS MT,bF,FF.kp,mF⟩
  exact⟨pA (by omega) FT T F0 MS MT,bT,FT.kp,mT⟩
end
end Q
namespace Wd
open PySem L2
theorem gM {f:List Nat->Option (Exp×List Nat)}{ops:List Nat}(hf:Suf f): ∀ (n:Nat) (e:Exp) (l:List Nat),l.length<=n->Ix f ops n e l=Ix f ops l.length e l
 |0,e,[],_=>rfl
 |0,e,c::r,h=>by simp at h
 |n+1,e,[],_=>rfl
 |n+1,e,c::r,h=>by
  rw[Di] at h ⊢
  unfold Ix
  split
  ·cases hr:f r with
   |none=>rfl
   |some er=>
    obtain⟨e2,r2⟩:=er
    have l2:=(hf r e2 r2 hr).length_le
    show Ix f ops n (.bin ⟨#[c]⟩ e e2) r2=Ix f ops r.length (.bin ⟨#[c]⟩ e e2) r2
    rw[gM hf n _ r2 (by omega),gM hf r.length _ r2 l2]
  ·rfl
theorem lH (f:List Nat->Option (Exp×List Nat))(ops:List Nat)(n:Nat)(e:Exp)(c:Nat)(r:List Nat):Ix f ops (n+1) e (c::r)=if c∈ops then (match f r with
 |none=>none
 |some (e2,r2)=>Ix f ops n (.bin ⟨#[c]⟩ e e2) r2) else some (e,c::r):=rfl
theorem jE {f:List Nat->Option (Exp×List Nat)}{ops:List Nat}{e:Exp}{n:Nat}{l:List Nat}(h:∀c r,l=c::r-> ¬c∈ops):Ix f ops n e l=some (e,l):=by
 cases n with
 |zero=>rfl
 |succ n=>cases l with
  |nil=>rfl
  |cons c r=>unfold Ix;rw[if_neg (h c r rfl)]
def K0 (l:List Nat):Prop:= ∀c r,l=c::r->JU c=false
noncomputable def qZ (l:List Nat):Prop:= ∀c r,l=c::r->c≠42
def AtomT (W:List Nat)(e:Exp)(d:Nat):Prop:= ∀m LH,K0 LH->aM m (W++LH)=if d<=m then some (e,LH) else none
def ProdT (W:List Nat)(e:Exp)(d:Nat):Prop:= ∀m LH,K0 LH->bw m (W++LH)=if d<=m then Ix (aM m) Lk LH.length e LH else none
def SumT (W:List Nat)(e:Exp)(d:Nat):Prop:= ∀m LH,K0 LH->qZ LH->dj m (W++LH)=if d<=m then Ix (bw m) Ll LH.length e LH else none
theorem AtomT.prod {W:List Nat}{e:Exp}{d:Nat}(h:AtomT W e d):ProdT W e d:=fun m LH hr=>by
 unfold bw Lo
 rw[h m LH hr]
 by_cases hd:d<=m
 ·rw[if_pos hd,if_pos hd]
 ·rw[if_neg hd,if_neg hd]
theorem mw {l:List Nat}(h:qZ l): ∀c r,l=c::r-> ¬c∈Lk:=fun c r e hm=>h c r e (by simpa [Lk] using hm)
theorem ProdT.sum {W:List Nat}{e:Exp}{d:Nat}(h:ProdT W e d):SumT W e d:=fun m LH hr hs=>by
 unfold dj Lo
 rw[h m LH hr]
 by_cases hd:d<=m
 ·rw[if_pos hd,if_pos hd,jE (mw hs)]
 ·rw[if_neg hd,if_neg hd]
theorem oj {c:Nat}{r:List Nat}(h:JU c=false):K0 (c::r):=fun c' r' e=>by cases e;exact h
theorem mK {c:Nat}{r:List Nat}(h:c≠42):qZ (c::r):=fun c' r' e=>by cases e;exact h
theorem lQ {c:Nat}(h:c=40\/c=41\/c=42\/c=43\/c=45):JU c=false:=by
 rw[i0]
 cases h1:JY c with
 |true=>have:=JZ.mp h1;omega
 |false=>
  cases h2:JV c with
  |true=>have:=JX.mp h2;omega
  |false=>rfl
theorem SumT.bracket {W:List Nat}{e:Exp}{d:Nat}(h:SumT W e d):AtomT (40::(W++[41])) e (d+1):=fun m LH hr=>by
 cases m with
 |zero=>
  rw[if_neg (by omega)]
  rfl
 |succ m=>
  show (if (some 40:Option Nat)=some 40 then bS (dj m) ((W++[41])++LH) else Kj _)=_
  rw[if_pos rfl]
  unfold bS
  rw[DL]
  show (match dj m (W++(41::LH)) with|some (e,41::r2)=>some (e,r2)|_=>none)=_
  rw[h m (41::LH) (oj (lQ (by omega))) (mK (by decide))]
  by_cases hd:d<=m
  ·rw[if_pos hd,if_pos (by omega),jE (fun c r e hm=>by cases e;simp [Ll] at hm)];rfl
  ·rw[if_neg hd,if_neg (by omega)]
theorem SumT.bin {Wl Wr:List Nat}{l r:Exp}{dl dr c:Nat}(hl:SumT Wl l dl)(hr:ProdT Wr r dr)(hc:c=43\/c=45):SumT (Wl++c::Wr) (.bin ⟨#[c]⟩ l r) (max dl dr):=fun m LH hn hs=>by
 have e0:(Wl++c::Wr)++LH=Wl++(c::(Wr++LH)):=by simp
 rw[e0,hl m _ (oj (lQ (by omega))) (mK (by omega))]
 by_cases h1:dl<=m
 ·rw[if_pos h1,Di]
  rw[lH,if_pos (by simp [Ll];omega),hr m LH hn]
  by_cases h2:dr<=m
  ·rw[if_pos h2,if_pos (by omega),jE (mw hs)]
   exact gM (hZ m) (Wr++LH).length _ LH (by rw[Dk];omega)
  ·rw[if_neg h2,if_neg (by omega)]
 ·rw[if_neg h1,if_neg (by omega)]
theorem ProdT.bin {Wl Wr:List Nat}{l r:Exp}{dl dr:Nat}(hl:ProdT Wl l dl)(hr:AtomT Wr r dr):ProdT (Wl++42::Wr) (.bin ⟨#[42]⟩ l r) (max dl dr):=fun m LH hn=>by
 have e0:(Wl++42::Wr)++LH=Wl++(42::(Wr++LH)):=by simp
 rw[e0,hl m _ (oj (lQ (by omega)))]
 by_cases h1:dl<=m
 ·rw[if_pos h1,Di]
  rw[lH,if_pos (by simp [Lk]),hr m LH hn]
  by_cases h2:dr<=m
  ·rw[if_pos h2,if_pos (by omega)]
   exact gM (gh m) (Wr++LH).length _ LH (by rw[Dk];omega)
  ·rw[if_neg h2,if_neg (by omega)]
 ·rw[if_neg h1,if_neg (by omega)]
theorem fJ {p:Nat->Bool}: ∀ {W LH:List Nat},W.all p=true->(∀c r,LH=c::r->p c=false)->(W++LH).takeWhile p=W/\(W++LH).dropWhile p=LH
 |[],LH,_,h=>by
  cases LH with
  |nil=>exact⟨rfl,rfl⟩
  |cons c r=>
   have:=h c r rfl
   simp [Ft,Gp,this]
 |c::W,LH,hw,h=>by
  rw[Es,Dx] at hw
  obtain⟨a,b⟩:=fJ (W:=W) hw.2 h
  simp [Ft,Gp,hw.1,a,b]
theorem wR {z:Str}(h:af z=true):AtomT z.cps.toList (.box z) 0:=fun m LH hr=>by
 have h':=h
 unfold af at h'
 simp only[Dx,decide_eq_true_eq] at h'
 obtain⟨⟨h1,h2⟩,h3,h4⟩:=h'
 have an:z.cps.toList.all JU=true:=by
  rw[DC] at h3 ⊢
  intro c hc
  rw[i0,h3 c hc];rfl
 obtain⟨t1,t2⟩:=fJ an hr
 obtain⟨c0,r0,e0⟩: ∃c0 r0,z.cps.toList=c0::r0:=by
  cases hz:z.cps.toList with
  |nil=>have:z.length=0:=by show z.cps.size=0;rw[<-EO,hz];rfl
        omega
  |cons a b=>exact⟨a,b,rfl⟩
 have hd: ¬(z.cps.toList++LH).head?=some 40:=by
  rw[e0]
  intro h40
  have:c0=40:=by simpa using h40
  rw[DC] at an
  have a0:=an c0 (by rw[e0];exact Dt)
  rw[this,lQ (by omega)] at a0
  cases a0
 have ez:(⟨z.cps.toList.toArray⟩:Str)=z:=by cases z;simp
 have lf:aM m (z.cps.toList++LH)=Kj (z.cps.toList++LH):=by
  cases m<;>(unfold aM;rw[if_neg hd])
 rw[lf,if_pos (DB _)]
 unfold Kj
 rw[t1,t2,ez,if_pos h]
theorem K2 {z:Str}(h:K1 z=true):AtomT z.cps.toList (.num (cL z)) 0:=fun m LH hr=>by
 have h':=h
 unfold K1 at h'
 simp only[Dx,decide_eq_true_eq] at h'
 obtain⟨⟨h1,h2⟩,_,h3⟩:=h'
 have an:z.cps.toList.all JU=true:=by
  rw[DC] at h3 ⊢
  intro c hc
  rw[i0,h3 c hc,Bool.or_true]
 obtain⟨t1,t2⟩:=fJ an hr
 obtain⟨c0,r0,e0⟩: ∃c0 r0,z.cps.toList=c0::r0:=by
  cases hz:z.cps.toList with
  |nil=>have:z.length=0:=by show z.cps.size=0;rw[<-EO,hz];rfl
        omega
  |cons a b=>exact⟨a,b,rfl⟩
 have hd: ¬(z.cps.toList++LH).head?=some 40:=by
  rw[e0]
  intro h40
  have:c0=40:=by simpa using h40
  rw[DC] at an
  have a0:=an c0 (by rw[e0];exact Dt)
  rw[this,lQ (by omega)] at a0
  cases a0
 have ez:(⟨z.cps.toList.toArray⟩:Str)=z:=by cases z;simp
 have nn: ¬af z=true:=fun hn=>by
  unfold af at hn
  simp only[Dx] at hn
  have a:=DC.mp hn.2.1 c0 (by rw[e0];exact Dt)
  have b:=DC.mp h3 c0 (by rw[e0];exact Dt)
  have a:=JZ.mp a
  have b:=JX.mp b
  omega
 have lf:aM m (z.cps.toList++LH)=Kj (z.cps.toList++LH):=by
  cases m<;>(unfold aM;rw[if_neg hd])
 rw[lf,if_pos (DB _)]
 unfold Kj
 rw[t1,t2,ez,if_neg nn,if_pos h]
theorem SumT.expr {z:Str}{e:Exp}{d:Nat}(h:SumT z.cps.toList e d):IT z=if z.length>60\/d>5 then none else some e:=by
 unfold IT
 by_cases h1:z.length>60
 ·rw[if_pos h1,if_pos (.inl h1)]
 ·rw[if_neg h1]
  have q:=h 5 [] (fun c r e=>by cases e) (fun c r e=>by cases e)
  rw[DM] at q
  rw[q]
  by_cases h2:d<=5
  ·rw[if_pos h2,if_neg (by omega)];rfl
  ·rw[if_neg h2,if_pos (.inr (by omega))]
noncomputable def cW (x:Int×Int)(c:Nat):Int×Int:=
 let d1:=if c=40 then x.1+1 else x.1
 let d2:=if c=41 then d1 - 1 else d1
 (d2,if d2>x.2 then d2 else x.2)
def DeepT (W:List Nat)(d:Nat):Prop:= ∀deep most:Int,deep<=most->W.foldl cW (deep,most)=(deep,max most (deep+d))
theorem DeepT.app {W V:List Nat}{d e:Nat}(h:DeepT W d)(g:DeepT V e):DeepT (W++V) (max d e):=fun deep most hm=>by
 rw[Fu,h deep most hm,g _ _ (by omega)]
 congr 1
 omega
theorem gK: ∀ {W:List Nat},(∀c∈W,c≠40/\c≠41)->DeepT W 0
 |[],_=>fun deep most hm=>by show (deep,most)=_;congr 1;omega
 |c::W,h=>fun deep most hm=>by
  have h0:=h c Dt
  rw[FI]
  have e:cW (deep,most) c=(deep,most):=by
   unfold cW
   simp only[if_neg h0.1,if_neg h0.2]
   rw[if_neg (by omega)]
  rw[e]
  exact gK (fun c hc=>h c (Dz _ hc)) deep most hm
theorem DeepT.bracket {W:List Nat}{d:Nat}(h:DeepT W d):DeepT (40::(W++[41])) (d+1):=fun deep most hm=>by
 rw[FI,Fu]
 have e:cW (deep,most) 40=(deep+1,max most (deep+1)):=by
  show (deep+1,if deep+1>most then deep+1 else most)=_
  congr 1
  by_cases h:deep+1>most
  ·rw[if_pos h];omega
  ·rw[if_neg h];omega
 rw[e,h _ _ (by omega)]
 show (deep+1 - 1,if deep+1 - 1>max (max most (deep+1)) (deep+1+d) then deep+1 - 1 else max (max most (deep+1)) (deep+1+d))=_
 rw[if_neg (by omega)]
 congr 1
 ·omega
 ·have:((d+1:Nat):Int)=(d:Int)+1:=by omega
  rw[this];omega
section
def Kf (c:Nat):Nat:=if JV c=true then 2 else if JY c=true then 1 else 0
noncomputable abbrev Tk:=Nat×List Nat
def toks:List Nat->List Tk
 |[]=>[]
 |c::r=>match toks r with
  |[]=>[(Kf c,[c])]
  |(k,t)::ts=>if Kf c≠0/\k=Kf c then (k,c::t)::ts else (Kf c,[c])::(k,t)::ts
end
section
noncomputable def IS:Exp->W
 |.num n=>.tup [.str "number",.int n]
 |.box x=>.tup [.str "box",.str x]
 |.bin s l r=>.tup [.str s,IS l,IS r]
def fE (ws:List W):M W:=match ws with
 |[.str z]=>gd (z.length<=sizeLine) (pr (.bl (af z)))
 |_=>no
def ir (ws:List W):M W:=match ws with
 |[.str z]=>gd (z.length<=sizeLine) (pr (.bl (K1 z)))
 |_=>no
def fQ (ws:List W):M W:=match ws with
 |[.str z]=>gd (z.length<=sizeLine) (match IT z with
  |some e=>pr (IS e)
  |none=>fun h=>.ex "NoRow" h)
 |_=>no
def wD (ws:List W):M W:=match ws with
 |[.str z]=>gd (z.length<=sizeLine) (match IT z with
  |some e=>pr (IS e)
  |none=>no)
 |_=>no
end
end Wd
namespace Q
open PySem L2 Wd
theorem oz {K:PySem.W.Frag}{mu:Nat->GH}{h:List Ob}{H:Hp}: ∀ {e:Exp}{v:V},IsE H e v->Rv K ⟨mu,h,H⟩ (IS e) v
 |.num n,v,q=>by
  obtain⟨p,rfl,e⟩:=q
  unfold IS Rv
  exact⟨p,_,rfl,.of e,Rvs.cons (LP.mpr rfl) (Rvs.cons (LN.mpr rfl) Rvs.nil)⟩
 |.box n,v,q=>by
  obtain⟨p,rfl,e⟩:=q
  unfold IS Rv
  exact⟨p,_,rfl,.of e,Rvs.cons (LP.mpr rfl) (Rvs.cons (LP.mpr rfl) Rvs.nil)⟩
 |.bin s l r,v,q=>by
  obtain⟨p,a,b,rfl,e,h1,h2⟩:=q
  unfold IS Rv
  exact⟨p,_,rfl,.of e,Rvs.cons (LP.mpr rfl) (Rvs.cons (oz h1) (Rvs.cons (oz h2) Rvs.nil))⟩
section
variable {P:GE}{w:GF}{K:PySem.W.Frag}{mg:Str->Option GC}{base:GG}{f CN:GH}{fd:Hn}{k:Nat}
theorem mX (C:CF P w K mg base CX0 1 "is_name" f fd ["word"] kr):CG P w K mg base 1 "is_name" f fd ["word"] 1 fE:=
 ⟨C.ok.imp fun vs H Q E h=>by
  obtain⟨o,ws,rfl,hl,R,rv,h⟩:=h
  rcases ws with _|⟨x,_|⟨_,_⟩⟩
  ·exact h.elim
  ·obtain⟨v,rfl,r⟩:=rv.one
   cases x with
   |str z=>
    obtain⟨hz,h⟩:=h.gd
    exact⟨z,by rw[LP.mp r],hz,fun H' g=>o8 (ws:=[]) R g (LM.mpr rfl) h⟩
   |_=>exact h.elim
  ·exact absurd hl (by simp),C.bi,C.kp,C.mg⟩
theorem qj (C:CF P w K mg base CX0 1 "is_number" f fd ["word"] MA):CG P w K mg base 1 "is_number" f fd ["word"] 1 ir:=
 ⟨C.ok.imp fun vs H Q E h=>by
  obtain⟨o,ws,rfl,hl,R,rv,h⟩:=h
  rcases ws with _|⟨x,_|⟨_,_⟩⟩
  ·exact h.elim
  ·obtain⟨v,rfl,r⟩:=rv.one
   cases x with
   |str z=>
    obtain⟨hz,h⟩:=h.gd
    exact⟨z,by rw[LP.mp r],hz,fun H' g=>o8 (ws:=[]) R g (LM.mpr rfl) h⟩
   |_=>exact h.elim
  ·exact absurd hl (by simp),C.bi,C.kp,C.mg⟩
theorem yO (hN:mg "NoRow"=some (.ref CN))(C:CF P w K mg base (CXx P w) k "expression" f fd ["word"] (nI CN)):CGx P w K mg base k "expression" f fd ["word"] 1 fQ:=
 ⟨C.ok.imp fun vs H Q E h=>by
  obtain⟨o,ws,rfl,hl,R,rv,h⟩:=h
  rcases ws with _|⟨x,_|⟨_,_⟩⟩
  ·exact h.elim
  ·obtain⟨v,rfl,r⟩:=rv.one
   cases x with
   |str z=>
    obtain⟨hz,h⟩:=h.gd
    refine⟨z,by rw[LP.mp r],hz,?_⟩
    cases e:IT z with
    |none=>
     rw[e] at h
     obtain⟨u,hu,h⟩:=h
     have hu:mg "NoRow"=some u:=hu
     rw[hN] at hu
     cases hu
     exact fun H' g=>h ⟨o.mu,o.h,H'⟩ rfl (Ex.same g) (R.same g)
    |some x=>
     rw[e] at h
     exact fun v H' g i=>Ps.at (p:=⟨o.mu,o.h,H'⟩) h rfl (Ex.same g) (R.same g) (oz i)
   |_=>exact h.elim
  ·exact absurd hl (by simp),C.bi,C.kp,C.mg⟩
theorem yQ (C:CF P w K mg base (CXx P w) k "expression" f fd ["word"] (nI CN)):CG P w K mg base k "expression" f fd ["word"] 1 wD:=
 ⟨wx C.ok fun vs H Q E h=>by
  obtain⟨o,ws,rfl,hl,R,rv,h⟩:=h
  rcases ws with _|⟨x,_|⟨_,_⟩⟩
  ·exact h.elim
  ·obtain⟨v,rfl,r⟩:=rv.one
   cases x with
   |str z=>
    obtain⟨hz,h⟩:=h.gd
    refine⟨z,by rw[LP.mp r],hz,?_⟩
    cases e:IT z with
    |none=>rw[e] at h;exact h.elim
    |some x=>
     rw[e] at h
     exact fun v H' g i=>Ps.at (p:=⟨o.mu,o.h,H'⟩) h rfl (Ex.same g) (R.same g) (oz i)
   |_=>exact h.elim
  ·exact absurd hl (by simp),C.bi,C.kp,C.mg⟩
end
end Q
namespace Q
open PySem L2 Wd
noncomputable abbrev qG:G5:=top 31
noncomputable abbrev tj:G5:=top 42
noncomputable abbrev pb:G5:=top 43
noncomputable abbrev kz:G5:=top 41
noncomputable abbrev mz:G5:=top 40
noncomputable abbrev lW:G5:=top 45
noncomputable abbrev qF:G5:=top 47
noncomputable abbrev gU:G5:=top 46
noncomputable abbrev iK:G5:=cx (top 44) 0
noncomputable abbrev iJ:G5:=cx (top 44) 1
noncomputable abbrev eK:G5:=cx (top 44) 8
noncomputable abbrev g0:G5:=cx (top 44) 3
noncomputable abbrev gZ:G5:=cx (top 44) 4
noncomputable abbrev ii:G5:=cx (top 44) 5
noncomputable abbrev g7:G5:=cx (top 44) 6
noncomputable abbrev iI:G5:=cx (top 44) 7
noncomputable abbrev kA:G5:=cx (top 44) 2
noncomputable abbrev gk:G5:=cx (top 44) 9
noncomputable abbrev zN:G5:=top 39
noncomputable abbrev lV:G5:=top 49
noncomputable abbrev qL:G5:=top 50
noncomputable abbrev qI:G5:=top 51
noncomputable abbrev fk:G5:=top 52
noncomputable abbrev qJ:G5:=top 53
noncomputable abbrev qH:G5:=top 54
noncomputable abbrev nL:G5:=top 55
noncomputable abbrev lU:G5:=top 56
noncomputable abbrev qK:G5:=top 57
noncomputable abbrev jL:G5:=top 58
noncomputable abbrev jt:G5:=top 59
noncomputable abbrev ig:G5:=top 60
noncomputable abbrev fL:G5:=top 61
noncomputable abbrev tm:G5:=top 62
noncomputable abbrev lT:G5:=top 63
noncomputable abbrev nM:G5:=top 64
noncomputable abbrev yZ:G5:=top 65
def cO (fr:List W->M W):HU->M Fl:=(L7 (sIf (mB (m2 eqW (m2 ixW (KL 0) (mC (.int 0))) (mC (.str "number")))) (L3 (mTl (Kl KB))) LY) (L7 (sIf (mB (m2 eqW (m2 ixW (KL 0) (mC (.int 0))) (mC (.str "box")))) (L3 (mTl (Kl (Kw (m2 ixW (KL 0) (mC (.int 1))) KB)))) LY) (L3 (m2 Il (Ku (arW 1 fr) (Kw (m2 ixW (KL 0) (mC (.int 1))) KB)) (Ku (arW 1 fr) (Kw (m2 ixW (KL 0) (mC (.int 2))) KB))))))
def aV:Nat->List W->M W
 |0=>fun _=>no
 |n+1=>LK 1 (cO (aV n))
def eP:HU->M Fl:=(L7 (sIf (KC (mB (Ku (arW 1 fE) (Kw (KL 0) KB)))) (bY "NoRow" (Kw (mC (.str "a name is of 1 to 8 small letters, and no word of the rows' own")) KB)) LY) (L3 (KL 0)))
def bh:List W->M W:=LK 1 eP
def df:HU->M Fl:=(L7 (sIf (KC (mB (Ku (arW 1 ir) (Kw (KL 0) KB)))) (bY "NoRow" (Kw (mC (.str "a number is of 1 to 3 figures, without noughts ahead")) KB)) LY) (L3 (Ku JP (Kw (KL 0) KB))))
def dg:List W->M W:=LK 1 df
def cc:HU->M Fl:=(L7 (L8 1 (m2 ixW (KL 0) (mC (.int 2)))) (L7 (sIf (mOr (mB (m2 cM (KL 1) (mC (.tup ((["<", "="]:List Str).map W.str))))) (mB (m2 neW (m2 ixW (KL 0) (mC (.int 5))) (mC (.str "else"))))) (bY "NoRow" (Kw (mC (.str "an if is written: if E < E X else Y, or with =")) KB)) LY) (L7 (L8 2 (Ku (arW 1 fQ) (Kw (m2 ixW (KL 0) (mC (.int 1))) KB))) (L7 (L8 3 (Ku (arW 1 fQ) (Kw (m2 ixW (KL 0) (mC (.int 3))) KB))) (L3 (KJ (Kw (mC (.str "if")) (Kw (KL 1) (Kw (KL 2) (Kw (KL 3) (Kw (Ku (arW 1 bh) (Kw (m2 ixW (KL 0) (mC (.int 4))) KB)) (Kw (Ku (arW 1 bh) (Kw (m2 ixW (KL 0) (mC (.int 6))) KB)) KB))))))))))))
def ci:List W->M W:=LK 4 cc
def eQ:HU->M Fl:=(L7 (L8 1 (Kz isS ME (KL 0) (Kw (mC (.str " ")) KB))) (L7 (L8 2 (m2 ixW (KL 1) (mC (.int 0)))) (L7 (L8 3 (Ku Km (Kw (KL 1) KB))) (L7 (sIf (Ks (mB (m2 eqW (KL 2) (mC (.str "box")))) (mB (m2 eqW (KL 3) (mC (.int 3))))) (L3 (KJ (Kw (mC (.str "box")) (Kw (Ku (arW 1 bh) (Kw (m2 ixW (KL 1) (mC (.int 1))) KB)) (Kw (Ku (arW 1 dg) (Kw (m2 ixW (KL 1) (mC (.int 2))) KB)) KB))))) LY) (L7 (sIf (Ks (mB (m2 eqW (KL 2) (mC (.str "block")))) (mB (m2 eqW (KL 3) (mC (.int 2))))) (L3 (KJ (Kw (mC (.str "block")) (Kw (Ku (arW 1 bh) (Kw (m2 ixW (KL 1) (mC (.int 1))) KB)) KB)))) LY) (L7 (sIf (Ks (mB (m2 eqW (KL 2) (mC (.str "put")))) (mB (m2 eqW (KL 3) (mC (.int 3))))) (L3 (KJ (Kw (mC (.str "put")) (Kw (Ku (arW 1 bh) (Kw (m2 ixW (KL 1) (mC (.int 1))) KB)) (Kw (Ku (arW 1 fQ) (Kw (m2 ixW (KL 1) (mC (.int 2))) KB)) KB))))) LY) (L7 (sIf (Ks (mB (m2 eqW (KL 2) (mC (.str "say")))) (mB (m2 eqW (KL 3) (mC (.int 2))))) (L3 (KJ (Kw (mC (.str "say")) (Kw (Ku (arW 1 fQ) (Kw (m2 ixW (KL 1) (mC (.int 1))) KB)) KB)))) LY) (L7 (sIf (Ks (mB (m2 eqW (KL 2) (mC (.str "ask")))) (mB (m2 eqW (KL 3) (mC (.int 2))))) (L3 (KJ (Kw (mC (.str "ask")) (Kw (Ku (arW 1 bh) (Kw (m2 ixW (KL 1) (mC (.int 1))) KB)) KB)))) LY) (L7 (sIf (Ks (mB (m2 eqW (KL 2) (mC (.str "go")))) (mB (m2 eqW (KL 3) (mC (.int 2))))) (L3 (KJ (Kw (mC (.str "go")) (Kw (Ku (arW 1 bh) (Kw (m2 ixW (KL 1) (mC (.int 1))) KB)) KB)))) LY) (L7 (sIf (Ks (mB (m2 eqW (KL 2) (mC (.str "if")))) (mB (m2 eqW (KL 3) (mC (.int 7))))) (L3 (Ku (arW 1 ci) (Kw (KL 1) KB))) LY) (L7 (sIf (Ks (mB (m2 eqW (KL 2) (mC (.str "table")))) (mB (ba leW leW (mC (.int 3)) (KL 3) (m2 Il (mC (.int 2)) (mC (.int 6)))))) (L3 (KJ (Kw (mC (.str "table")) (Kw (Ku (arW 1 fQ) (Kw (m2 ixW (KL 1) (mC (.int 1))) KB)) (Kw (Ku iH (Kw (mTl (Kv [] (KH (m3 slW (KL 1) (KF (mC (.int 2))) aj) MF) (tgN 0) KM (Ku (arW 1 bh) (Kw (KL 0) KB)) 2)) KB)) KB))))) LY) (L7 (sIf (Ks (mB (m2 eqW (KL 2) (mC (.str "stop")))) (mB (m2 eqW (KL 3) (mC (.int 1))))) (L3 (KJ (Kw (mC (.str "stop")) KB))) LY) (bY "NoRow" (Kw (mC (.str "a row has none of the forms")) KB))))))))))))))
def di:List W->M W:=LK 4 eQ
def am:HU->M Fl:=(L7 (sIf (mB (m2 eqW (m2 ixW (KL 0) (mC (.int 0))) (mC (.str "put")))) (L3 (mTl (Iw (mTl (Kl (Kw (m2 ixW (KL 0) (mC (.int 1))) KB))) (Ku (arW 1 (aV 62)) (Kw (m2 ixW (KL 0) (mC (.int 2))) KB))))) LY) (L7 (sIf (mB (m2 eqW (m2 ixW (KL 0) (mC (.int 0))) (mC (.str "say")))) (L3 (Ku (arW 1 (aV 62)) (Kw (m2 ixW (KL 0) (mC (.int 1))) KB))) LY) (L7 (sIf (mB (m2 eqW (m2 ixW (KL 0) (mC (.int 0))) (mC (.str "ask")))) (L3 (mTl (Kl (Kw (m2 ixW (KL 0) (mC (.int 1))) KB)))) LY) (L7 (sIf (mB (m2 eqW (m2 ixW (KL 0) (mC (.int 0))) (mC (.str "if")))) (L3 (m2 Il (Ku (arW 1 (aV 62)) (Kw (m2 ixW (KL 0) (mC (.int 2))) KB)) (Ku (arW 1 (aV 62)) (Kw (m2 ixW (KL 0) (mC (.int 3))) KB)))) LY) (L7 (sIf (mB (m2 eqW (m2 ixW (KL 0) (mC (.int 0))) (mC (.str "table")))) (L3 (Ku (arW 1 (aV 62)) (Kw (m2 ixW (KL 0) (mC (.int 1))) KB))) LY) (L3 (mTl (Kl KB))))))))
def aQ:List W->M W:=LK 1 am
def lj:HU->M Fl:=(L7 (sIf (mB (m2 cM (KL 0) (KL 1))) (bY "NoBlock" (Kw (m1 (Jb "there is no block ") (KL 0)) KB)) LY) (L3 (Kz isLO Mr (KL 1) (Kw (KL 0) KB))))
def eY:List W->M W:=LK 2 lj
def gX:HU->M Fl:=(L7 (sIf (mB (m2 eqW (m2 ixW (KL 0) (mC (.int 0))) (mC (.str "go")))) (L3 (KJ (Kw (mC (.str "go")) (Kw (Ku (arW 2 eY) (Kw (m2 ixW (KL 0) (mC (.int 1))) (Kw (KL 1) KB))) KB)))) LY) (L7 (sIf (mB (m2 eqW (m2 ixW (KL 0) (mC (.int 0))) (mC (.str "if")))) (L3 (m2 Il (m3 slW (KL 0) aj (KF (mC (.int 4)))) (KJ (Kw (Ku (arW 2 eY) (Kw (m2 ixW (KL 0) (mC (.int 4))) (Kw (KL 1) KB))) (Kw (Ku (arW 2 eY) (Kw (m2 ixW (KL 0) (mC (.int 5))) (Kw (KL 1) KB))) KB))))) LY) (L7 (sIf (mB (m2 eqW (m2 ixW (KL 0) (mC (.int 0))) (mC (.str "table")))) (L3 (KJ (Kw (mC (.str "table")) (Kw (m2 ixW (KL 0) (mC (.int 1))) (Kw (Ku iH (Kw (mTl (Kv [] (KH (m2 ixW (KL 0) (mC (.int 2))) MH) (tgN 0) KM (Ku (arW 2 eY) (Kw (KL 0) (Kw (KL 3) KB))) 2)) KB)) KB))))) LY) (L3 (KL 0)))))
def gY:List W->M W:=LK 2 gX
def cz:HU->M Fl:=(L7 (LW "Reading" "boxes" (KL 0) (KA (Kl KB))) (L7 (LW "Reading" "block_names" (KL 0) (KA (Kl KB))) (L7 (LW "Reading" "ended_blocks" (KL 0) (KA (Kl KB))) (LW "Reading" "statements" (KL 0) (KA (Kl KB))))))
def cA:List W->M W:=LK 1 cz
def cy:HU->M Fl:=(L3 (m2 gtW (Ku Km (Kw (m1 (IY "Reading" "block_names") (KL 0)) KB)) (Ku Km (Kw (m1 (IY "Reading" "ended_blocks") (KL 0)) KB))))
def bj:List W->M W:=LK 1 cy
def b8:HU->M Fl:=(L3 (mTl (Kv [] (KH (m1 (IY "Reading" "boxes") (KL 0)) MF) (tgT [0,1]) KM (KL 0) 3)))
def bJ:List W->M W:=LK 1 b8
def aB:HU->M Fl:=(sIf (mB (m2 eqW (KL 1) (mC (.str "box")))) (sIf (mB (m2 gtW (Ku Km (Kw (m1 (IY "Reading" "block_names") (KL 0)) KB)) (mC (.int 0)))) (bY "NoPlace" (Kw (mC (.str "a box stands behind a block")) KB)) LY) (sIf (mB (m2 eqW (KL 1) (mC (.str "block")))) (sIf (mB (Ky "Reading" "in_block" 1 bj (KL 0) KB)) (bY "NoPlace" (Kw (mC (.str "a block begins within a block")) KB)) LY) (sIf (KC (mB (Ky "Reading" "in_block" 1 bj (KL 0) KB))) (bY "NoPlace" (Kw (mC (.str "a statement or an end stands outside of a block")) KB)) LY)))
def aw:List W->M W:=LK 2 aB
def aA:HU->M Fl:=(L7 (sIf (Ks (mB (m2 eqW (m2 ixW (KL 1) (mC (.int 0))) (mC (.str "box")))) (mB (m2 inW (m2 ixW (KL 1) (mC (.int 1))) (Ky "Reading" "box_names" 1 bJ (KL 0) KB)))) (bY "Twice" (Kw (mC (.str "two boxes have one name")) KB)) LY) (sIf (Ks (mB (m2 eqW (m2 ixW (KL 1) (mC (.int 0))) (mC (.str "block")))) (mB (m2 inW (m2 ixW (KL 1) (mC (.int 1))) (m1 (IY "Reading" "block_names") (KL 0))))) (bY "Twice" (Kw (mC (.str "two blocks have one name")) KB)) LY))
def av:List W->M W:=LK 2 aA
def aD:HU->M Fl:=(L7 (sIf (Ks (mB (m2 eqW (KL 1) (mC (.str "box")))) (mB (m2 eqW (Ku Km (Kw (m1 (IY "Reading" "boxes") (KL 0)) KB)) (mC (.int 4))))) (bY "Full" (Kw (mC (.str "a program has at most 4 boxes")) KB)) LY) (L7 (sIf (Ks (mB (m2 eqW (KL 1) (mC (.str "block")))) (mB (m2 eqW (Ku Km (Kw (m1 (IY "Reading" "block_names") (KL 0)) KB)) (mC (.int 10))))) (bY "Full" (Kw (mC (.str "a program has at most 10 blocks")) KB)) LY) (sIf (Ks (mB (m2 inW (KL 1) (mC (.tup ((["put", "say", "ask"]:List Str).map W.str))))) (mB (m2 eqW (Ku Km (Kw (m1 (IY "Reading" "statements") (KL 0)) KB)) (mC (.int 8))))) (bY "Full" (Kw (mC (.str "a block has at most 8 statements")) KB)) LY)))
def ay:List W->M W:=LK 2 aD
def bU:HU->M Fl:=(L7 (L8 2 (Ky "Reading" "box_names" 1 bJ (KL 0) KB)) (LX (KH (Ku (arW 1 aQ) (Kw (KL 1) KB)) MF) (tgN 3) (sIf (mB (m2 cM (KL 3) (KL 2))) (bY "NoBox" (Kw (m1 (Jb "there is no box ") (KL 3)) KB)) LY)))
def bf:List W->M W:=LK 4 bU
def az:HU->M Fl:=(sIf (mB (m2 eqW (m2 ixW (KL 1) (mC (.int 0))) (mC (.str "box")))) (sEx (Kz isL aR (m1 (IY "Reading" "boxes") (KL 0)) (Kw (KJ (Kw (m2 ixW (KL 1) (mC (.int 1))) (Kw (m2 ixW (KL 1) (mC (.int 2))) KB))) KB))) (sIf (mB (m2 eqW (m2 ixW (KL 1) (mC (.int 0))) (mC (.str "block")))) (L7 (sEx (Kz isL aR (m1 (IY "Reading" "block_names") (KL 0)) (Kw (m2 ixW (KL 1) (mC (.int 1))) KB))) (LW "Reading" "statements" (KL 0) (KA (Kl KB)))) (sIf (mB (m2 inW (m2 ixW (KL 1) (mC (.int 0))) (mC (.tup ((["put", "say", "ask"]:List Str).map W.str))))) (sEx (Kz isL aR (m1 (IY "Reading" "statements") (KL 0)) (Kw (KL 1) KB))) (sEx (Kz isL aR (m1 (IY "Reading" "ended_blocks") (KL 0)) (Kw (KJ (Kw (m2 ixW (m1 (IY "Reading" "block_names") (KL 0)) (m1 KW (mC (.int 1)))) (Kw (m1 JK (m1 (IY "Reading" "statements") (KL 0))) (Kw (KL 1) KB)))) KB))))))
def au:List W->M W:=LK 2 az
def dF:HU->M Fl:=(L7 (sEx (Ky "Reading" "check_place" 2 aw (KL 0) (Kw (m2 ixW (KL 1) (mC (.int 0))) KB))) (L7 (sEx (Ky "Reading" "check_twice" 2 av (KL 0) (Kw (KL 1) KB))) (L7 (sEx (Ky "Reading" "check_room" 2 ay (KL 0) (Kw (m2 ixW (KL 1) (mC (.int 0))) KB))) (L7 (sEx (Ky "Reading" "check_boxes" 2 bf (KL 0) (Kw (KL 1) KB))) (sEx (Ky "Reading" "put_down" 2 au (KL 0) (Kw (KL 1) KB)))))))
def dH:List W->M W:=LK 2 dF
def dE:HU->M Fl:=(L7 (sIf (mOr (mB (Ky "Reading" "in_block" 1 bj (KL 0) KB)) (mB (m2 eqW (Ku Km (Kw (m1 (IY "Reading" "block_names") (KL 0)) KB)) (mC (.int 0))))) (bY "Open" (Kw (mC (.str "the last block has no end, or there is no block")) KB)) LY) (L7 (L8 1 (KA (Kl KB))) (L7 (LX (KH (m1 (IY "Reading" "ended_blocks") (KL 0)) MF) (tgT [2,3,4]) (sEx (Kz isL aR (KL 1) (Kw (KJ (Kw (KL 2) (Kw (KL 3) (Kw (Ku (arW 2 gY) (Kw (KL 4) (Kw (m1 (IY "Reading" "block_names") (KL 0)) KB))) KB)))) KB)))) (L3 (KJ (Kw (m1 JK (m1 (IY "Reading" "boxes") (KL 0))) (Kw (m1 JK (KL 1)) KB)))))))
def dG:List W->M W:=LK 5 dE
def oF:HU->M Fl:=(L7 (L8 1 (Kz isS ME (KL 0) (Kw (mC (.str "\n")) KB))) (L7 (sIf (mB (m2 gtW (Ku Km (Kw (KL 1) KB)) (mC (.int 120)))) (bY "TooLong" (Kw (mC (.str "a program has at most 120 rows")) KB)) LY) (L7 (L8 2 (Kx "Reading" 1 cA KB)) (L7 (LX (KH (KL 1) MF) (tgN 3) (sEx (Ky "Reading" "take" 2 dH (KL 2) (Kw (Ku (arW 1 di) (Kw (KL 3) KB)) KB)))) (L3 (Ky "Reading" "told_program" 1 dG (KL 2) KB))))))
def lq:List W->M W:=LK 4 oF
def eg:HU->M Fl:=(L7 (sIf (mB (m2 ltW (KL 1) (Ku Km (Kw (KL 0) KB)))) (L3 (m2 ixW (KL 0) (KL 1))) LY) (L3 (mC (.int 0))))
def bp:List W->M W:=LK 2 eg
def gG:HU->M Fl:=(L3 (Ku MQ (Kw (KG (KL 0) (KF (KL 1)) (KF (mC (.int 63))) (KF (mC (.int 11)))) KB)))
def de:List W->M W:=LK 2 gG
def gD:HU->M Fl:=(L7 (sIf (mB (m2 geW (KL 0) (m2 Lx (mC (.int 10)) (mC (.int 18))))) (L3 (m2 KQ (m2 Mq (m2 MP (KL 0) (m2 Lx (mC (.int 10)) (mC (.int 18)))) (m2 KU (mC (.int 28)) (KL 1))) (m2 Lx (mC (.int 2)) (mC (.int 28))))) LY) (L7 (L8 2 (m2 KQ (m2 KU (m2 Il (m2 Il (KL 0) (m2 KU (mC (.int 1013)) (KL 1))) (mC (.int 1))) (mC (.int 16807))) (mC (.int 2147483647)))) (L7 (L8 2 (m2 KQ (m2 KU (KL 2) (KL 2)) (mC (.int 2147483629)))) (L3 (m2 IU (m2 KQ (m2 KU (KL 2) (mC (.int 39373))) (mC (.int 2147483587))) (mC (.int 8)))))))
def ag:List W->M W:=LK 3 gD
def fw:HU->M Fl:=(L7 (L8 3 (mC (.str "abcdefghijklmnopqrstuvwxyz"))) (L7 (L8 4 (mTl (Kl (Kw (mC (.str "box")) (Kw (mC (.str "block")) (Kw (mC (.str "put")) (Kw (mC (.str "say")) (Kw (mC (.str "ask")) (Kw (mC (.str "go")) (Kw (mC (.str "if")) (Kw (mC (.str "else")) (Kw (mC (.str "table")) (Kw (mC (.str "stop")) KB))))))))))))) (L7 (L8 5 (m2 Il (mC (.int 1)) (m2 KQ (Ku (arW 2 ag) (Kw (KL 0) (Kw (KL 1) KB))) (mC (.int 8))))) (L7 (L8 6 (Kz isS Kb (mC (.str "")) (Kw (mTl (Kv [] (KI (Kw (KL 5) KB) LI) (tgN 0) KM (m2 ixW (KL 5) (m2 KQ (Ku (arW 2 ag) (Kw (KL 2) (Kw (m2 Il (m2 Il (KL 3) (mC (.int 1))) (KL 0)) KB))) (mC (.int 26)))) 2)) KB))) (L7 (L8 7 (KA (Kl KB))) (L7 (LX (KI (Kw (KL 2) KB) LI) (tgN 8) (L7 (L8 9 (Ku (arW 2 ag) (Kw (KL 0) (Kw (m2 Il (m2 Il (KL 1) (mC (.int 9))) (KL 8)) KB)))) (L7 (L8 10 (m2 KQ (KL 9) (KL 5))) (L7 (L8 11 (m2 Il (m2 Il (m3 slW (KL 6) aj (KF (KL 10))) (m2 ixW (KL 3) (m2 KQ (m2 IU (KL 9) (mC (.int 8))) (mC (.int 26))))) (m3 slW (KL 6) (KF (m2 Il (KL 10) (mC (.int 1)))) aj))) (L7 (sIf (mB (m2 eqW (m2 KQ (m2 IU (KL 9) (mC (.int 208))) (mC (.int 4))) (mC (.int 0)))) (L8 11 (m3 slW (KL 6) aj (KF (m2 Il (KL 10) (mC (.int 1)))))) LY) (L7 (sIf (mOr (mB (m2 inW (KL 11) (KL 7))) (mB (m2 inW (KL 11) (KL 4)))) (L8 11 (m2 ixW (mTl (Kv [] (KH (mTl (Kv [] (KI (Kw (mC (.int 12)) KB) LI) (tgN 0) KM (m2 Il (mC (.str "zz")) (m2 ixW (KL 5) (KL 0))) 2)) MF) (tgN 0) (mB (m2 cM (KL 0) (KL 9))) (KL 0) 2)) (m2 KQ (m2 IU (KL 9) (mC (.int 832))) (mC (.int 2))))) LY) (sEx (Kz isL aR (KL 7) (Kw (KL 11) KB))))))))) (L3 (m1 JK (KL 7)))))))))
def cP:List W->M W:=LK 12 fw
def gE:HU->M Fl:=(L7 (sIf (Ks (mB (m2 eqW (m2 KQ (KL 0) (mC (.int 2))) (mC (.int 0)))) (mB (m2 neW (KL 1) (mTl (Kl KB))))) (L3 (KJ (Kw (mC (.str "box")) (Kw (m2 ixW (KL 1) (m2 KQ (m2 IU (KL 0) (mC (.int 2))) (Ku Km (Kw (KL 1) KB)))) KB)))) LY) (L3 (KJ (Kw (mC (.str "number")) (Kw (m2 KQ (m2 IU (KL 0) (mC (.int 10))) (m2 ixW (mTl (Kl (Kw (mC (.int 10)) (Kw (mC (.int 1000)) KB)))) (m2 IU (m2 KQ (m2 IU (KL 0) (mC (.int 2))) (mC (.int 5))) (mC (.int 4))))) KB)))))
def gH:List W->M W:=LK 2 gE
def gC (fr:List W->M W):HU->M Fl:=(L7 (L8 4 (Ku (arW 2 ag) (Kw (KL 0) (Kw (KL 1) KB)))) (L7 (sIf (mOr (mB (m2 eqW (KL 2) (mC (.int 0)))) (mB (m2 eqW (m2 KQ (KL 4) (mC (.int 3))) (mC (.int 0))))) (L3 (Ku (arW 2 gH) (Kw (m2 IU (KL 4) (mC (.int 3))) (Kw (KL 3) KB)))) LY) (L7 (L8 5 (m2 ixW (mC (.str "+-*")) (m2 KQ (m2 IU (KL 4) (mC (.int 3))) (mC (.int 3))))) (L7 (L8 6 (Ku (arW 4 fr) (Kw (KL 0) (Kw (m2 Il (m2 KU (mC (.int 2)) (KL 1)) (mC (.int 1))) (Kw (m2 MP (KL 2) (mC (.int 1))) (Kw (KL 3) KB)))))) (L3 (KJ (Kw (KL 5) (Kw (KL 6) (Kw (Ku (arW 4 fr) (Kw (KL 0) (Kw (m2 Il (m2 KU (mC (.int 2)) (KL 1)) (mC (.int 2))) (Kw (m2 MP (KL 2) (mC (.int 1))) (Kw (KL 3) KB))))) KB)))))))))
def da:Nat->List W->M W
 |0=>fun _=>no
 |n+1=>LK 7 (gC (da n))
def bW (fr:List W->M W):HU->M Fl:=(L7 (sIf (mB (m2 eqW (Ku Km (Kw (KL 0) KB)) (mC (.int 2)))) (L3 (Ku MO (Kw (m2 ixW (KL 0) (mC (.int 1))) KB))) LY) (L7 (L8 2 (Ku (arW 2 fr) (Kw (m2 ixW (KL 0) (mC (.int 1))) (Kw (m2 IU (KL 1) (mC (.int 2))) KB)))) (L7 (L8 3 (Ku (arW 2 fr) (Kw (m2 ixW (KL 0) (mC (.int 2))) (Kw (m2 IU (KL 1) (mC (.int 3))) KB)))) (L7 (sIf (mOr (Ks (mB (m2 eqW (m2 ixW (KL 0) (mC (.int 0))) (mC (.str "*")))) (mB (m2 inW (m2 ixW (m2 ixW (KL 0) (mC (.int 1))) (mC (.int 0))) (mTl (Kl (Kw (mC (.str "+")) (Kw (mC (.str "-")) KB))))))) (mB (m2 eqW (m2 KQ (KL 1) (mC (.int 5))) (mC (.int 1))))) (L8 2 (m2 Il (m2 Il (mC (.str "(")) (KL 2)) (mC (.str ")")))) LY) (L7 (sIf (mOr (mB (m2 inW (m2 ixW (m2 ixW (KL 0) (mC (.int 2))) (mC (.int 0))) (mTl (Kl (Kw (mC (.str "+")) (Kw (mC (.str "-")) KB)))))) (mOr (Ks (mB (m2 eqW (m2 ixW (KL 0) (mC (.int 0))) (mC (.str "*")))) (mB (m2 eqW (m2 ixW (m2 ixW (KL 0) (mC (.int 2))) (mC (.int 0))) (mC (.str "*"))))) (mB (m2 eqW (m2 KQ (KL 1) (mC (.int 7))) (mC (.int 1)))))) (L8 3 (m2 Il (m2 Il (mC (.str "(")) (KL 3)) (mC (.str ")")))) LY) (L3 (m2 Il (m2 Il (KL 2) (m2 ixW (KL 0) (mC (.int 0)))) (KL 3))))))))
def aI:Nat->List W->M W
 |0=>fun _=>no
 |n+1=>LK 4 (bW (aI n))
def dZ:HU->M Fl:=(L7 (L8 1 (mC (.int 0))) (L7 (L8 2 (mC (.int 0))) (L7 (LX (KH (KL 0) MG) (tgN 3) (L7 (L8 1 (m2 MP (m2 Il (KL 1) (Ku JP (Kw (m2 eqW (KL 3) (mC (.str "("))) KB))) (Ku JP (Kw (m2 eqW (KL 3) (mC (.str ")"))) KB)))) (L8 2 (Ku KO (Kw (KL 2) (Kw (KL 1) KB)))))) (L3 (KL 2)))))
def eA:List W->M W:=LK 4 dZ
def gF:HU->M Fl:=(L7 (L8 3 (Ku (arW 4 (da 5)) (Kw (KL 0) (Kw (KL 1) (Kw (m2 KQ (Ku (arW 2 ag) (Kw (KL 0) (Kw (m2 Il (KL 1) (mC (.int 90))) KB))) (mC (.int 4))) (Kw (KL 2) KB)))))) (L7 (LX (KH (mTl (Kl (Kw (Ku (arW 2 ag) (Kw (KL 0) (Kw (m2 Il (KL 1) (mC (.int 91))) KB))) (Kw (mC (.int 0)) KB)))) MF) (tgN 4) (L7 (L8 5 (Ku (arW 2 (aI 5)) (Kw (KL 3) (Kw (KL 4) KB)))) (sIf (Ks (mB (m2 leW (Ku Km (Kw (KL 5) KB)) (mC (.int 60)))) (mB (m2 ltW (Ku (arW 1 eA) (Kw (KL 5) KB)) (mC (.int 6))))) (L3 (mTl (Kl (Kw (KL 5) (Kw (KL 3) KB))))) LY))) (L3 (mTl (Kl (Kw (mC (.str "7")) (Kw (KJ (Kw (mC (.str "number")) (Kw (mC (.int 7)) KB))) KB)))))))
def dP:List W->M W:=LK 6 gF
def c7:HU->M Fl:=(L7 (L8 2 (Ku (arW 2 ag) (Kw (KL 0) (Kw (mC (.int 0)) KB)))) (L7 (Ma (tgL [3,4]) (Ku (arW 3 dP) (Kw (KL 0) (Kw (mC (.int 3)) (Kw (KL 1) KB))))) (L7 (sIf (mOr (mB (m2 eqW (m2 KQ (KL 2) (mC (.int 4))) (mC (.int 0)))) (mB (m2 eqW (KL 1) (mTl (Kl KB))))) (L3 (mTl (Kl (Kw (m2 Il (mC (.str "say ")) (KL 3)) (Kw (KJ (Kw (mC (.str "say")) (Kw (KL 4) KB))) KB))))) LY) (L7 (L8 5 (m2 ixW (KL 1) (m2 KQ (m2 IU (KL 2) (mC (.int 8))) (Ku Km (Kw (KL 1) KB))))) (L7 (sIf (mB (m2 eqW (m2 KQ (KL 2) (mC (.int 4))) (mC (.int 1)))) (L3 (mTl (Kl (Kw (m2 Il (mC (.str "ask ")) (KL 5)) (Kw (KJ (Kw (mC (.str "ask")) (Kw (KL 5) KB))) KB))))) LY) (L3 (mTl (Kl (Kw (m2 Il (m2 Il (m2 Il (mC (.str "put ")) (KL 5)) (mC (.str " "))) (KL 3)) (Kw (KJ (Kw (mC (.str "put")) (Kw (KL 5) (Kw (KL 4) KB)))) KB))))))))))
def cC:List W->M W:=LK 6 c7
def iC:HU->M Fl:=(L7 (L8 3 (Ku (arW 2 ag) (Kw (KL 0) (Kw (mC (.int 0)) KB)))) (L7 (L8 4 (m2 KQ (KL 3) (mC (.int 6)))) (L7 (L8 5 (mTl (Kv [] (KI (Kw (mC (.int 6)) KB) LI) (tgN 0) KM (m2 KQ (Ku (arW 2 ag) (Kw (KL 2) (Kw (m2 Il (mC (.int 40)) (KL 0)) KB))) (Ku Km (Kw (KL 4) KB))) 2))) (L7 (Ma (tgL [6,7]) (Ku (arW 3 dP) (Kw (KL 0) (Kw (mC (.int 3)) (Kw (KL 1) KB))))) (L7 (Ma (tgL [8,9]) (Ku (arW 3 dP) (Kw (KL 0) (Kw (mC (.int 60)) (Kw (KL 1) KB))))) (L7 (sIf (mB (m2 ltW (KL 4) (mC (.int 2)))) (L3 (mTl (Kl (Kw (m2 Il (mC (.str "go ")) (m2 ixW (KL 2) (m2 ixW (KL 5) (mC (.int 0))))) (Kw (KJ (Kw (mC (.str "go")) (Kw (m2 ixW (KL 5) (mC (.int 0))) KB))) KB))))) LY) (L7 (sIf (mB (m2 ltW (KL 4) (mC (.int 4)))) (L7 (L8 10 (m2 ixW (mC (.str "<=")) (m2 KQ (m2 IU (KL 3) (mC (.int 6))) (mC (.int 2))))) (L7 (L8 11 (mTl (Kl (Kw (mC (.str "if")) (Kw (KL 6) (Kw (KL 10) (Kw (KL 8) (Kw (m2 ixW (KL 2) (m2 ixW (KL 5) (mC (.int 0)))) (Kw (mC (.str "else")) (Kw (m2 ixW (KL 2) (m2 ixW (KL 5) (mC (.int 1)))) KB)))))))))) (L3 (mTl (Kl (Kw (Kz isS Kb (mC (.str " ")) (Kw (KL 11) KB)) (Kw (KJ (Kw (mC (.str "if")) (Kw (KL 10) (Kw (KL 7) (Kw (KL 9) (Kw (m2 ixW (KL 5) (mC (.int 0))) (Kw (m2 ixW (KL 5) (mC (.int 1))) KB))))))) KB))))))) LY) (L7 (sIf (mB (m2 eqW (KL 4) (mC (.int 4)))) (L7 (L8 12 (m3 slW (KL 5) aj (KF (m2 Il (mC (.int 1)) (m2 KQ (m2 IU (KL 3) (mC (.int 6))) (mC (.int 6))))))) (L3 (mTl (Kl (Kw (Kz isS Kb (mC (.str " ")) (Kw (mTl (Iw (mTl (Kl (Kw (mC (.str "table")) (Kw (KL 6) KB)))) (mTl (Kv [] (KH (KL 12) MF) (tgN 0) KM (m2 ixW (KL 4) (KL 0)) 2)))) KB)) (Kw (KJ (Kw (mC (.str "table")) (Kw (KL 7) (Kw (Ku iH (Kw (KL 12) KB)) KB)))) KB)))))) LY) (L3 (mTl (Kl (Kw (mC (.str "stop")) (Kw (KJ (Kw (mC (.str "stop")) KB)) KB)))))))))))))
def eR:List W->M W:=LK 13 iC
def fz:HU->M Fl:=(L7 (L8 3 (KA (Kv [] (KH (KL 1) MF) (tgT [0,1]) KM (m2 Il (m2 Il (m2 Il (mC (.str "box ")) (KL 0)) (mC (.str " "))) (Ku MO (Kw (KL 1) KB))) 3))) (L7 (L8 4 (mTl (Kv [] (KH (KL 1) MF) (tgT [0,1]) KM (KL 0) 3))) (L7 (L8 5 (KA (Kl KB))) (L7 (LX (KI (Kw (KL 2) KB) IL) (tgT [6,7]) (L7 (L8 8 (Ku (arW 2 de) (Kw (KL 0) (Kw (m2 Il (mC (.int 1)) (KL 6)) KB)))) (L7 (sEx (Kz isL aR (KL 3) (Kw (m2 Il (mC (.str "block ")) (KL 7)) KB))) (L7 (L8 9 (KA (Kl KB))) (L7 (LX (KI (Kw (m2 ixW (mTl (Kl (Kw (mC (.int 0)) (Kw (mC (.int 1)) (Kw (mC (.int 3)) (Kw (mC (.int 8)) (Kw (m2 KQ (Ku (arW 2 ag) (Kw (KL 8) (Kw (mC (.int 600)) KB))) (mC (.int 9))) KB))))))) (m2 KQ (Ku (arW 2 ag) (Kw (KL 8) (Kw (mC (.int 601)) KB))) (mC (.int 5)))) KB) LI) (tgN 10) (L7 (Ma (tgL [11,12]) (Ku (arW 2 cC) (Kw (m2 Il (Ku (arW 2 ag) (Kw (KL 8) (Kw (m2 Il (mC (.int 610)) (KL 10)) KB))) (KL 10)) (Kw (KL 4) KB)))) (L7 (sEx (Kz isL aR (KL 3) (Kw (KL 11) KB))) (sEx (Kz isL aR (KL 9) (Kw (KL 12) KB)))))) (L7 (Ma (tgL [11,12]) (Ku (arW 3 eR) (Kw (m2 Il (Ku (arW 2 ag) (Kw (KL 8) (Kw (mC (.int 602)) KB))) (KL 6)) (Kw (KL 4) (Kw (KL 2) KB))))) (L7 (sEx (Kz isL aR (KL 3) (Kw (KL 11) KB))) (sEx (Kz isL aR (KL 5) (Kw (KJ (Kw (KL 7) (Kw (m1 JK (KL 9)) (Kw (KL 12) KB)))) KB)))))))))) (L3 (mTl (Kl (Kw (KL 3) (Kw (KJ (Kw (KL 1) (Kw (KL 5) KB))) KB)))))))))
def eE:List W->M W:=LK 13 fz
def dY:HU->M Fl:=(L7 (L8 1 (Ku (arW 2 de) (Kw (KL 0) (Kw (mC (.int 0)) KB)))) (L7 (L8 2 (m3 slW (Ku (arW 3 cP) (Kw (KL 1) (Kw (mC (.int 300)) (Kw (mC (.int 4)) KB)))) aj (KF (m2 KQ (Ku (arW 2 ag) (Kw (KL 1) (Kw (mC (.int 620)) KB))) (mC (.int 5)))))) (L7 (L8 3 (mTl (Kv [] (KI (Kw (KL 2) KB) IL) (tgT [0,1]) KM (KJ (Kw (KL 1) (Kw (m2 ixW (mTl (Kl (Kw (mC (.int 0)) (Kw (mC (.int 999)) (Kw (mC (.int 7)) (Kw (mC (.int 40)) KB)))))) (m2 KQ (m2 Il (m2 IU (Ku (arW 2 ag) (Kw (KL 4) (Kw (mC (.int 630)) KB))) (mC (.int 4))) (KL 0)) (mC (.int 4)))) KB))) 3))) (L7 (L8 4 (m3 slW (Ku (arW 3 cP) (Kw (KL 1) (Kw (mC (.int 400)) (Kw (mC (.int 10)) KB)))) aj (KF (m2 Il (mC (.int 1)) (m2 KQ (Ku (arW 2 ag) (Kw (KL 1) (Kw (mC (.int 621)) KB))) (mC (.int 10))))))) (L7 (sIf (mB (m2 eqW (m2 KQ (Ku (arW 2 ag) (Kw (KL 1) (Kw (mC (.int 622)) KB))) (mC (.int 3))) (mC (.int 0)))) (L8 4 (m3 slW (m2 Il (KL 2) (mTl (Kv [] (KH (KL 4) MF) (tgN 0) (mB (m2 cM (KL 0) (KL 4))) (KL 0) 2))) aj (KF (Ku Km (Kw (KL 4) KB))))) LY) (L3 (Ku (arW 3 eE) (Kw (KL 0) (Kw (KL 3) (Kw (KL 4) KB))))))))))
def cY:List W->M W:=LK 5 dY
def iD : HU -> M Fl := (L7 (L8 1 (KA (Kl (Kw (mC (.str "")) (Kw (mC (.str " ")) (Kw (mC (.str "box")) (Kw (mC (.str "box a")) (Kw (mC (.str "box a 0 5")) (Kw (mC (.str "box a x")) (Kw (mC (.str "box A 0")) (Kw (mC (.str "box a -1")) (Kw (mC (.str "box a 00")) (Kw (mC (.str "box a 05")) KB))))))))))))) (L7 (L8 1 (KA (Iw (KL 1) (mTl (Kl (Kw (mC (.str "box a +5")) (Kw (mC (.str "box a 1_0")) (Kw (mC (.str "box a 1000")) (Kw (mC (.str "box a 5.0")) (Kw (mC (.str "box  a 0")) (Kw (mC (.str "box a 0 ")) (Kw (mC (.str "Box a 0")) KB)))))))))))) (L7 (L8 1 (KA (Iw (KL 1) (mTl (Kl (Kw (mC (.str "boxes a 0")) (Kw (mC (.str "box abcdefghi 0")) (Kw (mC (.str "box a1 0")) (Kw (mC (.str "box 0 a")) (Kw (mC (.str "box a a")) (Kw (mC (.str "box a 1+1")) (Kw (mC (.str "block")) KB)))))))))))) (L7 (L8 1 (KA (Iw (KL 1) (mTl (Kl (Kw (mC (.str "block A")) (Kw (mC (.str "block a b")) (Kw (mC (.str "block a1")) (Kw (mC (.str "block abcdefghi")) (Kw (mC (.str "blocks a")) (Kw (mC (.str "Block a")) (Kw (mC (.str "block ")) KB)))))))))))) (L7 (L8 1 (KA (Iw (KL 1) (mTl (Kl (Kw (mC (.str " block a")) (Kw (mC (.str "block 1")) (Kw (mC (.str "block -a")) (Kw (mC (.str "put")) (Kw (mC (.str "put a")) (Kw (mC (.str "put a 1 2")) (Kw (mC (.str "put A 1")) (Kw (mC (.str "put a -1")) KB))))))))))))) (L7 (L8 1 (KA (Iw (KL 1) (mTl (Kl (Kw (mC (.str "put a (1")) (Kw (mC (.str "put a 1)")) (Kw (mC (.str "put a 1+")) (Kw (mC (.str "put a a1")) (Kw (mC (.str "put a 01")) (Kw (mC (.str "put a 1000")) (Kw (mC (.str "put a 1 + 1")) KB)))))))))))) (L7 (L8 1 (KA (Iw (KL 1) (mTl (Kl (Kw (mC (.str "put 1 a")) (Kw (mC (.str "put a = 1")) (Kw (mC (.str "put zz 1+")) (Kw (mC (.str "put a +1")) (Kw (mC (.str "put a 1--1")) (Kw (mC (.str "put a *1")) (Kw (mC (.str "put a ()")) KB)))))))))))) (L7 (L8 1 (KA (Iw (KL 1) (mTl (Kl (Kw (mC (.str "put a a(b)")) (Kw (mC (.str "put a 2a")) (Kw (mC (.str "put a 1_0")) (Kw (mC (.str "put a ")) (Kw (mC (.str "put a a/1")) (Kw (mC (.str "say")) (Kw (mC (.str "say 1 2")) (Kw (mC (.str "say A")) KB))))))))))))) (L7 (L8 1 (KA (Iw (KL 1) (mTl (Kl (Kw (mC (.str "say -1")) (Kw (mC (.str "say 1+")) (Kw (mC (.str "say ")) (Kw (mC (.str "Say 1")) (Kw (mC (.str "says 1")) (Kw (mC (.str "say (1")) (Kw (mC (.str "say \"a\"")) (Kw (mC (.str "say zz 1")) (Kw (mC (.str "ask")) KB)))))))))))))) (L7 (L8 1 (KA (Iw (KL 1) (mTl (Kl (Kw (mC (.str "ask a b")) (Kw (mC (.str "ask A")) (Kw (mC (.str "ask 1")) (Kw (mC (.str "asks a")) (Kw (mC (.str "ask  a")) (Kw (mC (.str "ask a ")) (Kw (mC (.str "ask (a)")) (Kw (mC (.str "go")) (Kw (mC (.str "go A")) (Kw (mC (.str "go a b")) KB))))))))))))))) (L7 (L8 1 (KA (Iw (KL 1) (mTl (Kl (Kw (mC (.str "go 1")) (Kw (mC (.str "goto a")) (Kw (mC (.str "go  a")) (Kw (mC (.str "go a ")) (Kw (mC (.str "go abcdefghi")) (Kw (mC (.str "Go a")) (Kw (mC (.str "if")) (Kw (mC (.str "if a < 1")) (Kw (mC (.str "if a < 1 a")) KB)))))))))))))) (L7 (L8 1 (KA (Iw (KL 1) (mTl (Kl (Kw (mC (.str "if a < 1 a else")) (Kw (mC (.str "if a < 1 a b")) (Kw (mC (.str "if a < 1 a else b c")) (Kw (mC (.str "if a < 1 a else 1")) KB))))))))) (L7 (L8 1 (KA (Iw (KL 1) (mTl (Kl (Kw (mC (.str "if a < 1 1 else b")) (Kw (mC (.str "if a > 1 a else b")) (Kw (mC (.str "if a <= 1 a else b")) (Kw (mC (.str "if a == 1 a else b")) KB))))))))) (L7 (L8 1 (KA (Iw (KL 1) (mTl (Kl (Kw (mC (.str "if < a 1 a else b")) (Kw (mC (.str "if a<1 a else b")) (Kw (mC (.str "if a < 1 a Else b")) (Kw (mC (.str "if a < 1 a then b")) KB))))))))) (L7 (L8 1 (KA (Iw (KL 1) (mTl (Kl (Kw (mC (.str "if a < 1 else a b")) (Kw (mC (.str "if a < 1  a else b")) (Kw (mC (.str "if 1) = 2 a else b")) (Kw (mC (.str "if a1 < 2 a else b")) KB))))))))) (L7 (L8 1 (KA (Iw (KL 1) (mTl (Kl (Kw (mC (.str "if 1+ < 2 a else b")) (Kw (mC (.str "if a < (1 a else b")) (Kw (mC (.str "if a < a else b")) (Kw (mC (.str "if A < 1 a else b")) KB))))))))) (L7 (L8 1 (KA (Iw (KL 1) (mTl (Kl (Kw (mC (.str "if zz < 1+ a else b")) (Kw (mC (.str "if -1 < a a else b")) (Kw (mC (.str "if a = -1 a else b")) (Kw (mC (.str "ifs a < 1 a else b")) KB))))))))) (L7 (L8 1 (KA (Iw (KL 1) (mTl (Kl (Kw (mC (.str "if a < 1 go a")) (Kw (mC (.str "table")) (Kw (mC (.str "table a")) (Kw (mC (.str "table 1")) (Kw (mC (.str "table a b c d e f g h")) (Kw (mC (.str "table A a")) KB))))))))))) (L7 (L8 1 (KA (Iw (KL 1) (mTl (Kl (Kw (mC (.str "table 1+ a")) (Kw (mC (.str "table a A")) (Kw (mC (.str "table a b 1")) (Kw (mC (.str "table a  b")) (Kw (mC (.str "table a b ")) (Kw (mC (.str "tables a b")) KB))))))))))) (L7 (L8 1 (KA (Iw (KL 1) (mTl (Kl (Kw (mC (.str "Table a b")) (Kw (mC (.str "table -1 a")) (Kw (mC (.str "table a b else")) (Kw (mC (.str "table (a b")) (Kw (mC (.str "stop 1")) (Kw (mC (.str "stops")) (Kw (mC (.str " stop")) KB)))))))))))) (L7 (L8 1 (KA (Iw (KL 1) (mTl (Kl (Kw (mC (.str "stop ")) (Kw (mC (.str "Stop")) (Kw (mC (.str "stop stop")) (Kw (mC (.str "end")) (Kw (mC (.str "else")) (Kw (mC (.str "else a")) (Kw (mC (.str "a")) (Kw (mC (.str "1")) (Kw (mC (.str "let a 1")) (Kw (mC (.str "while a < 1")) KB))))))))))))))) (L7 (L8 1 (KA (Iw (KL 1) (mTl (Kl (Kw (mC (.str "go~a")) (Kw (mC (.str "# a")) KB))))))) (L7 (L8 2 (mTl (Kl (Kw (mC (.str "box")) (Kw (mC (.str "block")) (Kw (mC (.str "put")) (Kw (mC (.str "say")) (Kw (mC (.str "ask")) (Kw (mC (.str "go")) (Kw (mC (.str "if")) (Kw (mC (.str "else")) (Kw (mC (.str "table")) (Kw (mC (.str "stop")) KB))))))))))))) (L7 (L8 3 (m2 ixW (KL 2) (m2 KQ (Ku (arW 2 ag) (Kw (KL 0) (Kw (mC (.int 75)) KB))) (mC (.int 10))))) (L7 (L8 1 (KA (Iw (KL 1) (mTl (Kl (Kw (m2 Il (m2 Il (mC (.str "box ")) (KL 3)) (mC (.str " 0"))) (Kw (m2 Il (mC (.str "block ")) (KL 3)) (Kw (m2 Il (mC (.str "ask ")) (KL 3)) (Kw (m2 Il (m2 Il (mC (.str "put ")) (KL 3)) (mC (.str " 1"))) KB))))))))) (L7 (sEx (Kz isL aR (KL 1) (Kw (m2 Il (mC (.str "put a ")) (KL 3)) KB))) (L7 (L8 1 (KA (Iw (KL 1) (mTl (Kl (Kw (m2 Il (mC (.str "go ")) (KL 3)) (Kw (m2 Il (mC (.str "say ")) (KL 3)) (Kw (m2 Il (m2 Il (mC (.str "if ")) (KL 3)) (mC (.str " < 1 a else b"))) KB)))))))) (L7 (sEx (Kz isL aR (KL 1) (Kw (m2 Il (m2 Il (mC (.str "if 1 < ")) (KL 3)) (mC (.str "+1 a else b"))) KB))) (L7 (L8 1 (KA (Iw (KL 1) (mTl (Kl (Kw (m2 Il (m2 Il (mC (.str "if 1 < 2 ")) (KL 3)) (mC (.str " else b"))) (Kw (m2 Il (mC (.str "if 1 < 2 a else ")) (KL 3)) (Kw (m2 Il (mC (.str "table 1 a ")) (KL 3)) KB)))))))) (L7 (sEx (Kz isL aR (KL 1) (Kw (m2 Il (m2 Il (mC (.str "table ")) (KL 3)) (mC (.str " a"))) KB))) (L7 (L8 1 (KA (Iw (KL 1) (mTl (Kl (Kw (m2 Il (m2 Il (mC (.str "put a ")) (m2 KU (mC (.str "1+")) (mC (.int 30)))) (mC (.str "1"))) (Kw (m2 Il (m2 Il (m2 Il (mC (.str "say ")) (m2 KU (mC (.str "(")) (mC (.int 6)))) (mC (.str "a"))) (m2 KU (mC (.str ")")) (mC (.int 6)))) (Kw (m2 Il (m2 Il (mC (.str "if ")) (m2 KU (mC (.str "1+")) (mC (.int 30)))) (mC (.str "1 = 2 a else b"))) KB)))))))) (L7 (sEx (Kz isL aR (KL 1) (Kw (m2 Il (m2 Il (mC (.str "table ")) (m2 KU (mC (.str "1+")) (mC (.int 30)))) (mC (.str "1 a"))) KB))) (L3 (m2 ixW (KL 1) (m2 KQ (Ku (arW 2 ag) (Kw (KL 0) (Kw (mC (.int 70)) KB))) (Ku Km (Kw (KL 1) KB)))))))))))))))))))))))))))))))))))))
def dh:List W->M W:=LK 4 iD
def dX:HU->M Fl:=(L7 (L8 1 (KA (Kl KB))) (L7 (L9 2 ["NoRow"] 1 lq (Kw (Kz isS Kb (mC (.str "\n")) (Kw (KL 0) KB)) KB) (L7 (L8 1 (KA (Kl (Kw (Ku (J2 ["NoRow"]) (Kw (KL 2) (Kw (mC (.cls "TooLong")) KB))) (Kw (Ku (J2 ["NoRow"]) (Kw (KL 2) (Kw (mC (.cls "NoRow")) KB))) (Kw (Ku (J2 ["NoRow"]) (Kw (KL 2) (Kw (mC (.cls "NoPlace")) KB))) (Kw (Ku (J2 ["NoRow"]) (Kw (KL 2) (Kw (mC (.cls "Twice")) KB))) KB))))))) (L7 (L8 1 (KA (Iw (KL 1) (mTl (Kl (Kw (Ku (J2 ["NoRow"]) (Kw (KL 2) (Kw (mC (.cls "Full")) KB))) (Kw (Ku (J2 ["NoRow"]) (Kw (KL 2) (Kw (mC (.cls "NoBox")) KB))) (Kw (Ku (J2 ["NoRow"]) (Kw (KL 2) (Kw (mC (.cls "Open")) KB))) (Kw (Ku (J2 ["NoRow"]) (Kw (KL 2) (Kw (mC (.cls "NoBlock")) KB))) KB))))))))) (L7 (L8 1 (KA (Iw (KL 1) (mTl (Kl (Kw (Ku (J2 ["NoRow"]) (Kw (KL 2) (Kw (mC (.cls "NoForm")) KB))) (Kw (Ku (J2 ["NoRow"]) (Kw (KL 2) (Kw (mC (.cls "NoneYet")) KB))) (Kw (Ku (J2 ["NoRow"]) (Kw (KL 2) (Kw (mC (.cls "NoOrder")) KB))) (Kw (Ku (J2 ["NoRow"]) (Kw (KL 2) (Kw (mC (.cls "NoWay")) KB))) KB))))))))) (sEx (Kz isL aR (KL 1) (Kw (KD (Ku (J2 ["NoRow"]) (Kw (KL 2) (Kw (mC (.ty "ValueError")) KB)))) KB))))))) (L3 (m1 JK (KL 1)))))
def cX:List W->M W:=LK 3 dX
def eO:HU->M Fl:=(L7 (L8 3 (Kz isS MC (KL 0) (Kw (mC (.str " ")) KB))) (L7 (sIf (mB (m2 eqW (KL 1) (mC (.int 3)))) (L7 (L8 4 (m2 KQ (Ku (arW 2 ag) (Kw (KL 2) (Kw (mC (.int 74)) KB))) (Ku Km (Kw (KL 3) KB)))) (L7 (aP (KL 3) (KL 4) (m2 Il (m2 ixW (KL 3) (KL 4)) (m2 ixW (mC (.str "+*(!. =<-")) (m2 KQ (Ku (arW 2 ag) (Kw (KL 2) (Kw (mC (.int 71)) KB))) (mC (.int 9)))))) (L3 (Kz isS Kb (mC (.str " ")) (Kw (KL 3) KB))))) LY) (L7 (sIf (Ks (mB (m2 eqW (KL 1) (mC (.int 4)))) (Ks (mB (m2 gtW (Ku Km (Kw (KL 3) KB)) (mC (.int 1)))) (mB (m2 neW (m2 ixW (KL 3) (mC (.int 0))) (mC (.str "table")))))) (L3 (Kz isS Kb (mC (.str " ")) (Kw (m3 slW (KL 3) aj (KF (m2 Il (mC (.int 1)) (m2 KQ (Ku (arW 2 ag) (Kw (KL 2) (Kw (mC (.int 72)) KB))) (m2 MP (Ku Km (Kw (KL 3) KB)) (mC (.int 1))))))) KB))) LY) (L7 (sIf (Ks (mB (m2 eqW (KL 1) (mC (.int 4)))) (mB (m2 eqW (m2 ixW (KL 3) (mC (.int 0))) (mC (.str "table"))))) (L3 (Kz isS Kb (mC (.str " ")) (Kw (m3 slW (KL 3) aj (KF (mC (.int 2)))) KB))) LY) (L7 (sIf (mB (m2 eqW (KL 1) (mC (.int 4)))) (L3 (m2 Il (mC (.str "say ")) (m2 ixW (mTl (Kl (Kw (m2 Il (m2 Il (m2 KU (mC (.str "(")) (mC (.int 6))) (mC (.str "a"))) (m2 KU (mC (.str ")")) (mC (.int 6)))) (Kw (m2 Il (m2 KU (mC (.str "1+")) (mC (.int 30))) (mC (.str "1"))) KB)))) (m2 KQ (Ku (arW 2 ag) (Kw (KL 2) (Kw (mC (.int 72)) KB))) (mC (.int 2)))))) LY) (L7 (L8 4 (m2 KQ (Ku (arW 2 ag) (Kw (KL 2) (Kw (mC (.int 73)) KB))) (m2 Il (Ku Km (Kw (KL 0) KB)) (mC (.int 1))))) (L3 (m2 Il (m2 Il (m3 slW (KL 0) aj (KF (KL 4))) (mC (.str " "))) (m3 slW (KL 0) (KF (KL 4)) aj)))))))))
def cS:List W->M W:=LK 5 eO
def sB:HU->M Fl:=(L7 (L8 1 (m2 ixW (Ku (arW 1 cY) (Kw (m3 slW (KL 0) (KF (mC (.int 3))) aj) KB)) (mC (.int 0)))) (L7 (L8 2 (m2 KQ (Ku (arW 2 bp) (Kw (KL 0) (Kw (mC (.int 0)) KB))) (m2 Il (Ku Km (Kw (KL 1) KB)) (mC (.int 1))))) (L7 (L8 3 (m2 KQ (Ku (arW 2 bp) (Kw (KL 0) (Kw (mC (.int 1)) KB))) (mC (.int 6)))) (L7 (L8 4 (Ku (arW 2 bp) (Kw (KL 0) (Kw (mC (.int 2)) KB)))) (L7 (sIf (mOr (mB (m2 ltW (KL 3) (mC (.int 2)))) (mB (m2 eqW (KL 2) (Ku Km (Kw (KL 1) KB))))) (L8 1 (KA (Iw (m2 Il (m3 slW (KL 1) aj (KF (KL 2))) (mTl (Kl (Kw (Ku (arW 1 dh) (Kw (KL 4) KB)) KB)))) (m3 slW (KL 1) (KF (KL 2)) aj)))) (sIf (mB (m2 eqW (KL 3) (mC (.int 2)))) (aP (KL 1) (KL 2) (Ku (arW 1 dh) (Kw (KL 4) KB))) (sIf (Ks (mB (m2 eqW (m3 slW (m2 ixW (KL 1) (KL 2)) aj (KF (mC (.int 5)))) (mC (.str "table")))) (mB (m2 eqW (KL 3) (mC (.int 5))))) (aP (KL 1) (KL 2) (m2 Il (mC (.str " ")) (m2 ixW (KL 1) (KL 2)))) (aP (KL 1) (KL 2) (Ku (arW 3 cS) (Kw (m2 ixW (KL 1) (KL 2)) (Kw (KL 3) (Kw (KL 4) KB)))))))) (L3 (m2 eqW (Ku (arW 1 cX) (Kw (KL 1) KB)) (mTl (Kv [] (KI (Kw (mC (.int 13)) KB) LI) (tgN 0) KM (m2 eqW (KL 0) (mC (.int 1))) 2)))))))))
def p9:List W->M W:=LK 5 sB
end Q
namespace Q
open PySem L2
local macro_rules | `(tactic| simp! only [$xs,*]) => `(tactic| try simp only [IV,aX,bD,bC,bG,bE,bu,ck,cm,LX,Ky,ar,LR,LS,LW,Nb,L3,L8,LY,sEx,LZ,bv,LU,Ma,aP,mB,L2.m2,L2.m1,L2.m3,KL,mC,Ku,Kw,KB,KJ,mTl,KA,Kl,Kn,KF,aj,Ks,mOr,KC,Kt,KE,KD,mIf,ba,Kz,isS,KH,KI,MF,MH,MG,tgN,tgT,Mn,KM,aZ,bd_no,asB_bl,addW_int,subW_int,ltW_int,leW_int,gtW_int,geW_int,eqW_int,eqW_str,neW_int,neW_str,neW_bl,slW_tl,slW_cl,lenW_tl,lenW_tup,KW,E2,E3,E4,Ez,Di,Ew,arW,if_true,if_false,E5,ite_true,ite_false,reduceIte,decide_true,decide_false,E6,E7,cj,Jf,Jg,Jr,Jx,Jy,Jz,JB,JC,JD,JG,Jh,Ji,Jj,Jk,Jl,Jm,Jn,Jo,Jp,Jq,Js,Jt,Ju,Jv,Jw,$xs,*])
local macro_rules | `(tactic| simp!) => `(tactic| simp! only [aa])
section
theorem sz {n:Nat}(h:n<=100000):n<=sizeLine:=Dy h (by decide)
theorem ot (l:List W):Kp (.tl l)=pr l:=rfl
theorem dU (l:List W):MF (.tl l)=pr ⟨l,fun _=>True⟩:=rfl
theorem ml (l:List W):iH [.tl l]=pr (.tup l):=rfl
theorem kb (a b:List W)(h:a.length+b.length<=sizeLine):Il (.tl a) (.tl b)=pr (.tl (a++b)):=by
 show gd (a.length+b.length<=sizeLine) (pr (W.tl (a++b)))=_
 exact ai h
theorem sm (l:List W):Km [.cl l]=pr (.int l.length):=rfl
noncomputable def Pd:Nat->W->Prop
 |0,_=>False
 |n+1,w=>(∃i,w=.int i)\/(∃z,w=.str z/\HD.strOk z=true)\/ ∃l,(w=.tup l\/w=.tl l)/\l.length<=1000/\ ∀x∈l,Pd n x
theorem Pd.mono: ∀ {n:Nat}{w:W},Pd n w->Pd (n+1) w
 |n+1,w,p=>by
  rcases p with p|p|⟨l,e,z,p⟩
  ·exact .inl p
  ·exact .inr (.inl p)
  ·exact .inr (.inr ⟨l,e,z,fun x hx=>(p x hx).mono⟩)
theorem Pd.int {n:Nat}{i:Int}:Pd (n+1) (.int i):=.inl ⟨i,rfl⟩
theorem Pd.str {n:Nat}{i:Str}(h:HD.strOk i=true):Pd (n+1) (.str i):=.inr (.inl ⟨i,rfl,h⟩)
theorem Pd.tup {n:Nat}{l:List W}(z:l.length<=1000)(p:∀x∈l,Pd n x):Pd (n+1) (.tup l):=.inr (.inr ⟨l,.inl rfl,z,p⟩)
theorem pd2i {a:Str}{i:Int}{n:Nat}(h:HD.strOk a=true):Pd (n+2) (.tup [.str a,.int i]):=.tup (by simp) fun x hx=>by
 rcases Dp.mp hx with rfl|hx
 ·exact .str h
 ·rw[DI.mp hx];exact .int
theorem pd2s {a b:Str}{n:Nat}(h:HD.strOk a=true)(h2:HD.strOk b=true):Pd (n+2) (.tup [.str a,.str b]):=.tup (by simp) fun x hx=>by
 rcases Dp.mp hx with rfl|hx
 ·exact .str h
 ·rw[DI.mp hx];exact .str h2
theorem pdT {l:List W}{n:Nat}(z:l.length<=1000)(h:∀x∈l,Pd n x):Pd (n+1) (.tup l):=.tup z h
theorem be {n:Nat}{w:W}{l:List W}(h:Pd n w)(r:∀x∈l,Pd n x): ∀x∈w::l,Pd n x:=fun x hx=>by
 rcases Dp.mp hx with rfl|hx
 ·exact h
 ·exact r x hx
theorem ik {n:Nat}: ∀x∈([]:List W),Pd n x:=fun x hx=>absurd hx DO
theorem kI {n:Nat}{h:List Ob}: ∀ (l:List W),(∀x∈l,∃d,IH h n x=some d/\d.canLay0=true)-> ∃ds,Lm (IH h n) l=some ds/\HD.canLayAll0 ds=true
 |[],_=>⟨[],rfl,by rw[HD.canLayAll0]⟩
 |x::l,q=>by
  obtain⟨d,e,c⟩:=q x Dt
  obtain⟨ds,es,cs⟩:=kI l fun y hy=>q y (Dz _ hy)
  refine⟨d::ds,?_,?_⟩
  ·simp only[Lm,e,es]
  ·rw[HD.canLayAll0,c,cs];rfl
theorem Pd.data {h:List Ob}: ∀ {n:Nat}{w:W},Pd n w-> ∃d,IH h n w=some d/\d.canLay0=true
 |n+1,w,p=>by
  rcases p with⟨i,rfl⟩|⟨z,rfl,hz⟩|⟨l,e,_,p⟩
  ·exact⟨.int i,rfl,by rw[HD.canLay0]⟩
  ·exact⟨.str z,rfl,by rw[HD.canLay0];exact hz⟩
  ·obtain⟨ds,es,cs⟩:=kI (h:=h) l fun x hx=>(p x hx).data
   rcases e with rfl|rfl
   ·exact⟨.tuple ds,by show (Lm (IH h n) l).map HD.tuple=_;rw[es];rfl,by rw[HD.canLay0];exact cs⟩
   ·exact⟨.list ds,by show (Lm (IH h n) l).map HD.list=_;rw[es];rfl,by rw[HD.canLay0];exact cs⟩
inductive E17
 |go (t:Int)
 |iff (s:Str)(a b:W)(x y:Int)
 |table (e:W)(ts:List Int)
 |stop
noncomputable def E17.w:E17->W
 |.go t=>.tup [.str "go",.int t]
 |.iff s a b x y=>.tup [.str "if",.str s,a,b,.int x,.int y]
 |.table e ts=>.tup [.str "table",e,.tup (ts.map W.int)]
 |.stop=>.tup [.str "stop"]
theorem AA:HD.strOk "box"=true:=by decide+kernel
theorem tQ:HD.strOk "number"=true:=by decide+kernel
end
section
open Wd
theorem gR:(" ":Str)=⟨#[32]⟩:=by decide+kernel
theorem za:("\n":Str)=⟨#[10]⟩:=by decide+kernel
structure Cln (z:Str):Prop where
 sp:32 ∉ z.cps.toList
 nl:10 ∉ z.cps.toList
 len:z.length<=60
noncomputable def clnB (z:Str):Bool:=decide (32 ∉ z.cps.toList) && (decide (10 ∉ z.cps.toList) && decide (z.length<=60))
theorem Cln.of {z:Str}(h:clnB z=true):Cln z:=by
 unfold clnB at h
 simp only[Dx,decide_eq_true_eq] at h
 exact⟨h.1,h.2.1,h.2.2⟩
theorem bQ {z:Str}(h:af z=true):Cln z:=by
 unfold af at h
 simp only[Dx,decide_eq_true_eq,DC] at h
 have q: ∀c∈z.cps.toList,97<=c:=fun c hc=>(JZ.mp (h.2.1 c hc)).1
 exact⟨fun z=>absurd (q _ z) (by decide),fun z=>absurd (q _ z) (by decide),by omega⟩
theorem oh {z:Str}(h:K1 z=true):Cln z:=by
 unfold K1 at h
 simp only[Dx,decide_eq_true_eq,DC] at h
 have q: ∀c∈z.cps.toList,48<=c:=fun c hc=>(JX.mp (h.2.2 c hc)).1
 exact⟨fun z=>absurd (q _ z) (by decide),fun z=>absurd (q _ z) (by decide),by omega⟩
noncomputable def IP:Exp->List Str
 |.num _=>[]
 |.box x=>[x]
 |.bin _ l r=>IP l++IP r
noncomputable def IQ:Exp->Bool
 |.num i=>decide (0<=i/\i<1000)
 |.box _=>true
 |.bin s l r=>decide (s∈(["+", "-", "*"]:List Str)) && (IQ l && IQ r)
noncomputable def IN:Exp->Nat
 |.num _=>0
 |.box _=>0
 |.bin _ l r=>1+max (IN l) (IN r)
structure Wrd (z:Str)(e:Exp):Prop where
 ex:IT z=some e
 c:Cln z
 ok:IQ e=true
 dp:IN e<=60
 nm:(IP e).length<=60
theorem Mp:(decide (("+":Str)= "number")=false/\decide (("+":Str)= "box")=false)/\(decide (("-":Str)= "number")=false/\decide (("-":Str)= "box")=false)/\decide (("*":Str)= "number")=false/\decide (("*":Str)= "box")=false:=by decide+kernel
theorem AB:decide (("box":Str)= "number")=false:=by decide+kernel
theorem zI {s:Str}(h:s∈(["+", "-", "*"]:List Str)):decide (s= "number")=false/\decide (s= "box")=false:=by
 simp only[Dp,DO,or_false] at h
 rcases h with rfl|rfl|rfl
 ·exact Mp.1
 ·exact Mp.2.1
 ·exact Mp.2.2
theorem kO: ∀ (n:Nat) (e:Exp),IN e<n->(IP e).length<=1000->IQ e=true->aV n [IS e]=pr (.tl ((IP e).map W.str))
 |0,e,h,_,_=>absurd h (EZ _)
 |n+1,.num i,_,_,_=>by
  have e0:aV (n+1) [IS (.num i)]=bd (cO (aV n) [some (.tup [.str "number",.int i])]) IV:=rfl
  rw[e0]
  unfold cO
  simp! only[aa,ix0]
  rfl
 |n+1,.box x,_,_,_=>by
  have e0:aV (n+1) [IS (.box x)]=bd (cO (aV n) [some (.tup [.str "box",.str x])]) IV:=rfl
  rw[e0]
  unfold cO
  simp! only[aa,ix0,ix1,AB]
  rfl
 |n+1,.bin s l r,h,z,k=>by
  have h:1+max (IN l) (IN r)<n+1:=h
  have z:(IP l++IP r).length<=1000:=z
  have k:(decide (s∈(["+", "-", "*"]:List Str)) && (IQ l && IQ r))=true:=k
  rw[Dk] at z
  rw[Dx,Dx,decide_eq_true_eq] at k
  have e0:aV (n+1) [IS (.bin s l r)]=bd (cO (aV n) [some (.tup [.str s,IS l,IS r])]) IV:=rfl
  rw[e0]
  unfold cO
  have h1:=kO n l (by omega) (by omega) k.2.1
  have h2:=kO n r (by omega) (by omega) k.2.2
  have sn:=zI k.1
  have ad:=kb ((IP l).map W.str) ((IP r).map W.str) (by rw[Dh,Dh];exact sz (by omega))
  simp! only[aa,ix0,ix1,ix2,sn.1,sn.2,h1,h2,ad]
  show pr _=pr (W.tl ((IP l++IP r).map W.str))
  rw[Dr]
inductive Rr
 |box (nm v:Str)
 |block (nm:Str)
 |put (nm z:Str)(e:Exp)
 |say (z:Str)(e:Exp)
 |ask (nm:Str)
 |go (nm:Str)
 |iff (s z1:Str)(e1:Exp)(z2:Str)(e2:Exp)(x y:Str)
 |table (z:Str)(e:Exp)(xs:List Str)
 |stop
def Rr.ws:Rr->List Str
 |.box nm v=>["box",nm,v]
 |.block nm=>["block",nm]
 |.put nm z _=>["put",nm,z]
 |.say z _=>["say",z]
 |.ask nm=>["ask",nm]
 |.go nm=>["go",nm]
 |.iff s z1 _ z2 _ x y=>["if",z1,s,z2,x, "else",y]
 |.table z _ xs=> "table"::z::xs
 |.stop=>["stop"]
def Rr.tx (r:Rr):Str:=Str.join ⟨#[32]⟩ r.ws
def Rr.form:Rr->W
 |.box nm v=>.tup [.str "box",.str nm,.int (cL v)]
 |.block nm=>.tup [.str "block",.str nm]
 |.put nm _ e=>.tup [.str "put",.str nm,IS e]
 |.say _ e=>.tup [.str "say",IS e]
 |.ask nm=>.tup [.str "ask",.str nm]
 |.go nm=>.tup [.str "go",.str nm]
 |.iff s _ e1 _ e2 x y=>.tup [.str "if",.str s,IS e1,IS e2,.str x,.str y]
 |.table _ e xs=>.tup [.str "table",IS e,.tup (xs.map W.str)]
 |.stop=>.tup [.str "stop"]
def Rr.Ok:Rr->Prop
 |.box nm v=>af nm=true/\K1 v=true
 |.block nm=>af nm=true
 |.put nm z e=>af nm=true/\Wrd z e
 |.say z e=>Wrd z e
 |.ask nm=>af nm=true
 |.go nm=>af nm=true
 |.iff s z1 e1 z2 e2 x y=>(s= "<"\/s= "=")/\Wrd z1 e1/\Wrd z2 e2/\af x=true/\af y=true
 |.table z e xs=>Wrd z e/\xs≠ []/\xs.length<=6/\ ∀x∈xs,af x=true
 |.stop=>True
theorem CP:Cln "box"/\Cln "block"/\Cln "put"/\Cln "say"/\Cln "ask"/\Cln "go"/\Cln "if"/\Cln "else"/\Cln "table"/\Cln "stop"/\Cln "<"/\Cln "=":=⟨.of (by decide+kernel),.of (by decide+kernel),.of (by decide+kernel),.of (by decide+kernel),.of (by decide+kernel),.of (by decide+kernel),.of (by decide+kernel),.of (by decide+kernel),.of (by decide+kernel),.of (by decide+kernel),.of (by decide+kernel),.of (by decide+kernel)⟩
theorem fH: ∀z∈([]:List Str),Cln z:=fun z h=>absurd h DO
theorem aJ {z:Str}{l:List Str}(h:Cln z)(t:∀z∈l,Cln z): ∀y∈z::l,Cln y:=fun y hy=>by
 rcases Dp.mp hy with rfl|hy
 ·exact h
 ·exact t y hy
theorem Rr.Ok.cln {r:Rr}(g:r.Ok):(∀z∈r.ws,Cln z)/\r.ws≠ []/\r.ws.length<=8:=by
 obtain⟨k1,k2,k3,k4,k5,k6,k7,k8,k9,k10,k11,k12⟩:=CP
 cases r with
 |box nm v=>exact⟨aJ k1 (aJ (bQ g.1) (aJ (oh g.2) fH)),by simp [ws],by simp [ws]⟩
 |block nm=>exact⟨aJ k2 (aJ (bQ g) fH),by simp [ws],by simp [ws]⟩
 |put nm z e=>exact⟨aJ k3 (aJ (bQ g.1) (aJ g.2.c fH)),by simp [ws],by simp [ws]⟩
 |say z e=>exact⟨aJ k4 (aJ g.c fH),by simp [ws],by simp [ws]⟩
 |ask nm=>exact⟨aJ k5 (aJ (bQ g) fH),by simp [ws],by simp [ws]⟩
 |go nm=>exact⟨aJ k6 (aJ (bQ g) fH),by simp [ws],by simp [ws]⟩
 |iff s z1 e1 z2 e2 x y=>
  have hs:Cln s:=by rcases g.1 with rfl|rfl;exact k11;exact k12
  exact⟨aJ k7 (aJ g.2.1.c (aJ hs (aJ g.2.2.1.c (aJ (bQ g.2.2.2.1) (aJ k8 (aJ (bQ g.2.2.2.2) fH)))))),by simp [ws],by simp [ws]⟩
 |table z e xs=>exact⟨aJ k9 (aJ g.1.c fun x hx=>bQ (g.2.2.2 x hx)),by simp [ws],by have:=g.2.2.1;simp [ws];omega⟩
 |stop=>exact⟨aJ k10 fH,by simp [ws],by simp [ws]⟩
theorem j3 {c:Nat}{n:Nat}: ∀ {l:List Str},(∀z∈l,z.length<=n)->(Str.join ⟨#[c]⟩ l).length<=(n+1) * l.length:=fun{l} h=>by
 refine Dy (StrLaws.join_length_le _ l) ?_
 have:(l.map (·.length)).sum<=n * l.length:=by
  induction l with
  |nil=>simp
  |cons z l ih=>
   have a:=h z Dt
   have b:=ih fun z hz=>h z (Dz _ hz)
   rw[Dj,Ey,Di,FY]
   omega
 rw[Nat.add_mul,show (⟨#[c]⟩:Str).length=1 from rfl,Nat.mul_one,Nat.one_mul]
 omega
theorem Rr.Ok.len {r:Rr}(g:r.Ok):r.tx.length<=600:=by
 have a:=j3 (c:=32) (n:=60) fun z hz=>(g.cln.1 z hz).len
 have b:=g.cln.2.2
 unfold Rr.tx
 omega
theorem xk {r:Rr}(g:r.Ok):ME (.str r.tx) [.str " "]=pr (.tl (r.ws.map W.str)):=by
 rw[gR]
 exact kq g.cln.2.1 (fun z hz=>(g.cln.1 z hz).sp) (sz (by have:=g.len;unfold Rr.tx at this;omega)) (sz (by have:=g.cln.2.2;omega))
theorem sv {l:List Str}(h:∀z∈l,10 ∉ z.cps.toList):10 ∉ (Str.join ⟨#[32]⟩ l).cps.toList:=by
 induction l with
 |nil=>exact fun z=>by cases z
 |cons x l ih=>
  cases l with
  |nil=>exact h x Dt
  |cons y l=>
   rw[b9,DE,Dp,not_or,not_or]
   exact⟨h x Dt,by decide,ih fun z hz=>h z (Dz _ hz)⟩
theorem Rr.Ok.nl {r:Rr}(g:r.Ok):10 ∉ r.tx.cps.toList:=sv fun z hz=>(g.cln.1 z hz).nl
theorem uf {z:Str}(h:af z=true):fE [.str z]=pr (.bl true):=by
 show gd (z.length<=sizeLine) (pr (W.bl (af z)))=_
 rw[ai (sz (by have:=(bQ h).len;omega)),h]
theorem v7 {z:Str}(h:K1 z=true):ir [.str z]=pr (.bl true):=by
 show gd (z.length<=sizeLine) (pr (W.bl (K1 z)))=_
 rw[ai (sz (by have:=(oh h).len;omega)),h]
theorem i7 {z:Str}{e:Exp}(h:Wrd z e):fQ [.str z]=pr (IS e):=by
 show gd (z.length<=sizeLine) (match IT z with
  |some e=>pr (IS e)
  |none=>fun h=>.ex "NoRow" h)=_
 rw[ai (sz (by have:=h.c.len;omega)),h.ex]
theorem bH {z:Str}(h:af z=true):bh [.str z]=pr (.str z):=by
 have e0:bh [.str z]=bd (eP [some (.str z)]) IV:=rfl
 rw[e0]
 unfold eP
 simp! only[aa,uf h]
theorem yD {z:Str}(h:K1 z=true):JP [.str z]=pr (.int (cL z)):=by
 have a:=kL h
 show (match PySem.intText? z with
  |some n=>gd (z.length<=640) (pr (W.int n))
  |none=>no)=_
 rw[a.1]
 exact ai a.2
theorem og {z:Str}(h:K1 z=true):dg [.str z]=pr (.int (cL z)):=by
 have e0:dg [.str z]=bd (df [some (.str z)]) IV:=rfl
 rw[e0]
 unfold df
 simp! only[aa,v7 h,yD h]
theorem tx0 (a:W)(l:List W):ixW (.tl (a::l)) (.int 0)=pr a:=bM (aE (by decide) rfl)
theorem tx1 (a b:W)(l:List W):ixW (.tl (a::b::l)) (.int 1)=pr b:=bM (aE (by decide) rfl)
theorem tx2 (a b c:W)(l:List W):ixW (.tl (a::b::c::l)) (.int 2)=pr c:=bM (aE (by decide) rfl)
theorem tx3 (a b c d:W)(l:List W):ixW (.tl (a::b::c::d::l)) (.int 3)=pr d:=bM (aE (by decide) rfl)
theorem tx4 (a b c d e:W)(l:List W):ixW (.tl (a::b::c::d::e::l)) (.int 4)=pr e:=bM (aE (by decide) rfl)
theorem tx5 (a b c d e f:W)(l:List W):ixW (.tl (a::b::c::d::e::f::l)) (.int 5)=pr f:=bM (aE (by decide) rfl)
theorem tx6 (a b c d e f g:W)(l:List W):ixW (.tl (a::b::c::d::e::f::g::l)) (.int 6)=pr g:=bM (aE (by decide) rfl)
theorem sy {x:Str}{ss:List Str}{h:List Ob}:inB (.str x) (.tup (ss.map W.str)) h=some (decide (x∈ss)):=by
 show (match vOf (.str x),Ng (ss.map W.str) with
  |some v,some vs=>some (inV v vs)
  |_,_=>none)=_
 rw[fU (k:=V.str) (fun a=>rfl)]
 show some (inV (.str x) (ss.map V.str))=_
 rw[i4]
theorem jB {x:Str}{ss:List Str}:inW (.str x) (.tup (ss.map W.str))=pr (.bl (decide (x∈ss))):=by
 funext h
 unfold inW
 rw[sy];rfl
theorem dM {x:Str}{ss:List Str}:cM (.str x) (.tup (ss.map W.str))=pr (.bl (!decide (x∈ss))):=by
 funext h
 unfold cM
 rw[sy];rfl
theorem vH {s:Str}(h:s= "<"\/s= "="):cM (.str s) (.tup ((["<", "="]:List Str).map W.str))=pr (.bl false):=by
 rw[dM,decide_eq_true (by simpa using h)];rfl
theorem hds:(decide (("box":Str)= "block")=false/\decide (("box":Str)= "put")=false/\decide (("box":Str)= "say")=false/\decide (("box":Str)= "ask")=false/\decide (("box":Str)= "go")=false/\decide (("box":Str)= "if")=false/\decide (("box":Str)= "table")=false/\decide (("box":Str)= "stop")=false)/\(decide (("block":Str)= "box")=false/\decide (("block":Str)= "put")=false/\decide (("block":Str)= "say")=false/\decide (("block":Str)= "ask")=false/\decide (("block":Str)= "go")=false/\decide (("block":Str)= "if")=false/\decide (("block":Str)= "table")=false/\decide (("block":Str)= "stop")=false)/\(decide (("put":Str)= "box")=false/\decide (("put":Str)= "block")=false/\decide (("put":Str)= "say")=false/\decide (("put":Str)= "ask")=false/\decide (("put":Str)= "go")=false/\decide (("put":Str)= "if")=false/\decide (("put":Str)= "table")=false/\decide (("put":Str)= "stop")=false)/\(decide (("say":Str)= "box")=false/\decide (("say":Str)= "block")=false/\decide (("say":Str)= "put")=false/\decide (("say":Str)= "ask")=false/\decide (("say":Str)= "go")=false/\decide (("say":Str)= "if")=false/\decide (("say":Str)= "table")=false/\decide (("say":Str)= "stop")=false)/\(decide (("ask":Str)= "box")=false/\decide (("ask":Str)= "block")=false/\decide (("ask":Str)= "put")=false/\decide (("ask":Str)= "say")=false/\decide (("ask":Str)= "go")=false/\decide (("ask":Str)= "if")=false/\decide (("ask":Str)= "table")=false/\decide (("ask":Str)= "stop")=false)/\(decide (("go":Str)= "box")=false/\decide (("go":Str)= "block")=false/\decide (("go":Str)= "put")=false/\decide (("go":Str)= "say")=false/\decide (("go":Str)= "ask")=false/\decide (("go":Str)= "if")=false/\decide (("go":Str)= "table")=false/\decide (("go":Str)= "stop")=false)/\(decide (("if":Str)= "box")=false/\decide (("if":Str)= "block")=false/\decide (("if":Str)= "put")=false/\decide (("if":Str)= "say")=false/\decide (("if":Str)= "ask")=false/\decide (("if":Str)= "go")=false/\decide (("if":Str)= "table")=false/\decide (("if":Str)= "stop")=false)/\(decide (("table":Str)= "box")=false/\decide (("table":Str)= "block")=false/\decide (("table":Str)= "put")=false/\decide (("table":Str)= "say")=false/\decide (("table":Str)= "ask")=false/\decide (("table":Str)= "go")=false/\decide (("table":Str)= "if")=false/\decide (("table":Str)= "stop")=false)/\(decide (("stop":Str)= "box")=false/\decide (("stop":Str)= "block")=false/\decide (("stop":Str)= "put")=false/\decide (("stop":Str)= "say")=false/\decide (("stop":Str)= "ask")=false/\decide (("stop":Str)= "go")=false/\decide (("stop":Str)= "if")=false/\decide (("stop":Str)= "table")=false):=⟨by decide+kernel,by decide+kernel,by decide+kernel,by decide+kernel,by decide+kernel,by decide+kernel,by decide+kernel,by decide+kernel,by decide+kernel⟩
theorem eD:(decide (((0+1:Nat):Int)=1)=true/\decide (((0+1:Nat):Int)=2)=false/\decide (((0+1:Nat):Int)=3)=false)/\(decide (((0+1+1:Nat):Int)=2)=true/\decide (((0+1+1:Nat):Int)=3)=false)/\decide (((0+1+1+1:Nat):Int)=3)=true/\decide (((0+1+1+1+1+1+1+1:Nat):Int)=7)=true:=by decide
theorem yP {s z1 z2 x y:Str}{e1 e2:Exp}(g:(Rr.iff s z1 e1 z2 e2 x y).Ok):ci [.tl ((Rr.iff s z1 e1 z2 e2 x y).ws.map W.str)]=pr (Rr.iff s z1 e1 z2 e2 x y).form:=by
 obtain⟨g1,g2,g3,g4,g5⟩:=g
 have e0:ci [.tl ((Rr.iff s z1 e1 z2 e2 x y).ws.map W.str)]=bd (cc [some (.tl [.str "if",.str z1,.str s,.str z2,.str x,.str "else",.str y]),none,none,none]) IV:=rfl
 rw[e0]
 unfold cc
 simp! only[aa,tx1,tx2,tx3,tx4,tx5,tx6,vH g1,i7 g2,i7 g3,bH g4,bH g5]
 rfl
theorem rf {xs:List Str}{ρ:HU}(h:∀x∈xs,af x=true):IB (fun _=>True) (tgN 0) KM (Ku (arW 1 bh) (Kw (KL 0) KB)) 2 (xs.map W.str) ρ=pr (xs.map W.str):=by
 have:=lC (t:=tgN 0) (f:=KM) (e:=Ku (arW 1 bh) (Kw (KL 0) KB)) (n:=2) (ρ:=ρ) (b:=fun _=>true) (v:=id) (l:=xs.map W.str) fun w hw=>by
  obtain⟨x,hx,rfl⟩:=DV.mp hw
  refine⟨_,rfl,rfl,fun _=>?_⟩
  simp! only[List.replicate,DY,DU,aa,bH (h x hx),id]
 rw[this,List.map_id,Fv.mpr fun _ _=>rfl]
theorem yH {r:Rr}(g:r.Ok):di [.str r.tx]=pr r.form:=by
 have e0:di [.str r.tx]=bd (eQ [some (.str r.tx),none,none,none]) IV:=rfl
 rw[e0]
 unfold eQ
 have sp:=xk g
 cases r with
 |box nm v=>
  generalize (Rr.box nm v).tx=T at *
  simp! only[aa,sp,Rr.ws,Dj,Dm,tx0,tx1,tx2,bH g.1,og g.2,eq_self,decide_true,eD]
  rfl
 |block nm=>
  generalize (Rr.block nm).tx=T at *
  simp! only[aa,sp,Rr.ws,Dj,Dm,tx0,tx1,tx2,hds,bH g,eq_self,decide_true,eD]
  rfl
 |put nm z e=>
  generalize (Rr.put nm z e).tx=T at *
  simp! only[aa,sp,Rr.ws,Dj,Dm,tx0,tx1,tx2,hds,bH g.1,i7 g.2,eq_self,decide_true,eD]
  rfl
 |say z e=>
  generalize (Rr.say z e).tx=T at *
  simp! only[aa,sp,Rr.ws,Dj,Dm,tx0,tx1,tx2,hds,i7 g,eq_self,decide_true,eD]
  rfl
 |ask nm=>
  generalize (Rr.ask nm).tx=T at *
  simp! only[aa,sp,Rr.ws,Dj,Dm,tx0,tx1,tx2,hds,bH g,eq_self,decide_true,eD]
  rfl
 |go nm=>
  generalize (Rr.go nm).tx=T at *
  simp! only[aa,sp,Rr.ws,Dj,Dm,tx0,tx1,tx2,hds,bH g,eq_self,decide_true,eD]
  rfl
 |iff s z1 e1 z2 e2 x y=>
  have ce:=yP g
  generalize (Rr.iff s z1 e1 z2 e2 x y).tx=T at *
  generalize (Rr.iff s z1 e1 z2 e2 x y).form=F at *
  simp only[Rr.ws,Dj,Dm] at sp ce
  simp! only[aa,sp,tx0,tx1,tx2,hds,eq_self,decide_true,eD,ce]
 |table z e xs=>
  obtain⟨g1,g2,g3,g4⟩:=g
  generalize (Rr.table z e xs).tx=T at *
  simp only[Rr.ws,Dj] at sp
  have cu:ID (W.str "table"::W.str z::xs.map W.str) (some 2) none=xs.map W.str:=by
   unfold ID
   show List.take _ (xs.map W.str)=_
   rw[ED]
   show _<=(xs.map W.str).length+1+1 - 2
   omega
  have l0:0<xs.length:=E8.mpr g2
  have gl: ∀ {α:Type} (q:M α),gd ((xs.map W.str).length<=sizeLine) q=q:=fun q=>ai (by rw[Dh];exact sz (by omega))
  have c1:decide ((3:Int)<=(((xs.map W.str).length+1+1:Nat):Int))=true:=decide_eq_true (by rw[Dh];omega)
  have c2:decide ((((xs.map W.str).length+1+1:Nat):Int)<=2+6)=true:=decide_eq_true (by rw[Dh];omega)
  have nc: ∀ρ,_:=fun ρ=>rf (ρ:=ρ) g4
  simp! only[aa,sp,tx0,tx1,hds,eq_self,decide_true,c1,c2,i7 g1,cu,ar,dU,gl,nc,ml]
  rfl
 |stop=>
  generalize Rr.stop.tx=T at *
  simp! only[aa,sp,Rr.ws,Dj,Dm,tx0,hds,eq_self,decide_true,eD]
  rfl
end
section
open Wd
noncomputable def IZ:List Str:=["boxes", "block_names", "ended_blocks", "statements"]
theorem fne:(((("block_names":Str)= "boxes")=False)/\((("ended_blocks":Str)= "boxes")=False)/\((("statements":Str)= "boxes")=False)/\((("ended_blocks":Str)= "block_names")=False)/\((("statements":Str)= "block_names")=False)/\((("statements":Str)= "ended_blocks")=False))/\(((("boxes":Str)= "statements")=False)/\((("block_names":Str)= "statements")=False)/\((("ended_blocks":Str)= "statements")=False))/\((("boxes":Str)= "block_names")=False)/\((("boxes":Str)= "ended_blocks")=False)/\((("block_names":Str)= "ended_blocks")=False):=
 ⟨⟨eq_false (by decide+kernel),eq_false (by decide+kernel),eq_false (by decide+kernel),eq_false (by decide+kernel),eq_false (by decide+kernel),eq_false (by decide+kernel)⟩,⟨eq_false (by decide+kernel),eq_false (by decide+kernel),eq_false (by decide+kernel)⟩,eq_false (by decide+kernel),eq_false (by decide+kernel),eq_false (by decide+kernel)⟩
theorem Ba (a b c d:W):Ko IZ [a,b,c,d] "boxes"=some a:=by simp only[IZ,Ko,if_true]
theorem tZ (a b c d:W):Ko IZ [a,b,c,d] "block_names"=some b:=by simp only[IZ,Ko,fne,if_true,if_false]
theorem Cp (a b c d:W):Ko IZ [a,b,c,d] "ended_blocks"=some c:=by simp only[IZ,Ko,fne,if_true,if_false]
theorem A9 (a b c d:W):Ko IZ [a,b,c,d] "statements"=some d:=by simp only[IZ,Ko,fne,if_true,if_false]
theorem C6 (a b c d y:W):LC IZ [a,b,c,d] "statements" y=(IZ,[a,b,c,y]):=by simp only[IZ,LC,fne,if_true,if_false]
theorem KR:("in_block":Str) ∉ IZ/\("box_names":Str) ∉ IZ/\("check_place":Str) ∉ IZ/\("check_twice":Str) ∉ IZ/\("check_room":Str) ∉ IZ/\("check_boxes":Str) ∉ IZ/\("put_down":Str) ∉ IZ/\("take":Str) ∉ IZ/\("told_program":Str) ∉ IZ:=by decide+kernel
structure RS where
 bx:List (Str×Int)
 nm:List Str
 dn:List (Str×List W×Rr)
 st:List W
noncomputable def bqW (b:Str×Int):W:=.tup [.str b.1,.int b.2]
def dnW (b:Str×List W×Rr):W:=.tup [.str b.1,.tl b.2.1,b.2.2.form]
structure Ic (h:List Ob)(o jb jn je js:Nat)(s:RS):Prop where
 ob:h[o]?=some (.ins "Reading" IZ [.loc jb,.loc jn,.loc je,.loc js])
 b:h[jb]?=some (.lst (s.bx.map bqW))
 n:h[jn]?=some (.lst (s.nm.map W.str))
 e:h[je]?=some (.lst (s.dn.map dnW))
 st:s.dn.length<s.nm.length->h[js]?=some (.lst s.st)
 ne:o<jb/\jb<jn/\jn<je/\je<js
 z:s.bx.length<=4/\s.nm.length<=10/\s.dn.length<=s.nm.length/\s.st.length<=8/\s.nm.length<=s.dn.length+1
section
variable {h:List Ob}{o jb jn je js:Nat}{s:RS}
theorem pW (A:Ic h o jb jn je js s):Ok (bj [.loc o]) h fun w h'=>w=.bl (decide (s.dn.length<s.nm.length))/\h'=h:=by
 have e0:bj [.loc o]=bd (cy [some (.loc o)]) IV:=rfl
 rw[e0]
 unfold cy
 simp!
 refine dA A.ob (tZ ..) ?_
 simp!
 refine (Lw.len (.inr ⟨jn,rfl,A.n⟩)) ?_
 simp!
 refine dA A.ob (Cp ..) ?_
 simp!
 refine (Lw.len (.inr ⟨je,rfl,A.e⟩)) ?_
 simp!
 refine ao ⟨?_,rfl⟩
 rw[Dh,Dh]
 congr 1
 rw[decide_eq_decide]
 omega
theorem mZ (A:Ic h o jb jn je js s):Ok (bJ [.loc o]) h fun w h'=>w=.tl ((s.bx.map (·.1)).map W.str)/\h'=h:=by
 have e0:bJ [.loc o]=bd (b8 [some (.loc o)]) IV:=rfl
 rw[e0]
 unfold b8
 simp!
 refine dA A.ob (Ba ..) ?_
 refine Aw A.b ?_
 have gl: ∀ {α:Type} (q:M α),gd ((s.bx.map bqW).length<=sizeLine) q=q:=fun q=>ai (by rw[Dh];exact sz (by have:=A.z.1;omega))
 simp! only[aa,gl]
 refine fm (I:=fun i a h'=>h'=h/\a=((s.bx.take i).map (·.1)).map W.str) ⟨rfl,rfl⟩ gg (fun _ _ _ I=>by rw[I.1];exact A.b) (fun i w a h' hw I=>?_) fun a h' I=>?_
 ·obtain⟨rfl,rfl⟩:=I
  rw[DA] at hw
  obtain⟨b,hb,rfl⟩:=DX.mp hw
  refine⟨_,rfl,?_⟩
  simp! only[List.replicate,DY,DU,aa]
  refine ao ⟨rfl,?_⟩
  rw[Ee,hb,Dr,Dr];rfl
 ·obtain⟨rfl,rfl⟩:=I
  rw[Dh,Ed]
  simp!
  exact ao ⟨rfl,rfl⟩
theorem zX (A:Ic h o jb jn je js s)(p:s.nm=[]):Ok (aw [.loc o,.str "box"]) h fun _ h'=>h'=h:=by
 have e0:aw [.loc o,.str "box"]=bd (aB [some (.loc o),some (.str "box")]) IV:=rfl
 rw[e0]
 unfold aB
 simp!
 refine dA A.ob (tZ ..) ?_
 simp!
 refine (Lw.len (.inr ⟨jn,rfl,A.n⟩)) ?_
 have:decide ((0:Int)<(((s.nm.map W.str).length:Nat):Int))=false:=by rw[p];rfl
 simp! only[aa,this]
 exact ao rfl
theorem uZ (A:Ic h o jb jn je js s)(p:s.dn.length=s.nm.length):Ok (aw [.loc o,.str "block"]) h fun _ h'=>h'=h:=by
 have e0:aw [.loc o,.str "block"]=bd (aB [some (.loc o),some (.str "block")]) IV:=rfl
 rw[e0]
 unfold aB
 simp! only[aa,hds]
 refine eV A.ob KR.1 ?_
 simp!
 refine bP (pW A) fun w h' qq_=>?_
 obtain⟨ew,eh⟩:=qq_
 subst ew eh
 simp! only[aa,decide_eq_false (show¬s.dn.length<s.nm.length by omega)]
 exact ao rfl
theorem BM {z:Str}(A:Ic h o jb jn je js s)(n1:decide (z= "box")=false)(n2:decide (z= "block")=false)(p:s.dn.length<s.nm.length):Ok (aw [.loc o,.str z]) h fun _ h'=>h'=h:=by
 have e0:aw [.loc o,.str z]=bd (aB [some (.loc o),some (.str z)]) IV:=rfl
 rw[e0]
 unfold aB
 simp! only[aa,n1,n2]
 refine eV A.ob KR.1 ?_
 simp!
 refine bP (pW A) fun w h' qq_=>?_
 obtain⟨ew,eh⟩:=qq_
 subst ew eh
 simp! only[aa,decide_eq_true p]
 exact ao rfl
theorem zu {nm:Str}{w:W}(A:Ic h o jb jn je js s)(p:nm ∉ s.bx.map (·.1)):Ok (av [.loc o,.tup [.str "box",.str nm,w]]) h fun _ h'=>h'=h:=by
 have e0:av [.loc o,.tup [.str "box",.str nm,w]]=bd (aA [some (.loc o),some (.tup [.str "box",.str nm,w])]) IV:=rfl
 rw[e0]
 unfold aA
 simp! only[aa,ix0,ix1]
 refine eV A.ob KR.2.1 ?_
 simp!
 refine bP (mZ A) fun w h' qq_=>?_
 obtain⟨ew,eh⟩:=qq_
 subst ew eh
 simp! only[aa,j5,decide_eq_false p,hds]
 exact ao rfl
theorem uy {nm:Str}(A:Ic h o jb jn je js s)(p:nm ∉ s.nm):Ok (av [.loc o,.tup [.str "block",.str nm]]) h fun _ h'=>h'=h:=by
 have e0:av [.loc o,.tup [.str "block",.str nm]]=bd (aA [some (.loc o),some (.tup [.str "block",.str nm])]) IV:=rfl
 rw[e0]
 unfold aA
 simp! only[aa,ix0,ix1,hds]
 refine dA A.ob (tZ ..) ?_
 simp!
 refine y9 A.n ?_
 simp! only[aa,decide_eq_false p]
 exact ao rfl
theorem BE {z:Str}{l:List W}(n1:decide (z= "box")=false)(n2:decide (z= "block")=false):Ok (av [.loc o,.tup (.str z::l)]) h fun _ h'=>h'=h:=by
 have e0:av [.loc o,.tup (.str z::l)]=bd (aA [some (.loc o),some (.tup (.str z::l))]) IV:=rfl
 rw[e0]
 unfold aA
 simp! only[aa,ix0,n1,n2]
 exact ao rfl
theorem MK:decide (("box":Str)∈(["put", "say", "ask"]:List Str))=false/\decide (("block":Str)∈(["put", "say", "ask"]:List Str))=false:=by decide+kernel
theorem zP (A:Ic h o jb jn je js s)(p:s.bx.length<4):Ok (ay [.loc o,.str "box"]) h fun _ h'=>h'=h:=by
 have e0:ay [.loc o,.str "box"]=bd (aD [some (.loc o),some (.str "box")]) IV:=rfl
 rw[e0]
 unfold aD
 simp!
 refine dA A.ob (Ba ..) ?_
 simp!
 refine (Lw.len (.inr ⟨jb,rfl,A.b⟩)) ?_
 have:decide ((((s.bx.map bqW).length:Nat):Int)=4)=false:=decide_eq_false (by rw[Dh];omega)
 simp! only[aa,this,hds,jB,MK.1]
 exact ao rfl
theorem uS (A:Ic h o jb jn je js s)(p:s.nm.length<10):Ok (ay [.loc o,.str "block"]) h fun _ h'=>h'=h:=by
 have e0:ay [.loc o,.str "block"]=bd (aD [some (.loc o),some (.str "block")]) IV:=rfl
 rw[e0]
 unfold aD
 simp! only[aa,hds]
 refine dA A.ob (tZ ..) ?_
 simp!
 refine (Lw.len (.inr ⟨jn,rfl,A.n⟩)) ?_
 have:decide ((((s.nm.map W.str).length:Nat):Int)=10)=false:=decide_eq_false (by rw[Dh];omega)
 simp! only[aa,this,hds,jB,MK.2]
 exact ao rfl
theorem BL {z:Str}(A:Ic h o jb jn je js s)(n1:decide (z= "box")=false)(n2:decide (z= "block")=false)(p:s.dn.length<s.nm.length)(q:z∈(["put", "say", "ask"]:List Str)->s.st.length<8):Ok (ay [.loc o,.str z]) h fun _ h'=>h'=h:=by
 have e0:ay [.loc o,.str z]=bd (aD [some (.loc o),some (.str z)]) IV:=rfl
 rw[e0]
 unfold aD
 by_cases c:z∈(["put", "say", "ask"]:List Str)
 ·simp! only[aa,n1,n2,jB,decide_eq_true c]
  refine dA A.ob (A9 ..) ?_
  simp!
  refine (Lw.len (.inr ⟨js,rfl,A.st p⟩)) ?_
  have q:=q c
  have:decide (((s.st.length:Nat):Int)=8)=false:=decide_eq_false (by omega)
  simp! only[aa,this]
  exact ao rfl
 ·simp! only[aa,n1,n2,jB,decide_eq_false c]
  exact ao rfl
def Rr.bxs:Rr->List Str
 |.put nm _ e=>nm::IP e
 |.say _ e=>IP e
 |.ask nm=>[nm]
 |.iff _ _ e1 _ e2 _ _=>IP e1++IP e2
 |.table _ e _=>IP e
 |_=>[]
theorem iX {z:Str}{e:Exp}(h:Wrd z e):aV 62 [IS e]=pr (.tl ((IP e).map W.str)):=kO 62 e (by have:=h.dp;omega) (by have:=h.nm;omega) h.ok
theorem vL {r:Rr}(g:r.Ok):aQ [r.form]=pr (.tl (r.bxs.map W.str)):=by
 cases r with
 |box nm v=>
  have e0:aQ [(Rr.box nm v).form]=bd (am [some (.tup [.str "box",.str nm,.int (cL v)])]) IV:=rfl
  rw[e0];unfold am
  simp! only[aa,ix0,hds]
  rfl
 |block nm=>
  have e0:aQ [(Rr.block nm).form]=bd (am [some (.tup [.str "block",.str nm])]) IV:=rfl
  rw[e0];unfold am
  simp! only[aa,ix0,hds]
  rfl
 |put nm z e=>
  have e0:aQ [(Rr.put nm z e).form]=bd (am [some (.tup [.str "put",.str nm,IS e])]) IV:=rfl
  rw[e0];unfold am
  have gl: ∀ {α:Type} (q:M α),gd (0+1+((IP e).map W.str).length<=sizeLine) q=q:=fun q=>ai (by rw[Dh];exact sz (by have:=g.2.nm;omega))
  simp! only[aa,ix0,ix1,ix2,hds,iX g.2,Iw,ot,gl]
  rfl
 |say z e=>
  have e0:aQ [(Rr.say z e).form]=bd (am [some (.tup [.str "say",IS e])]) IV:=rfl
  rw[e0];unfold am
  simp! only[aa,ix0,ix1,hds,iX g]
  rfl
 |ask nm=>
  have e0:aQ [(Rr.ask nm).form]=bd (am [some (.tup [.str "ask",.str nm])]) IV:=rfl
  rw[e0];unfold am
  simp! only[aa,ix0,ix1,hds]
  rfl
 |go nm=>
  have e0:aQ [(Rr.go nm).form]=bd (am [some (.tup [.str "go",.str nm])]) IV:=rfl
  rw[e0];unfold am
  simp! only[aa,ix0,ix1,hds]
  rfl
 |iff s z1 e1 z2 e2 x y=>
  have e0:aQ [(Rr.iff s z1 e1 z2 e2 x y).form]=bd (am [some (.tup [.str "if",.str s,IS e1,IS e2,.str x,.str y])]) IV:=rfl
  rw[e0];unfold am
  have ad:=kb ((IP e1).map W.str) ((IP e2).map W.str) (by rw[Dh,Dh];exact sz (by have:=g.2.1.nm;have:=g.2.2.1.nm;omega))
  simp! only[aa,ix0,ix2,ix3,hds,iX g.2.1,iX g.2.2.1,ad]
  show pr _=pr (W.tl ((IP e1++IP e2).map W.str))
  rw[Dr]
 |table z e xs=>
  have e0:aQ [(Rr.table z e xs).form]=bd (am [some (.tup [.str "table",IS e,.tup (xs.map W.str)])]) IV:=rfl
  rw[e0];unfold am
  simp! only[aa,ix0,ix1,hds,iX g.1]
  rfl
 |stop=>
  have e0:aQ [(Rr.stop).form]=bd (am [some (.tup [.str "stop"])]) IV:=rfl
  rw[e0];unfold am
  simp! only[aa,ix0,hds]
  rfl
theorem wK {r:Rr}(g:r.Ok)(A:Ic h o jb jn je js s)(p:∀x∈r.bxs,x∈s.bx.map (·.1)):Ok (bf [.loc o,r.form]) h fun _ h'=>h'=h:=by
 have e0:bf [.loc o,r.form]=bd (bU [some (.loc o),some r.form,none,none]) IV:=rfl
 rw[e0]
 unfold bU
 have ne:=vL g
 generalize r.form=F at *
 simp!
 refine eV A.ob KR.2.1 ?_
 simp!
 refine bP (mZ A) fun w h' qq_=>?_
 obtain⟨ew,eh⟩:=qq_
 subst ew eh
 simp! only[aa,ne,dU]
 refine kJ (I:=fun i ρ h1=>h1=h'/\ ∃a,ρ=[some (.loc o),some F,some (.tl ((s.bx.map (·.1)).map W.str)),a]) ⟨rfl,_,rfl⟩ (fun _ _ _ _=>trivial) (fun i w ρ h1 hw I=>?_) fun ρ h1 I=>?_
 ·obtain⟨rfl,a,rfl⟩:=I
  rw[DA] at hw
  obtain⟨x,hx,rfl⟩:=DX.mp hw
  refine⟨_,rfl,?_⟩
  simp! only[aa,kM,decide_eq_true (p x (Ea hx))]
  exact ao ⟨_,rfl,rfl,_,rfl⟩
 ·obtain⟨rfl,a,rfl⟩:=I
  simp!
  exact ao rfl
end
end
section
open Wd
def Rr.stm:Rr->Bool
 |.put _ _ _=>true
 |.say _ _=>true
 |.ask _=>true
 |_=>false
noncomputable def Rr.end':Rr->Bool
 |.go _=>true
 |.iff _ _ _ _ _ _ _=>true
 |.table _ _ _=>true
 |.stop=>true
 |_=>false
def RS.step (s:RS)(r:Rr):RS:=match r with
 |.box nm v=>{s with bx:=s.bx++[(nm,cL v)]}
 |.block nm=>{s with nm:=s.nm++[nm],st:=[]}
 |.put nm z e=>{s with st:=s.st++[(Rr.put nm z e).form]}
 |.say z e=>{s with st:=s.st++[(Rr.say z e).form]}
 |.ask nm=>{s with st:=s.st++[(Rr.ask nm).form]}
 |r=>{s with dn:=s.dn++[(s.nm.getLastD "",s.st,r)]}
theorem o6 {s:RS}{r:Rr}(h:r.stm=true):s.step r={s with st:=s.st++[r.form]}:=by
 cases r<;>first|rfl|cases h
theorem o7 {s:RS}{r:Rr}(h:r.end'=true):s.step r={s with dn:=s.dn++[(s.nm.getLastD "",s.st,r)]}:=by
 cases r<;>first|rfl|cases h
structure Ib (s:RS)(r:Rr):Prop where
 i:s.dn.length<s.nm.length
 c:r.stm=true->s.st.length<8
 b: ∀x∈r.bxs,x∈s.bx.map (·.1)
noncomputable def Pre (s:RS)(r:Rr):Prop:=match r with
 |.box nm _=>s.nm=[]/\nm ∉ s.bx.map (·.1)/\s.bx.length<4
 |.block nm=>s.dn.length=s.nm.length/\nm ∉ s.nm/\s.nm.length<10
 |r=>Ib s r
theorem zW {s:RS}{r:Rr}(p:Pre s r)(h:r.stm=true\/r.end'=true):Ib s r:=by
 cases r<;>first|exact p|(rcases h with h|h<;>cases h)
structure Fo (o:Nat)(h h':List Ob):Prop where
 eq: ∀i,i<o->h'[i]?=h[i]?
 le:h.length<=h'.length
theorem Fo.refl (o:Nat)(h:List Ob):Fo o h h:=⟨fun _ _=>rfl,Dl _⟩
theorem Fo.trans {o:Nat}{a b c:List Ob}(x:Fo o a b)(y:Fo o b c):Fo o a c:=⟨fun i hi=>(y.eq i hi).trans (x.eq i hi),Dy x.le y.le⟩
theorem Fo.set {o j:Nat}{h:List Ob}{b:Ob}(hj:o<=j):Fo o h (h.set j b):=⟨fun i hi=>by rw[Do (by omega)],by rw[DN];exact Dl _⟩
def Rr.hd:Rr->Str
 |.box _ _=> "box"
 |.block _=> "block"
 |.put _ _ _=> "put"
 |.say _ _=> "say"
 |.ask _=> "ask"
 |.go _=> "go"
 |.iff _ _ _ _ _ _ _=> "if"
 |.table _ _ _=> "table"
 |.stop=> "stop"
theorem j7 (r:Rr): ∃l,r.form=.tup (.str r.hd::l):=by cases r<;>exact⟨_,rfl⟩
theorem wj {r:Rr}(h:r.stm=true\/r.end'=true):decide (r.hd= "box")=false/\decide (r.hd= "block")=false:=by
 cases r<;>first|(rcases h with h|h<;>cases h;done)|(unfold Rr.hd;simp only[hds];exact⟨trivial,trivial⟩)|(unfold Rr.hd;simp only[hds,and_self])
theorem MN:("put":Str)∈(["put", "say", "ask"]:List Str)/\("say":Str)∈(["put", "say", "ask"]:List Str)/\("ask":Str)∈(["put", "say", "ask"]:List Str):=by decide+kernel
theorem IK:("go":Str) ∉ (["put", "say", "ask"]:List Str)/\("if":Str) ∉ (["put", "say", "ask"]:List Str)/\("table":Str) ∉ (["put", "say", "ask"]:List Str)/\("stop":Str) ∉ (["put", "say", "ask"]:List Str):=by decide+kernel
theorem Bj {r:Rr}(h:r.stm=true):r.hd∈(["put", "say", "ask"]:List Str):=by
 cases r<;>first|exact absurd h Ds|exact MN.1|exact MN.2.1|exact MN.2.2
theorem wm {r:Rr}(h:r.end'=true):r.hd ∉ (["put", "say", "ask"]:List Str):=by
 cases r<;>first|exact absurd h Ds|exact IK.1|exact IK.2.1|exact IK.2.2.1|exact IK.2.2.2
section
variable {h:List Ob}{o jb jn je js:Nat}{s:RS}
theorem Ae {nm v:Str}(A:Ic h o jb jn je js s)(p:Pre s (.box nm v)):Ok (au [.loc o,(Rr.box nm v).form]) h fun _ h'=>Ic h' o jb jn je js (s.step (.box nm v))/\Fo o h h':=by
 have e0:au [.loc o,(Rr.box nm v).form]=bd (az [some (.loc o),some (.tup [.str "box",.str nm,.int (cL v)])]) IV:=rfl
 rw[e0]
 unfold az
 obtain⟨n1,n2,n3,n4⟩:=A.ne
 have p:s.nm=[]/\nm ∉ s.bx.map (·.1)/\s.bx.length<4:=p
 simp! only[aa,ix0]
 refine dA A.ob (Ba ..) ?_
 refine dz A.b ?_
 simp! only[aa,ix1,ix2]
 refine dB A.b (by rw[Dh];exact Ec (show _<=10 by omega) (by decide)) ?_
 simp!
 refine ao ⟨⟨?_,?_,?_,?_,?_,A.ne,?_⟩,Fo.set (by omega)⟩
 ·rw[Do (by omega)];exact A.ob
 ·rw[cn A.b];show _=some (Ob.lst ((s.bx++[(nm,cL v)]).map bqW));rw[Dr];rfl
 ·rw[Do (by omega)];exact A.n
 ·rw[Do (by omega)];exact A.e
 ·intro q;rw[Do (by omega)];exact A.st q
 ·obtain⟨z1,z2,z3,z4,z5⟩:=A.z
  refine⟨?_,z2,z3,z4,z5⟩
  show (s.bx++[_]).length<=4
  rw[Dk,DP];omega
theorem vm {nm:Str}(A:Ic h o jb jn je js s)(p:Pre s (.block nm)):Ok (au [.loc o,(Rr.block nm).form]) h fun _ h'=>(∃js',Ic h' o jb jn je js' (s.step (.block nm)))/\Fo o h h':=by
 have e0:au [.loc o,(Rr.block nm).form]=bd (az [some (.loc o),some (.tup [.str "block",.str nm])]) IV:=rfl
 rw[e0]
 unfold az
 obtain⟨n1,n2,n3,n4⟩:=A.ne
 have p:s.dn.length=s.nm.length/\nm ∉ s.nm/\s.nm.length<10:=p
 simp! only[aa,ix0,hds]
 refine dA A.ob (tZ ..) ?_
 refine dz A.n ?_
 simp! only[aa,ix1]
 refine dB A.n (by rw[Dh];exact Ec (show _<=10 by omega) (by decide)) ?_
 simp!
 refine cE ?_
 simp!
 have le:=eJ A.e
 have lo:=eJ A.ob
 have ln:=eJ A.n
 have eo:(h.set jn (.lst (s.nm.map W.str++[.str nm]))++[.lst []])[o]?=some (.ins "Reading" IZ [.loc jb,.loc jn,.loc je,.loc js]):=by
  rw[DS (by rw[DN];exact lo),Do (by omega)];exact A.ob
 refine vD eo (by show 4<1000;decide) (C6 ..) ?_
 simp!
 have hl:(h.set jn (.lst (s.nm.map W.str++[.str nm]))).length=h.length:=DN ..
 refine ao ⟨⟨h.length,⟨?_,?_,?_,?_,?_,?_,?_⟩⟩,⟨fun i hi=>?_,?_⟩⟩
 ·rw[cn eo,hl]
 ·rw[Do (by omega),DS (by rw[hl];exact eJ A.b),Do (by omega)];exact A.b
 ·rw[Do (by omega),DS (by rw[hl];exact ln),cn A.n];show _=some (Ob.lst ((s.nm++[nm]).map W.str));rw[Dr];rfl
 ·rw[Do (by omega),DS (by rw[hl];exact le),Do (by omega)];exact A.e
 ·intro _
  rw[Do (by omega)]
  have:=cH (h:=h.set jn (.lst (s.nm.map W.str++[.str nm]))) (a:=.lst [])
  rw[hl] at this
  exact this
 ·exact⟨n1,n2,n3,le⟩
 ·obtain⟨z1,z2,z3,z4,z5⟩:=A.z
  refine⟨z1,?_,?_,DB _,?_⟩
  ·show (s.nm++[nm]).length<=10
   rw[Dk,DP];omega
  ·show s.dn.length<=(s.nm++[nm]).length
   rw[Dk,DP];omega
  ·show (s.nm++[nm]).length<=s.dn.length+1
   rw[Dk,DP];omega
 ·rw[Do (by omega),DS (by rw[hl];omega),Do (by omega)]
 ·rw[DN,Dk,hl];omega
theorem Ac {r:Rr}(q:r.stm=true)(A:Ic h o jb jn je js s)(p:Ib s r):Ok (au [.loc o,r.form]) h fun _ h'=>Ic h' o jb jn je js (s.step r)/\Fo o h h':=by
 rw[o6 q]
 have nh:=wj (r:=r) (.inl q)
 have st:=Bj q
 obtain⟨l,e⟩:=j7 r
 rw[e]
 have e0:au [.loc o,.tup (.str r.hd::l)]=bd (az [some (.loc o),some (.tup (.str r.hd::l))]) IV:=rfl
 rw[e0]
 unfold az
 obtain⟨n1,n2,n3,n4⟩:=A.ne
 have pr':=p.c q
 simp! only[aa,ix0,nh.1,nh.2,jB,decide_eq_true st]
 refine dA A.ob (A9 ..) ?_
 refine dz (A.st p.i) ?_
 simp!
 refine dB (A.st p.i) (Ec (show _<=10 by omega) (by decide)) ?_
 simp!
 refine ao ⟨⟨?_,?_,?_,?_,?_,A.ne,?_⟩,Fo.set (by omega)⟩
 ·rw[Do (by omega)];exact A.ob
 ·rw[Do (by omega)];exact A.b
 ·rw[Do (by omega)];exact A.n
 ·rw[Do (by omega)];exact A.e
 ·intro _;rw[cn (A.st p.i)]
 ·obtain⟨z1,z2,z3,z4,z5⟩:=A.z
  refine⟨z1,z2,z3,?_,z5⟩
  show (s.st++[_]).length<=8
  rw[Dk,DP];omega
theorem rp {l:List Str}(h:l≠ []):atI (l.map W.str) (-1)=some (.str (l.getLastD "")):=by
 have e:l=l.dropLast++[l.getLast h]:=(List.dropLast_concat_getLast h).symm
 have g:l.getLastD ""=l.getLast h:=by
  cases l with
  |nil=>exact absurd rfl h
  |cons a l=>rw[List.getLastD_cons,List.getLast_eq_getLastD]
 rw[g]
 conv=>lhs;rw[e,Dr]
 exact wV _ _
theorem Ad {r:Rr}(q:r.end'=true)(A:Ic h o jb jn je js s)(p:Ib s r):Ok (au [.loc o,r.form]) h fun _ h'=>Ic h' o jb jn je js (s.step r)/\Fo o h h':=by
 rw[o7 q]
 have nh:=wj (r:=r) (.inr q)
 have st:=wm q
 obtain⟨l,e⟩:=j7 r
 have ie: ∀x,W.tup [.str x,.tl s.st,.tup (.str r.hd::l)]=dnW (x,s.st,r):=fun x=>by unfold dnW;rw[<-e]
 rw[e]
 have e0:au [.loc o,.tup (.str r.hd::l)]=bd (az [some (.loc o),some (.tup (.str r.hd::l))]) IV:=rfl
 rw[e0]
 unfold az
 obtain⟨n1,n2,n3,n4⟩:=A.ne
 obtain⟨z1,z2,z3,z4,z5⟩:=A.z
 have pi:=p.i
 have nn:s.nm≠ []:=fun z=>by rw[z] at pi;simp at pi
 simp! only[aa,ix0,nh.1,nh.2,jB,decide_eq_false st]
 refine dA A.ob (Cp ..) ?_
 refine dz A.e ?_
 simp!
 refine dA A.ob (tZ ..) ?_
 simp!
 refine iG A.n (rp nn) ?_
 simp!
 refine dA A.ob (A9 ..) ?_
 refine oa (A.st pi) ?_
 have e2:(h.set js .gone)[je]?=some (.lst (s.dn.map dnW)):=by rw[Do (by omega)];exact A.e
 simp!
 refine dB e2 (by rw[Dh];exact Ec (show _<=10 by omega) (by decide)) ?_
 simp!
 refine ao ⟨⟨?_,?_,?_,?_,?_,A.ne,?_⟩,(Fo.set (by omega)).trans (Fo.set (by omega))⟩
 ·rw[Do (by omega),Do (by omega)];exact A.ob
 ·rw[Do (by omega),Do (by omega)];exact A.b
 ·rw[Do (by omega),Do (by omega)];exact A.n
 ·rw[cn e2,ie];show _=some (Ob.lst ((s.dn++[_]).map dnW));rw[Dr];rfl
 ·intro q
  have q:(s.dn++[_]).length<s.nm.length:=q
  rw[Dk,DP] at q
  omega
 ·refine⟨z1,z2,?_,z4,?_⟩
  ·show (s.dn++[_]).length<=s.nm.length
   rw[Dk,DP];omega
  ·show s.nm.length<=(s.dn++[_]).length+1
   rw[Dk,DP];omega
theorem Ct (r:Rr):(∃nm v,r=.box nm v)\/(∃nm,r=.block nm)\/r.stm=true\/r.end'=true:=by
 cases r<;>first|exact .inl ⟨_,_,rfl⟩|exact .inr (.inl ⟨_,rfl⟩)|exact .inr (.inr (.inl rfl))|exact .inr (.inr (.inr rfl))
theorem xg {r:Rr}(g:r.Ok)(A:Ic h o jb jn je js s)(p:Pre s r):Ok (dH [.loc o,r.form]) h fun w h'=>w=.non/\(∃js',Ic h' o jb jn je js' (s.step r))/\Fo o h h':=by
 have e0:dH [.loc o,r.form]=bd (dF [some (.loc o),some r.form]) IV:=rfl
 rw[e0]
 unfold dF
 obtain⟨m1,m2,m3,m4,m5,m6,m7,m8,m9⟩:=KR
 have st:Ok (aw [.loc o,.str r.hd]) h (fun _ h'=>h'=h)/\Ok (av [.loc o,r.form]) h (fun _ h'=>h'=h)/\Ok (ay [.loc o,.str r.hd]) h (fun _ h'=>h'=h)/\Ok (bf [.loc o,r.form]) h (fun _ h'=>h'=h)/\Ok (au [.loc o,r.form]) h fun _ h'=>(∃js',Ic h' o jb jn je js' (s.step r))/\Fo o h h':=by
  rcases Ct r with⟨nm,v,rfl⟩|⟨nm,rfl⟩|q
  ·have p':s.nm=[]/\nm ∉ s.bx.map (·.1)/\s.bx.length<4:=p
   exact⟨zX A p'.1,zu A p'.2.1,zP A p'.2.2,wK g A (fun x hx=>absurd hx DO),(Ae A p).imp fun _ _ ⟨a,b⟩=>⟨⟨_,a⟩,b⟩⟩
  ·have p':s.dn.length=s.nm.length/\nm ∉ s.nm/\s.nm.length<10:=p
   exact⟨uZ A p'.1,uy A p'.2.1,uS A p'.2.2,wK g A (fun x hx=>absurd hx DO),vm A p⟩
  ·have pi:=zW p q
   have nh:=wj q
   obtain⟨l,e⟩:=j7 r
   refine⟨BM A nh.1 nh.2 pi.i,by rw[e];exact BE nh.1 nh.2,BL A nh.1 nh.2 pi.i fun hm=>?_,wK g A pi.b,?_⟩
   ·rcases q with q|q
    ·exact pi.c q
    ·exact absurd hm (wm q)
   ·rcases q with q|q
    ·exact (Ac q A pi).imp fun _ _ ⟨a,b⟩=>⟨⟨_,a⟩,b⟩
    ·exact (Ad q A pi).imp fun _ _ ⟨a,b⟩=>⟨⟨_,a⟩,b⟩
 obtain⟨s1,s2,s3,s4,s5⟩:=st
 have ih:ixW r.form (.int 0)=pr (.str r.hd):=by obtain⟨l,e⟩:=j7 r;rw[e];exact ix0 ..
 generalize r.form=F at *
 simp!
 refine eV A.ob m3 ?_
 simp! only[aa,ih]
 refine bP s1 fun _ h1 eh=>?_
 subst eh
 simp!
 refine eV A.ob m4 ?_
 simp!
 refine bP s2 fun _ h1 eh=>?_
 subst eh
 simp!
 refine eV A.ob m5 ?_
 simp! only[aa,ih]
 refine bP s3 fun _ h1 eh=>?_
 subst eh
 simp!
 refine eV A.ob m6 ?_
 simp!
 refine bP s4 fun _ h1 eh=>?_
 subst eh
 simp!
 refine eV A.ob m7 ?_
 simp!
 refine bP s5 fun _ h1 q=>?_
 simp!
 exact ao ⟨rfl,q⟩
end
end
section
open Wd
noncomputable def J6 (l:List Str)(x:Str):Nat:=(l.findIdx? (fun m=>decide (m=x))).getD 0
theorem ud {l:List Str}{x:Str}(h:x∈l):l.findIdx? (fun m=>decide (m=x))=some (J6 l x)/\J6 l x<l.length:=by
 unfold J6
 cases e:l.findIdx? (fun m=>decide (m=x)) with
 |none=>
  rw[List.findIdx?_eq_none_iff] at e
  have:=e x h
  simp at this
 |some i=>
  refine⟨rfl,?_⟩
  rw[FU] at e
  exact e.1
def Rr.en (l:List Str):Rr->E17
 |.go nm=>.go (J6 l nm:Nat)
 |.iff s _ e1 _ e2 x y=>.iff s (IS e1) (IS e2) (J6 l x:Nat) (J6 l y:Nat)
 |.table _ e xs=>.table (IS e) (xs.map fun x=>((J6 l x:Nat):Int))
 |_=>.stop
noncomputable def Rr.tos:Rr->List Str
 |.go nm=>[nm]
 |.iff _ _ _ _ _ x y=>[x,y]
 |.table _ _ xs=>xs
 |_=>[]
section
variable {h:List Ob}{jn:Nat}{ss:List Str}
theorem vE {β:Type}{Q:β->List Ob->Prop}{j:Nat}{x:Str}{ss:List Str}{k:W->M β}(e:h[j]?=some (.lst (ss.map W.str)))(q:Ok (k (.bl (!decide (x∈ss)))) h Q):Ok (bd (cM (.str x) (.loc j)) k) h Q:=by
 refine cF (a:=.bl (!decide (x∈ss))) (h':=h) ?_ q
 unfold cM
 have d:II (.loc j) h=none:=by unfold II;simp only[e]
 have lo:Kr (.loc j) h=.ok (ss.map W.str) h:=by unfold Kr;simp only[e]
 have e:inB (.str x) (.loc j) h=some (decide (x∈ss)):=by
  unfold inB
  simp only[d,lo,fU (g:=W.str) (k:=V.str) (fun a=>rfl) ss]
  show some (inV (.str x) (ss.map V.str))=_
  rw[i4]
 rw[e]
theorem ip {j:Nat}{l:List W}(e:h[j]?=some (.lst l)):Kp (.loc j) h=.ok l h:=by
 unfold Kp
 simp only[e]
end
def OkR:List Rr->RS->Prop
 |[],_=>True
 |r::rs,s=>(r.Ok/\Pre s r)/\OkR rs (s.step r)
def LL (rs:List Rr)(s:RS):RS:=rs.foldl RS.step s
theorem jY: ∀ {a b:List Rr}{s:RS},OkR a s->OkR b (LL a s)->OkR (a++b) s
 |[],_,_,_,h=>h
 |r::a,b,s,g,h=>⟨g.1,jY (a:=a) g.2 h⟩
theorem pp (a b:List Rr)(s:RS):LL (a++b) s=LL b (LL a s):=Fu ..
theorem jZ: ∀ {a:List Rr}{s:RS},OkR a s-> ∀r∈a,r.Ok
 |[],_,_,r,h=>absurd h DO
 |x::a,s,g,r,h=>by
  rcases Dp.mp h with rfl|h
  ·exact g.1.1
  ·exact jZ g.2 r h
noncomputable def RS.nil:RS:=⟨[],[],[],[]⟩
section
variable {β:Type}{h:List Ob}{Q:β->List Ob->Prop}
theorem ol {L:List Ob}{k:W->M β}{l:List W}{n:Nat}(hn:L.length=n)(q:Ok (k (.loc (h.length+n))) (h++(L++[.lst l])) Q):Ok (bd (KY l) k) (h++L) Q:=by
 refine cE ?_
 rw[Dk,DL,hn]
 exact q
theorem nR {L:List Ob}{c f:Str}{ns ns':List Str}{ws ws':List W}{y:W}{k:Unit->M β}(z:ns.length<1000)(e2:LC ns ws f y=(ns',ws'))(q:Ok (k ()) (h++.ins c ns' ws'::L) Q):Ok (bd (LA c f (.loc h.length) y) k) (h++.ins c ns ws::L) Q:=by
 refine vD (by rw[Ei (Dl _),EV];rfl) z e2 ?_
 rw[List.set_append_right _ _ (Dl _),EV]
 exact q
end
theorem yE (h:List Ob):Ok (cA [.loc h.length]) (h++[.ins "Reading" [] []]) fun w h'=>w=.non/\Ic h' h.length (h.length+1) (h.length+2) (h.length+3) (h.length+4) RS.nil/\Fo h.length h h':=by
 have e0:cA [.loc h.length]=bd (cz [some (.loc h.length)]) IV:=rfl
 rw[e0]
 unfold cz
 simp!
 refine ol (n:=1) rfl ?_
 simp! only[DY,DU,aa]
 refine nR (by show 0<1000;decide) (ns':=["boxes"]) (ws':=[.loc (h.length+1)]) rfl ?_
 simp!
 refine ol (n:=2) rfl ?_
 simp! only[DY,DU,aa]
 refine nR (by show 1<1000;decide) (ns':=["boxes", "block_names"]) (ws':=[.loc (h.length+1),.loc (h.length+2)]) (by simp only[LC,fne,if_false]) ?_
 simp!
 refine ol (n:=3) rfl ?_
 simp! only[DY,DU,aa]
 refine nR (by show 2<1000;decide) (ns':=["boxes", "block_names", "ended_blocks"]) (ws':=[.loc (h.length+1),.loc (h.length+2),.loc (h.length+3)]) (by simp only[LC,fne,if_false]) ?_
 simp!
 refine ol (n:=4) rfl ?_
 simp! only[DY,DU,aa]
 refine nR (by show 3<1000;decide) (ns':=IZ) (ws':=[.loc (h.length+1),.loc (h.length+2),.loc (h.length+3),.loc (h.length+4)]) (by simp only[IZ,LC,fne,if_false]) ?_
 simp!
 have at': ∀ (L:List Ob) (k:Nat),(h++L)[h.length+k]?=L[k]?:=fun L k=>by rw[Ei (by omega)];congr 1;omega
 refine ao ⟨rfl,⟨at' _ 0,at' _ 1,at' _ 2,at' _ 3,fun _=>at' _ 4,⟨by omega,by omega,by omega,by omega⟩,⟨DB _,DB _,Dl _,DB _,DB _⟩⟩,⟨fun i hi=>DS hi,by rw[Dk];omega⟩⟩
end
section
open Wd
def Xc {α:Type}(m:M α)(h:List Ob)(c:Str):Prop:= ∃h',m h=.ex c h'
section
variable {α β:Type}{m:M α}{k:α->M β}{h:List Ob}{c:Str}
theorem zn {P:α->List Ob->Prop}(p:Ok m h P)(q:∀a h',P a h'->Xc (k a) h' c):Xc (bd m k) h c:=by
 obtain⟨a,h',e,r⟩:=p
 obtain⟨h2,e2⟩:=q a h' r
 exact⟨h2,by unfold bd;rw[e];exact e2⟩
theorem dI (p:Xc m h c):Xc (bd m k) h c:=by
 obtain⟨h2,e2⟩:=p
 exact⟨h2,by unfold bd;rw[e2]⟩
theorem wT (m:M α):bd m pr=m:=by
 funext h
 unfold bd pr
 cases m h<;>rfl
theorem Cw {w:α}{h2:List Ob}(p:Ok (bd m pr) h fun a h'=>a=w/\h'=h2)(q:Xc (k w) h2 c):Xc (bd m k) h c:=by
 rw[wT] at p
 exact zn p fun a h' ⟨e1,e2⟩=>by subst e1 e2;exact q
theorem Cy {x:Str}{l:HU->M (List W)}{ρ:HU}{ws:List W}(e:l ρ=pr ws)(z:ws.length<=sizeLine):Xc (bY x l ρ) h x:=by
 refine⟨h,?_⟩
 unfold bY
 rw[e,aZ,ai z]
theorem eZ {x:Str}{l:HU->M (List W)}{ρ:HU}{k:Fl->M β}{ws:List W}(e:l ρ=pr ws)(z:ws.length<=sizeLine):Xc (bd (bY x l ρ) k) h x:=dI (Cy e z)
end
section
variable {h:List Ob}{o jb jn je js:Nat}{s:RS}
end
theorem ww {G:List Ob->Prop}{t:W->HU->Option HU}{g:HU->M Fl}{c:Str}(I:Nat->HU->List Ob->Prop)(l:List W)(j:Nat)(hj:j<l.length)(hG: ∀i ρ h,I i ρ h->G h)
  (hs: ∀i w ρ h,i<j->l[i]?=some w->I i ρ h-> ∃r,t w ρ=some r/\Ok (g r) h fun x h'=> ∃r',x=.nx r'/\I (i+1) r' h')
  (hx: ∀w ρ h,l[j]?=some w->I j ρ h-> ∃r,t w ρ=some r/\Xc (g r) h c):
  ∀ (m:List W) (n:Nat) (ρ:HU) (h:List Ob),l.drop n=m->n<=j->I n ρ h->Xc (L2.forM G t g m ρ) h c
 |[],n,ρ,h,e,hn,i=>by
  have:l.length<=n:=EH.mp e
  omega
 |w::m,n,ρ,h,e,hn,i=>by
  have hw:l[n]?=some w:=by
   have:=congrArg EI e
   rw[EJ,EK] at this
   exact this
  have em:l.drop (n+1)=m:=by rw[<-EL,e];rfl
  by_cases q:n=j
  ·subst q
   obtain⟨r,e1,h2,e2⟩:=hx w ρ h hw i
   refine⟨h2,?_⟩
   unfold L2.forM
   rw[cI (hG _ _ _ i),e1]
   dsimp only
   unfold bd
   rw[e2]
  ·obtain⟨r,e1,x,h',e2,r',rfl,i'⟩:=hs n w ρ h (by omega) hw i
   obtain⟨h2,e3⟩:=ww I l j hj hG hs hx m (n+1) r' h' em (by omega) i'
   refine⟨h2,?_⟩
   unfold L2.forM
   rw[cI (hG _ _ _ i),e1]
   dsimp only
   rw[cQ e2]
   exact e3
theorem Bl {β:Type}{G:List Ob->Prop}{t:W->HU->Option HU}{g:HU->M Fl}{l:List W}{ρ:HU}{h:List Ob}{k:Fl->M β}{c:Str}(I:Nat->HU->List Ob->Prop)(j:Nat)(hj:j<l.length)(h0:I 0 ρ h)(hG: ∀i ρ h,I i ρ h->G h)
  (hs: ∀i w ρ h,i<j->l[i]?=some w->I i ρ h-> ∃r,t w ρ=some r/\Ok (g r) h fun x h'=> ∃r',x=.nx r'/\I (i+1) r' h')
  (hx: ∀w ρ h,l[j]?=some w->I j ρ h-> ∃r,t w ρ=some r/\Xc (g r) h c):Xc (bd (L2.forM G t g l ρ) k) h c:=
 dI (ww I l j hj hG hs hx l 0 ρ h rfl (DB _) h0)
theorem sL {G:List Ob->Prop}{t:W->HU->Option HU}{f:HU->M Bool}{g:HU->M W}{b:Nat}{ρ:HU}{c:Str}(I:Nat->List W->List Ob->Prop)(l:List W)(j:Nat)(hj:j<l.length)(hf: ∀r,f r=pr true)(hG: ∀i a h,I i a h->G h)
  (hs: ∀i w a h,i<j->l[i]?=some w->I i a h-> ∃r,t w (List.replicate b none++ρ)=some r/\Ok (g r) h fun v h'=>I (i+1) (a++[v]) h')
  (hx: ∀w a h,l[j]?=some w->I j a h-> ∃r,t w (List.replicate b none++ρ)=some r/\Xc (g r) h c):
  ∀ (m:List W) (n:Nat) (a:List W) (h:List Ob),l.drop n=m->n<=j->I n a h->Xc (IB G t f g b m ρ) h c
 |[],n,a,h,e,hn,i=>by
  have:l.length<=n:=EH.mp e
  omega
 |w::m,n,a,h,e,hn,i=>by
  have hw:l[n]?=some w:=by
   have:=congrArg EI e
   rw[EJ,EK] at this
   exact this
  have em:l.drop (n+1)=m:=by rw[<-EL,e];rfl
  by_cases q:n=j
  ·subst q
   obtain⟨r,e1,h2,e2⟩:=hx w a h hw i
   refine⟨h2,?_⟩
   unfold IB
   rw[cI (hG _ _ _ i),e1]
   dsimp only
   rw[hf,bd_pr,if_pos rfl]
   unfold bd
   rw[e2]
  ·obtain⟨r,e1,v,h',e2,i'⟩:=hs n w a h (by omega) hw i
   obtain⟨h2,e3⟩:=sL I l j hj hf hG hs hx m (n+1) (a++[v]) h' em (by omega) i'
   refine⟨h2,?_⟩
   unfold IB
   rw[cI (hG _ _ _ i),e1]
   dsimp only
   rw[hf,bd_pr,if_pos rfl,cQ e2]
   unfold bd
   rw[e3]
theorem yJ {β:Type}{G:List Ob->Prop}{t:W->HU->Option HU}{f:HU->M Bool}{g:HU->M W}{b:Nat}{l:List W}{ρ:HU}{h:List Ob}{k:List W->M β}{c:Str}(I:Nat->List W->List Ob->Prop)(j:Nat)(hj:j<l.length)(h0:I 0 [] h)(hf: ∀r,f r=pr true)(hG: ∀i a h,I i a h->G h)
  (hs: ∀i w a h,i<j->l[i]?=some w->I i a h-> ∃r,t w (List.replicate b none++ρ)=some r/\Ok (g r) h fun v h'=>I (i+1) (a++[v]) h')
  (hx: ∀w a h,l[j]?=some w->I j a h-> ∃r,t w (List.replicate b none++ρ)=some r/\Xc (g r) h c):Xc (bd (IB G t f g b l ρ) k) h c:=
 dI (sL I l j hj hf hG hs hx l 0 [] h rfl (DB _) h0)
theorem mS {α:Type}(p:α->Bool): ∀ (l:List α),(∃x∈l,p x=false)-> ∃ (j:Nat) (x:α),l[j]?=some x/\p x=false/\ ∀i y,i<j->l[i]?=some y->p y=true
 |[],h=>by obtain⟨x,hx,_⟩:=h;cases hx
 |a::l,h=>by
  cases q:p a with
  |false=>exact⟨0,a,rfl,q,fun i y hi=>absurd hi (EZ _)⟩
  |true=>
   obtain⟨x,hx,e⟩:=h
   rcases Dp.mp hx with rfl|hx
   ·rw[q] at e;cases e
   ·obtain⟨j,y,e1,e2,e3⟩:=mS p l ⟨x,hx,e⟩
    refine⟨j+1,y,e1,e2,fun i z hi hz=>?_⟩
    cases i with
    |zero=>cases hz;exact q
    |succ i=>exact e3 i z (by omega) hz
section
variable {h:List Ob}{o jb jn je js:Nat}{s:RS}
end
end
section
open Wd
section
variable {h:List Ob}{o jb jn je js:Nat}{s:RS}{c:Str}
end
section
variable {h:List Ob}{jn:Nat}{ss:List Str}
end
end
section
open Wd
section
variable {h:List Ob}{z:Str}
theorem yz (l:z.length<=10000)(k:af z=false):fE [.str z]=pr (.bl false):=by
 show gd (z.length<=sizeLine) (pr (W.bl (af z)))=_
 rw[ai (sz (by omega)),k]
theorem yy (l:z.length<=10000)(k:K1 z=false):ir [.str z]=pr (.bl false):=by
 show gd (z.length<=sizeLine) (pr (W.bl (K1 z)))=_
 rw[ai (sz (by omega)),k]
theorem io (l:z.length<=10000)(k:af z=false):Xc (bh [.str z]) h "NoRow":=by
 have e0:bh [.str z]=bd (eP [some (.str z)]) IV:=rfl
 rw[e0]
 unfold eP
 simp! only[aa,yz l k]
 exact eZ rfl (by decide)
theorem vF (l:z.length<=10000)(k:K1 z=false):Xc (dg [.str z]) h "NoRow":=by
 have e0:dg [.str z]=bd (df [some (.str z)]) IV:=rfl
 rw[e0]
 unfold df
 simp! only[aa,yy l k]
 exact eZ rfl (by decide)
theorem lu (l:z.length<=10000)(k:IT z=none):Xc (fQ [.str z]) h "NoRow":=by
 refine⟨h,?_⟩
 show gd (z.length<=sizeLine) (match IT z with
  |some e=>pr (IS e)
  |none=>fun h=>.ex "NoRow" h) h=_
 rw[ai (sz (by omega)),k]
theorem jC {e:Exp}(l:z.length<=10000)(k:IT z=some e):fQ [.str z]=pr (IS e):=by
 show gd (z.length<=sizeLine) (match IT z with
  |some e=>pr (IS e)
  |none=>fun h=>.ex "NoRow" h)=_
 rw[ai (sz (by omega)),k]
end
def exB (z:Str):Bool:=(IT z).isSome
theorem qa {z:Str}(h:exB z=false):IT z=none:=by
 unfold exB at h
 cases e:IT z with
 |none=>rfl
 |some x=>rw[e] at h;cases h
theorem wF {z:Str}(h:exB z=true): ∃e,IT z=some e:=F7.mp h
def JM (z1 s z2 x w y:Str):Bool:=(decide (s∈(["<", "="]:List Str)) && decide (w= "else")) && (exB z1 && (exB z2 && (af x && af y)))
def Ja (hd:Str)(r:List Str):Bool:=
 if hd= "box" then (match r with
  |[a,b]=>af a && K1 b
  |_=>false)
 else if hd= "block" then (match r with
  |[a]=>af a
  |_=>false)
 else if hd= "put" then (match r with
  |[a,b]=>af a && exB b
  |_=>false)
 else if hd= "say" then (match r with
  |[a]=>exB a
  |_=>false)
 else if hd= "ask" then (match r with
  |[a]=>af a
  |_=>false)
 else if hd= "go" then (match r with
  |[a]=>af a
  |_=>false)
 else if hd= "if" then (match r with
  |[a,s,b,x,w,y]=>JM a s b x w y
  |_=>false)
 else if hd= "table" then (match r with
  |a::x::l=>decide (l.length<=5) && (exB a && (x::l).all af)
  |_=>false)
 else if hd= "stop" then r.isEmpty else false
theorem Br {h:List Ob}{hd z1 s z2 x w y:Str}(hl: ∀z∈[z1,s,z2,x,w,y],z.length<=10000)(k:JM z1 s z2 x w y=false):Xc (ci [.tl [.str hd,.str z1,.str s,.str z2,.str x,.str w,.str y]]) h "NoRow":=by
 have e0:ci [.tl [.str hd,.str z1,.str s,.str z2,.str x,.str w,.str y]]=bd (cc [some (.tl [.str hd,.str z1,.str s,.str z2,.str x,.str w,.str y]),none,none,none]) IV:=rfl
 rw[e0]
 unfold cc
 have n1:=hl z1 (by simp)
 have n2:=hl z2 (by simp)
 have n3:=hl x (by simp)
 have n4:=hl y (by simp)
 unfold JM at k
 cases c1:decide (s∈(["<", "="]:List Str)) with
 |false=>
  simp! only[aa,tx1,tx2,tx3,tx4,tx5,tx6,dM,c1]
  exact eZ rfl (by decide)
 |true=>
  cases c2:decide (w= "else") with
  |false=>
   simp! only[aa,tx1,tx2,tx3,tx4,tx5,tx6,dM,c1,c2]
   exact eZ rfl (by decide)
  |true=>
   rw[c1,c2] at k
   have k:(exB z1 && (exB z2 && (af x && af y)))=false:=k
   cases c3:exB z1 with
   |false=>
    simp! only[aa,tx1,tx2,tx3,tx4,tx5,tx6,dM,c1,c2]
    exact dI (lu n1 (qa c3))
   |true=>
    obtain⟨e1,h1⟩:=wF c3
    cases c4:exB z2 with
    |false=>
     simp! only[aa,tx1,tx2,tx3,tx4,tx5,tx6,dM,c1,c2,jC n1 h1]
     exact dI (lu n2 (qa c4))
    |true=>
     obtain⟨e2,h2⟩:=wF c4
     cases c5:af x with
     |false=>
      simp! only[aa,tx1,tx2,tx3,tx4,tx5,tx6,dM,c1,c2,jC n1 h1,jC n2 h2]
      exact dI (io n3 c5)
     |true=>
      have c6:af y=false:=by rw[c3,c4,c5] at k;exact k
      simp! only[aa,tx1,tx2,tx3,tx4,tx5,tx6,dM,c1,c2,jC n1 h1,jC n2 h2,bH c5]
      exact dI (io n4 c6)
theorem fq {r:List Str}{n:Nat}{m:Int}(hm:m=((n:Nat):Int))(h:r.length+1≠n):decide ((((r.map W.str).length+1:Nat):Int)=m)=false:=decide_eq_false (by rw[Dh];omega)
theorem sw {c:Nat}: ∀ {l:List Str}{z:Str},z∈l->z.length<=(Str.join ⟨#[c]⟩ l).length
 |[x],z,h=>by rw[DI.mp h];exact Dl _
 |x::y::l,z,h=>by
  have e:=congrArg List.length (b9 c x y l)
  rw[Dk,Di] at e
  have e:(Str.join ⟨#[c]⟩ (x::y::l)).length=x.length+((Str.join ⟨#[c]⟩ (y::l)).length+1):=e
  rcases Dp.mp h with rfl|h
  ·omega
  ·have:=sw (c:=c) h
   omega
theorem wt {h:List Ob}{hd:Str}{r:List Str}(fr: ∀z∈hd::r,32 ∉ z.cps.toList)(jl:(Str.join ⟨#[32]⟩ (hd::r)).length<=10000)(rl:r.length<=1000)(k:Ja hd r=false):Xc (di [.str (Str.join ⟨#[32]⟩ (hd::r))]) h "NoRow":=by
 have e0:di [.str (Str.join ⟨#[32]⟩ (hd::r))]=bd (eQ [some (.str (Str.join ⟨#[32]⟩ (hd::r))),none,none,none]) IV:=rfl
 rw[e0]
 unfold eQ
 have sp:ME (.str (Str.join ⟨#[32]⟩ (hd::r))) [.str " "]=pr (.tl (.str hd::r.map W.str)):=by
  rw[gR]
  exact kq (by simp) fr (sz (by omega)) (sz (by rw[Di];omega))
 have rz: ∀z∈r,z.length<=10000:=fun z hz=>Dy (sw (Dz _ hz)) jl
 generalize Str.join ⟨#[32]⟩ (hd::r)=T at *
 unfold Ja at k
 by_cases h1:hd= "box"
 ·subst h1
  rw[if_pos rfl] at k
  by_cases c:r.length+1=3
  ·obtain⟨a,b,rfl⟩: ∃a b,r=[a,b]:=by
    match r,c with
    |[a,b],_=>exact⟨a,b,rfl⟩
   have k:(af a && K1 b)=false:=k
   cases c1:af a with
   |false=>
    simp! only[aa,sp,Dj,Dm,tx0,tx1,tx2,eq_self,decide_true,eD]
    exact dI (io (rz a (by simp)) c1)
   |true=>
    have c2:K1 b=false:=by rw[c1] at k;exact k
    simp! only[aa,sp,Dj,Dm,tx0,tx1,tx2,eq_self,decide_true,eD,bH c1]
    exact dI (vF (rz b (by simp)) c2)
  ·simp! only[aa,sp,tx0,fq (n:=3) (m:=3) rfl c,hds]
   exact eZ rfl (by decide)
 rw[if_neg h1] at k
 have d1:=decide_eq_false h1
 by_cases h2:hd= "block"
 ·subst h2
  rw[if_pos rfl] at k
  by_cases c:r.length+1=2
  ·obtain⟨a,rfl⟩: ∃a,r=[a]:=by
    match r,c with
    |[a],_=>exact⟨a,rfl⟩
   have k:af a=false:=k
   simp! only[aa,sp,Dj,Dm,tx0,tx1,tx2,hds,eq_self,decide_true,eD]
   exact dI (io (rz a (by simp)) k)
  ·simp! only[aa,sp,tx0,fq (n:=2) (m:=2) rfl c,hds]
   exact eZ rfl (by decide)
 rw[if_neg h2] at k
 have d2:=decide_eq_false h2
 by_cases h3:hd= "put"
 ·subst h3
  rw[if_pos rfl] at k
  by_cases c:r.length+1=3
  ·obtain⟨a,b,rfl⟩: ∃a b,r=[a,b]:=by
    match r,c with
    |[a,b],_=>exact⟨a,b,rfl⟩
   have k:(af a && exB b)=false:=k
   cases c1:af a with
   |false=>
    simp! only[aa,sp,Dj,Dm,tx0,tx1,tx2,hds,eq_self,decide_true,eD]
    exact dI (io (rz a (by simp)) c1)
   |true=>
    have c2:exB b=false:=by rw[c1] at k;exact k
    simp! only[aa,sp,Dj,Dm,tx0,tx1,tx2,hds,eq_self,decide_true,eD,bH c1]
    exact dI (lu (rz b (by simp)) (qa c2))
  ·simp! only[aa,sp,tx0,fq (n:=3) (m:=3) rfl c,hds]
   exact eZ rfl (by decide)
 rw[if_neg h3] at k
 have d3:=decide_eq_false h3
 by_cases h4:hd= "say"
 ·subst h4
  rw[if_pos rfl] at k
  by_cases c:r.length+1=2
  ·obtain⟨a,rfl⟩: ∃a,r=[a]:=by
    match r,c with
    |[a],_=>exact⟨a,rfl⟩
   have k:exB a=false:=k
   simp! only[aa,sp,Dj,Dm,tx0,tx1,tx2,hds,eq_self,decide_true,eD]
   exact dI (lu (rz a (by simp)) (qa k))
  ·simp! only[aa,sp,tx0,fq (n:=2) (m:=2) rfl c,hds]
   exact eZ rfl (by decide)
 rw[if_neg h4] at k
 have d4:=decide_eq_false h4
 by_cases h5:hd= "ask"
 ·subst h5
  rw[if_pos rfl] at k
  by_cases c:r.length+1=2
  ·obtain⟨a,rfl⟩: ∃a,r=[a]:=by
    match r,c with
    |[a],_=>exact⟨a,rfl⟩
   have k:af a=false:=k
   simp! only[aa,sp,Dj,Dm,tx0,tx1,tx2,hds,eq_self,decide_true,eD]
   exact dI (io (rz a (by simp)) k)
  ·simp! only[aa,sp,tx0,fq (n:=2) (m:=2) rfl c,hds]
   exact eZ rfl (by decide)
 rw[if_neg h5] at k
 have d5:=decide_eq_false h5
 by_cases h6:hd= "go"
 ·subst h6
  rw[if_pos rfl] at k
  by_cases c:r.length+1=2
  ·obtain⟨a,rfl⟩: ∃a,r=[a]:=by
    match r,c with
    |[a],_=>exact⟨a,rfl⟩
   have k:af a=false:=k
   simp! only[aa,sp,Dj,Dm,tx0,tx1,tx2,hds,eq_self,decide_true,eD]
   exact dI (io (rz a (by simp)) k)
  ·simp! only[aa,sp,tx0,fq (n:=2) (m:=2) rfl c,hds]
   exact eZ rfl (by decide)
 rw[if_neg h6] at k
 have d6:=decide_eq_false h6
 by_cases h7:hd= "if"
 ·subst h7
  rw[if_pos rfl] at k
  by_cases c:r.length+1=7
  ·obtain⟨a,s,b,x,w,y,rfl⟩: ∃a s b x w y,r=[a,s,b,x,w,y]:=by
    match r,c with
    |[a,s,b,x,w,y],_=>exact⟨a,s,b,x,w,y,rfl⟩
   have k:JM a s b x w y=false:=k
   simp! only[aa,sp,Dj,Dm,tx0,tx1,tx2,hds,eq_self,decide_true,eD]
   exact dI (Br rz k)
  ·simp! only[aa,sp,tx0,fq (n:=7) (m:=7) rfl c,hds]
   exact eZ rfl (by decide)
 rw[if_neg h7] at k
 have d7:=decide_eq_false h7
 by_cases h8:hd= "table"
 ·subst h8
  rw[if_pos rfl] at k
  by_cases c:3<=r.length+1
  ·have c1:decide ((3:Int)<=(((r.map W.str).length+1:Nat):Int))=true:=decide_eq_true (by rw[Dh];omega)
   by_cases c':r.length+1<=8
   ·have c2:decide ((((r.map W.str).length+1:Nat):Int)<=2+6)=true:=decide_eq_true (by rw[Dh];omega)
    obtain⟨a,x,l,rfl⟩: ∃a x l,r=a::x::l:=by
     match r,c with
     |a::x::l,_=>exact⟨a,x,l,rfl⟩
    have k:(decide (l.length<=5) && (exB a && (x::l).all af))=false:=k
    rw[Di,Di] at c'
    rw[decide_eq_true (show l.length<=5 by omega)] at k
    have k:(exB a && (x::l).all af)=false:=k
    rw[Dj] at sp c1 c2
    rw[Di] at c1 c2
    have cu:ID (W.str "table"::W.str a::(x::l).map W.str) (some 2) none=(x::l).map W.str:=by
     unfold ID
     show List.take _ ((x::l).map W.str)=_
     rw[ED]
     show _<=((x::l).map W.str).length+1+1 - 2
     omega
    have gl: ∀ {α:Type} (q:M α),gd (((x::l).map W.str).length<=sizeLine) q=q:=fun q=>ai (by rw[Dh,Di];exact sz (by omega))
    have xz: ∀z∈x::l,z.length<=10000:=fun z hz=>rz z (Dz _ hz)
    cases c3:exB a with
    |false=>
     generalize (x::l).map W.str=XL at *
     simp! only[aa,sp,tx0,tx1,hds,eq_self,decide_true,Di,c1,c2]
     exact dI (lu (rz a (by simp)) (qa c3))
    |true=>
     obtain⟨e1,he⟩:=wF c3
     have k:(x::l).all af=false:=by rw[c3] at k;exact k
     obtain⟨j,y,y1,y2,y3⟩:=mS af (x::l) (Gq.mp k|>.imp fun z hz=>⟨hz.1,by simpa using hz.2⟩)
     generalize x::l=xs at *
     simp! only[aa,sp,tx0,tx1,hds,eq_self,decide_true,Di,c1,c2,jC (rz a (by simp)) he,cu,ar,dU,gl]
     refine yJ (I:=fun i a h'=>h'=h) j (by rw[Dh];exact (DK.mp y1).1) rfl gg (fun _ _ _ _=>trivial) (fun i w a h' hi hw I=>?_) fun w a h' hw I=>?_
     ·subst I
      rw[DA] at hw
      obtain⟨u,hu,rfl⟩:=DX.mp hw
      refine⟨_,rfl,?_⟩
      simp! only[List.replicate,DY,DU,aa,bH (y3 i u hi hu)]
      exact ao rfl
     ·subst I
      rw[DA,y1] at hw
      cases hw
      refine⟨_,rfl,?_⟩
      simp! only[List.replicate,DY,DU,aa]
      exact io (xz y (Ea y1)) y2
   ·have c2:decide ((((r.map W.str).length+1:Nat):Int)<=2+6)=false:=decide_eq_false (by rw[Dh];omega)
    simp! only[aa,sp,tx0,c1,c2,hds]
    exact eZ rfl (by decide)
  ·have c1:decide ((3:Int)<=(((r.map W.str).length+1:Nat):Int))=false:=decide_eq_false (by rw[Dh];omega)
   simp! only[aa,sp,tx0,c1,hds]
   exact eZ rfl (by decide)
 rw[if_neg h8] at k
 have d8:=decide_eq_false h8
 by_cases h9:hd= "stop"
 ·subst h9
  rw[if_pos rfl] at k
  have c:r.length+1≠1:=fun e=>by
   cases r with
   |nil=>cases k
   |cons a l=>rw[Di] at e;omega
  simp! only[aa,sp,tx0,fq (n:=1) (m:=1) rfl c,hds]
  exact eZ rfl (by decide)
 have d9:=decide_eq_false h9
 simp! only[aa,sp,tx0,d1,d2,d3,d4,d5,d6,d7,d8,d9]
 exact eZ rfl (by decide)
end
section
open Wd
structure Bt where
 nm:Str
 ss:List Rr
 e:Rr
noncomputable def Bt.rows (b:Bt):List Rr:=.block b.nm::(b.ss++[b.e])
def pgR (bx:List (Str×Str))(bl:List Bt):List Rr:=(bx.map fun b=>Rr.box b.1 b.2)++bl.flatMap Bt.rows
structure BtG (bn ns:List Str)(b:Bt):Prop where
 nm:af b.nm=true
 l:b.ss.length<=8
 s: ∀r∈b.ss,r.stm=true/\r.Ok/\ ∀x∈r.bxs,x∈bn
 e:b.e.end'=true/\b.e.Ok/\(∀x∈b.e.bxs,x∈bn)/\ ∀x∈b.e.tos,x∈ns
structure PtxG (bx:List (Str×Str))(bl:List Bt):Prop where
 b: ∀x∈bx,af x.1=true/\K1 x.2=true
 bn:(bx.map (·.1)).Nodup
 b4:bx.length<=4
 n:(bl.map Bt.nm).Nodup
 l:bl.length<=10
 l1:1<=bl.length
 g: ∀b∈bl,BtG (bx.map (·.1)) (bl.map Bt.nm) b
def bxV (bx:List (Str×Str)):List (Str×Int):=bx.map fun b=>(b.1,cL b.2)
theorem rQ: ∀ (bx:List (Str×Str)) (d:List (Str×Int)),(∀x∈bx,af x.1=true/\K1 x.2=true)->(d.map (·.1)++bx.map (·.1)).Nodup->d.length+bx.length<=4->OkR (bx.map fun b=>Rr.box b.1 b.2) ⟨d,[],[],[]⟩/\LL (bx.map fun b=>Rr.box b.1 b.2) ⟨d,[],[],[]⟩=⟨d++bxV bx,[],[],[]⟩
 |[],d,_,_,_=>⟨trivial,by show _=RS.mk (d++[]) _ _ _;rw[DM];rfl⟩
 |b::bx,d,g,nd,l=>by
  have ih:=rQ bx (d++[(b.1,cL b.2)]) (fun x hx=>g x (Dz _ hx)) (by rw[Dr,DL];exact nd) (by rw[Dk,DP];rw[Di] at l;omega)
  rw[Di] at l
  refine⟨⟨⟨g b Dt,rfl,fun hm=>?_,by show d.length<4;omega⟩,ih.1⟩,?_⟩
  ·rw[Dj,Fw] at nd
   exact nd.2.2 _ hm _ Dt rfl
  ·show LL (bx.map fun b=>Rr.box b.1 b.2) ⟨d++[(b.1,cL b.2)],[],[],[]⟩=_
   rw[ih.2,DL];rfl
theorem rP: ∀ (ss:List Rr) (s:RS),s.dn.length<s.nm.length->s.st.length+ss.length<=8->(∀r∈ss,r.stm=true/\r.Ok/\ ∀x∈r.bxs,x∈s.bx.map (·.1))->OkR ss s/\LL ss s={s with st:=s.st++ss.map Rr.form}
 |[],s,_,_,_=>⟨trivial,by rw[Dm,DM];rfl⟩
 |r::ss,s,i,l,g=>by
  rw[Di] at l
  obtain⟨g1,g2,g3⟩:=g r Dt
  have es:=o6 (s:=s) g1
  have ih:=rP ss {s with st:=s.st++[r.form]} i (by show (s.st++[_]).length+_<=8;rw[Dk,DP];omega) fun r hr=>g r (Dz _ hr)
  have p:Ib s r:=⟨i,fun _=>by omega,g3⟩
  have p:Pre s r:=by cases r<;>first|exact p|cases g1
  refine⟨⟨⟨g2,p⟩,by rw[es];exact ih.1⟩,?_⟩
  show LL ss (s.step r)=_
  rw[es,ih.2]
  show RS.mk s.bx s.nm s.dn ((s.st++[r.form])++ss.map Rr.form)=RS.mk s.bx s.nm s.dn (s.st++(r::ss).map Rr.form)
  rw[DL];rfl
theorem ua (l:List Str)(x:Str):(l++[x]).getLastD ""=x:=by simp
theorem yL {r:Rr}(a:r.end'=true)(b:r.stm=true):False:=by
 cases r<;>first|exact absurd a Ds|exact absurd b Ds
theorem xy {bn ns:List Str}{b:Bt}{s:RS}(g:BtG bn ns b)(hb:s.bx.map (·.1)=bn)(i:s.dn.length=s.nm.length)(l:s.nm.length<10)(n:b.nm ∉ s.nm):OkR b.rows s/\LL b.rows s=⟨s.bx,s.nm++[b.nm],s.dn++[(b.nm,b.ss.map Rr.form,b.e)],b.ss.map Rr.form⟩:=by
 subst hb
 have h1:=rP b.ss ⟨s.bx,s.nm++[b.nm],s.dn,[]⟩ (by show s.dn.length<(s.nm++[_]).length;rw[Dk,DP];omega) (by show 0+_<=8;have:=g.l;omega) g.s
 have e2:LL b.ss ⟨s.bx,s.nm++[b.nm],s.dn,[]⟩=⟨s.bx,s.nm++[b.nm],s.dn,b.ss.map Rr.form⟩:=by rw[h1.2];rfl
 have p:Ib ⟨s.bx,s.nm++[b.nm],s.dn,b.ss.map Rr.form⟩ b.e:=⟨by show s.dn.length<(s.nm++[_]).length;rw[Dk,DP];omega,fun q=>(yL g.e.1 q).elim,g.e.2.2.1⟩
 have p:Pre ⟨s.bx,s.nm++[b.nm],s.dn,b.ss.map Rr.form⟩ b.e:=by
  have ge:=g.e.1
  cases h:b.e<;>rw[h] at p ge<;>first|exact p|cases ge
 refine⟨⟨⟨g.nm,i,n,l⟩,jY h1.1 ?_⟩,?_⟩
 ·show OkR [b.e] (LL b.ss ⟨s.bx,s.nm++[b.nm],s.dn,[]⟩)
  rw[e2]
  exact⟨⟨g.e.2.1,p⟩,trivial⟩
 ·show LL (b.ss++[b.e]) ⟨s.bx,s.nm++[b.nm],s.dn,[]⟩=_
  rw[pp,e2]
  show RS.step _ b.e=_
  rw[o7 g.e.1]
  show RS.mk s.bx (s.nm++[b.nm]) (s.dn++[((s.nm++[b.nm]).getLastD "",b.ss.map Rr.form,b.e)]) _=_
  rw[ua]
theorem pj {bn ns:List Str}: ∀ (bl:List Bt) (s:RS),(∀b∈bl,BtG bn ns b)->s.bx.map (·.1)=bn->s.dn.length=s.nm.length->(s.nm++bl.map Bt.nm).Nodup->s.nm.length+bl.length<=10->OkR (bl.flatMap Bt.rows) s/\ ∃st,LL (bl.flatMap Bt.rows) s=⟨s.bx,s.nm++bl.map Bt.nm,s.dn++bl.map (fun b=>(b.nm,b.ss.map Rr.form,b.e)),st⟩
 |[],s,_,_,_,_,_=>⟨trivial,s.st,by rw[Dm,Dm,DM,DM];rfl⟩
 |b::bl,s,g,hb,i,nd,l=>by
  rw[Di] at l
  rw[Dj] at nd
  have nn:b.nm ∉ s.nm:=fun hm=>by
   rw[Fw] at nd
   exact nd.2.2 _ hm _ Dt rfl
  have h1:=xy (g b Dt) hb i (by omega) nn
  obtain⟨h2,st,h3⟩:=pj bl ⟨s.bx,s.nm++[b.nm],s.dn++[(b.nm,b.ss.map Rr.form,b.e)],b.ss.map Rr.form⟩ (fun b hb=>g b (Dz _ hb)) hb (by show (s.dn++[_]).length=(s.nm++[_]).length;rw[Dk,Dk,i];rfl) (by show ((s.nm++[b.nm])++_).Nodup;rw[DL];exact nd) (by show (s.nm++[_]).length+_<=10;rw[Dk,DP];omega)
  rw[Gr]
  refine⟨jY h1.1 (by rw[h1.2];exact h2),st,?_⟩
  rw[pp,h1.2,h3]
  show RS.mk _ ((s.nm++[b.nm])++bl.map Bt.nm) ((s.dn++[_])++_) _=_
  rw[DL,DL];rfl
def Bt.w (ns:List Str)(b:Bt):W:=.tup [.str b.nm,.tl (b.ss.map Rr.form),(b.e.en ns).w]
theorem LJ {bl:List Bt}(h:∀b∈bl,b.ss.length<=8):(bl.flatMap Bt.rows).length<=10 * bl.length:=by
 induction bl with
 |nil=>simp
 |cons b bl ih=>
  have a:=h b Dt
  have c:=ih fun b hb=>h b (Dz _ hb)
  rw[Gr,Dk,Di]
  have:b.rows.length=b.ss.length+2:=by unfold Bt.rows;rw[Di,Dk];rfl
  omega
end
section
open Wd
noncomputable def hdS:Exp->Str
 |.num _=> "number"
 |.box _=> "box"
 |.bin s _ _=>s
noncomputable def J1 (s:Str):Bool:=("+":Str)==s||(("-":Str)==s||false)
noncomputable def brk (b:Bool)(x:Str):Str:=if b=true then "("++x++ ")" else x
def lBr (s:Str)(l:Exp)(more:Int):Bool:=(decide (s= "*") && J1 (hdS l))||decide (more % 5=1)
def rBr (s:Str)(r:Exp)(more:Int):Bool:=J1 (hdS r)||((decide (s= "*") && decide (hdS r= "*"))||decide (more % 7=1))
def wdS:Exp->Int->Str
 |.num n,_=>toString n
 |.box x,_=>x
 |.bin s l r,more=>brk (lBr s l more) (wdS l (more / 2))++s++brk (rBr s r more) (wdS r (more / 3))
noncomputable def szE:Exp->Nat
 |.num _=>1
 |.box _=>1
 |.bin _ l r=>szE l+szE r
def HY:Exp->Prop
 |.num n=>0<=n/\n<=999
 |.box x=>af x=true
 |.bin s l r=>(s= "+"\/s= "-"\/s= "*")/\HY l/\HY r
theorem nV:("+":Str)=⟨#[43]⟩:=by decide+kernel
theorem kR:("-":Str)=⟨#[45]⟩:=by decide+kernel
theorem nH:("*":Str)=⟨#[42]⟩:=by decide+kernel
theorem lpar:("(":Str).cps.toList=[40]:=by decide+kernel
theorem rpar:(")":Str).cps.toList=[41]:=by decide+kernel
theorem gL (a b:Str):(a++b).cps.toList=a.cps.toList++b.cps.toList:=by
 have:(a++b).cps=a.cps++b.cps:=rfl
 rw[this,Gg]
theorem sj (a b:Str):(a++b).length=a.length+b.length:=by rw[<-aU,<-aU,<-aU,gL,Dk]
theorem iW: ∀n:Nat,n<1000->K1 (Str.ofString (toString ((n:Nat):Int)))=true/\cL (Str.ofString (toString ((n:Nat):Int)))=(n:Int):=by
 have h: ∀n:Nat,n<1000->K1 (Str.ofString (toString ((n:Nat):Int)))=true:=by decide+kernel
 intro n hn
 refine⟨h n hn,?_⟩
 have h1:=(kL (h n hn)).1
 have h2:=PySem.W.KIN.num_reads (n:=(n:Int)) (by omega) (by omega)
 rw[h2] at h1
 exact (Option.some.inj h1).symm
noncomputable def bit (b:Bool):Nat:=if b=true then 1 else 0
def bdW:Exp->Int->Nat
 |.num _,_=>0
 |.box _,_=>0
 |.bin s l r,more=>max (bdW l (more / 2)+bit (lBr s l more)) (bdW r (more / 3)+bit (rBr s r more))
theorem fj (b:Bool)(x:Str):(brk b x).cps.toList=if b=true then 40::(x.cps.toList++[41]) else x.cps.toList:=by
 unfold brk
 split
 ·rw[gL,gL,lpar,rpar];rfl
 ·rfl
structure Ih (W:List Nat)(e:Exp)(d:Nat):Prop where
 sum:SumT W e d
 prod:J1 (hdS e)=false->ProdT W e d
 atom:J1 (hdS e)=false->hdS e≠ "*"->AtomT W e d
 deep:DeepT W d
theorem lP {x:Str}{e:Exp}{d:Nat}(h:SumT x.cps.toList e d):AtomT (brk true x).cps.toList e (d+bit true):=by
 rw[fj,if_pos rfl]
 exact h.bracket
theorem yR {b:Bool}{x:Str}{e:Exp}{d:Nat}(h:SumT x.cps.toList e d):SumT (brk b x).cps.toList e (d+bit b):=by
 cases b with
 |true=>exact (lP h).prod.sum
 |false=>rw[fj,if_neg Ds];exact h
theorem qt {b:Bool}{x:Str}{e:Exp}{d:Nat}(h:SumT x.cps.toList e d)(hp:b=false->ProdT x.cps.toList e d):ProdT (brk b x).cps.toList e (d+bit b):=by
 cases b with
 |true=>exact (lP h).prod
 |false=>rw[fj,if_neg Ds];exact hp rfl
theorem wO {b:Bool}{x:Str}{e:Exp}{d:Nat}(h:SumT x.cps.toList e d)(hp:b=false->AtomT x.cps.toList e d):AtomT (brk b x).cps.toList e (d+bit b):=by
 cases b with
 |true=>exact lP h
 |false=>rw[fj,if_neg Ds];exact hp rfl
theorem qv {b:Bool}{x:Str}{d:Nat}(h:DeepT x.cps.toList d):DeepT (brk b x).cps.toList (d+bit b):=by
 rw[fj]
 cases b with
 |true=>exact h.bracket
 |false=>exact h
theorem qy {l:List Nat}(h:l.all JU=true): ∀c∈l,c≠40/\c≠41:=fun c hc=>by
 have a:=DC.mp h c hc
 constructor
 ·rintro rfl;rw[lQ (by omega)] at a;cases a
 ·rintro rfl;rw[lQ (by omega)] at a;cases a
theorem xZ {z:Str}(h:af z=true):z.cps.toList.all JU=true:=by
 unfold af at h
 simp only[Dx] at h
 rw[DC]
 intro c hc
 rw[i0,DC.mp h.2.1 c hc];rfl
theorem AC {z:Str}(h:K1 z=true):z.cps.toList.all JU=true:=by
 unfold K1 at h
 simp only[Dx] at h
 rw[DC]
 intro c hc
 rw[i0,DC.mp h.2.2 c hc,Bool.or_true]
theorem uG:J1 "+"=true:=by decide+kernel
theorem sU:J1 "-"=true:=by decide+kernel
theorem vt (c:Nat)(h:c=43\/c=45\/c=42):DeepT [c] 0:=gK fun x hx=>by
 have:x=c:=by simpa using hx
 subst this;omega
theorem max0 (a b:Nat):max (max a 0) b=max a b:=by omega
theorem nD: ∀ {e:Exp} (more:Int),HY e->Ih (wdS e more).cps.toList e (bdW e more)
 |.num n,more,h=>by
  obtain⟨h0,h9⟩:=h
  obtain⟨k,rfl⟩: ∃k:Nat,n=(k:Int):=⟨n.toNat,by omega⟩
  obtain⟨g1,g2⟩:=iW k (by omega)
  have a:AtomT (Str.ofString (toString ((k:Nat):Int))).cps.toList (.num (k:Int)) 0:=by
   have:=K2 g1
   rw[g2] at this
   exact this
  exact⟨a.prod.sum,fun _=>a.prod,fun _ _=>a,gK (qy (AC g1))⟩
 |.box x,more,h=>by
  have a:AtomT x.cps.toList (.box x) 0:=wR h
  exact⟨a.prod.sum,fun _=>a.prod,fun _ _=>a,gK (qy (xZ h))⟩
 |.bin s l r,more,h=>by
  obtain⟨hs,gl,gr⟩:=h
  have L:=nD (more / 2) gl
  have R:=nD (more / 3) gr
  have dL:=qv (b:=lBr s l more) L.deep
  have dR:=qv (b:=rBr s r more) R.deep
  have dd: ∀c,c=43\/c=45\/c=42->DeepT ((brk (lBr s l more) (wdS l (more / 2))).cps.toList++c::(brk (rBr s r more) (wdS r (more / 3))).cps.toList) (bdW (.bin s l r) more):=fun c hc=>by
   have q:=(dL.app (vt c hc)).app dR
   rw[max0] at q
   have e:(brk (lBr s l more) (wdS l (more / 2))).cps.toList++[c]++(brk (rBr s r more) (wdS r (more / 3))).cps.toList=(brk (lBr s l more) (wdS l (more / 2))).cps.toList++c::(brk (rBr s r more) (wdS r (more / 3))).cps.toList:=by simp
   rw[e] at q
   exact q
  have wl: ∀c,s=⟨#[c]⟩->(wdS (.bin s l r) more).cps.toList=(brk (lBr s l more) (wdS l (more / 2))).cps.toList++c::(brk (rBr s r more) (wdS r (more / 3))).cps.toList:=fun c hc=>by
   show (brk (lBr s l more) (wdS l (more / 2))++s++brk (rBr s r more) (wdS r (more / 3))).cps.toList=_
   rw[gL,gL]
   have:s.cps.toList=[c]:=by rw[hc]
   rw[this]
   simp
  have sumCase: ∀c,(c=43\/c=45)->s=⟨#[c]⟩->J1 s=true->Ih (wdS (.bin s l r) more).cps.toList (.bin s l r) (bdW (.bin s l r) more):=fun c hc es hsum=>by
   have S:SumT (wdS (.bin s l r) more).cps.toList (.bin s l r) (bdW (.bin s l r) more):=by
    rw[wl c es]
    have q:=SumT.bin (yR (b:=lBr s l more) L.sum) (qt (b:=rBr s r more) R.sum (fun hb=>R.prod (by
     unfold rBr at hb
     rw[EW] at hb
     exact hb.1))) hc
    rw[<-es] at q
    exact q
   have no: ¬J1 (hdS (.bin s l r))=false:=fun z=>by
    have z':J1 s=false:=z
    rw[hsum] at z'
    cases z'
   exact⟨S,fun z=>absurd z no,fun z=>absurd z no,by rw[wl c es];exact dd c (by omega)⟩
  rcases hs with e|e|e
  ·exact sumCase 43 (.inl rfl) (e.trans nV) (by rw[e];exact uG)
  ·exact sumCase 45 (.inr rfl) (e.trans kR) (by rw[e];exact sU)
  ·have es:s=⟨#[42]⟩:=e.trans nH
   have Pd:ProdT (wdS (.bin s l r) more).cps.toList (.bin s l r) (bdW (.bin s l r) more):=by
    rw[wl 42 es]
    have q:=ProdT.bin (qt (b:=lBr s l more) L.sum (fun hb=>L.prod (by
     unfold lBr at hb
     rw[EW,decide_eq_true e,FX] at hb
     exact hb.1))) (wO (b:=rBr s r more) R.sum (fun hb=>by
     unfold rBr at hb
     rw[EW,EW,decide_eq_true e,FX] at hb
     exact R.atom hb.1 (of_decide_eq_false hb.2.1)))
    rw[<-es] at q
    exact q
   exact⟨Pd.sum,fun _=>Pd,fun _ z=>absurd e z,by rw[wl 42 es];exact dd 42 (by omega)⟩
theorem j9 (b:Bool)(x:Str):(brk b x).length<=x.length+2:=by
 rw[<-aU,fj,<-aU]
 split
 ·rw[Di,Dk,DP];omega
 ·omega
theorem kg: ∀ {e:Exp} (more:Int),HY e->(wdS e more).length+8<=16 * szE e
 |.num n,more,h=>by
  obtain⟨h0,h9⟩:=h
  obtain⟨k,rfl⟩: ∃k:Nat,n=(k:Int):=⟨n.toNat,by omega⟩
  obtain⟨g1,_⟩:=iW k (by omega)
  unfold K1 at g1
  simp only[Dx,decide_eq_true_eq] at g1
  have:=g1.1.2
  show (Str.ofString (toString ((k:Nat):Int))).length+8<=16 * 1
  omega
 |.box x,more,h=>by
  have h:af x=true:=h
  unfold af at h
  simp only[Dx,decide_eq_true_eq] at h
  have:=h.1.2
  show x.length+8<=16 * 1
  omega
 |.bin s l r,more,h=>by
  obtain⟨hs,gl,gr⟩:=h
  have a:=kg (more / 2) gl
  have b:=kg (more / 3) gr
  have c:=j9 (lBr s l more) (wdS l (more / 2))
  have d:=j9 (rBr s r more) (wdS r (more / 3))
  have ls:s.length=1:=by rcases hs with e|e|e<;>rw[e]<;>decide+kernel
  show (brk (lBr s l more) (wdS l (more / 2))++s++brk (rBr s r more) (wdS r (more / 3))).length+8<=16 * (szE l+szE r)
  rw[sj,sj,ls]
  omega
def IJ (z:Str):Int:=(z.cps.toList.foldl cW (0,0)).2
structure Ik (z:Str)(e:Exp)(d:Nat):Prop where
 expr:IT z=if z.length>60\/d>5 then none else some e
 deep:IJ z=(d:Int)
 len:z.length<=17000
theorem w9 {z:Str}{e:Exp}{d:Nat}(h1:SumT z.cps.toList e d)(h2:DeepT z.cps.toList d)(h3:z.length<=17000):Ik z e d:=by
 refine⟨h1.expr,?_,h3⟩
 unfold IJ
 rw[h2 0 0 (by omega)]
 show max 0 (0+(d:Int))=d
 omega
end
section
open Wd
noncomputable def MJ (cell k:Int):Int:=
 if 10 ^ (18:Int).toNat<=cell then (cell - 10 ^ (18:Int).toNat) / 2 ^ (28 * k).toNat % 2 ^ (28:Int).toNat
 else ((cell+1013 * k+1) * 16807 % 2147483647) * ((cell+1013 * k+1) * 16807 % 2147483647) % 2147483629 * 39373 % 2147483587 / 8
theorem nG (cell k:Int):0<=MJ cell k:=by
 unfold MJ
 split
 ·exact DG _ (by decide)
 ·omega
theorem cp10:HK 10 18:=⟨by decide,by decide,by decide⟩
theorem cp2:HK 2 28:=⟨by decide,by decide,by decide⟩
theorem uK (c k:Int)(hk:0<=k)(h:List Ob):ag [.int c,.int k] h=.ok (.int (MJ c k)) h:=by
 have e0:ag [.int c,.int k] h=bd (gD [some (.int c),some (.int k),none]) IV h:=rfl
 rw[e0]
 have m1:HJ 28 k:=om (by decide) (by decide)
 have m2':HJ 1013 k:=om (by decide) (by decide)
 have m3:HJ (c+1013 * k+1) 16807:=vN (by decide) (by decide)
 have m4:HJ ((c+1013 * k+1) * 16807 % 2147483647) ((c+1013 * k+1) * 16807 % 2147483647):=om (by omega) (by omega)
 have m5: ∀x:Int,HJ x 39373:=fun x=>vN (by decide) (by decide)
 unfold gD MJ
 by_cases hc:10 ^ (18:Int).toNat<=c
 ·simp! only[kE cp10,kE cp2,fY m1,uO (show (0:Int)<=28 * k by omega),ah (show (0:Int)<2 ^ (28:Int).toNat by decide),decide_eq_true hc,if_pos hc]
  rfl
 ·simp! only[kE cp10,fY m2',fY m3,fY m4,fY (m5 _),ah (show (0:Int)<2147483647 by decide),ah (show (0:Int)<2147483629 by decide),ah (show (0:Int)<2147483587 by decide),aH (show (0:Int)<8 by decide) (by decide),decide_eq_false hc,if_neg hc]
  rfl
theorem bb {c k:Int}(hk:0<=k):ag [.int c,.int k]=pr (.int (MJ c k)):=funext fun h=>uK c k hk h
theorem sV (ns:List Int):MQ [.tl (ns.map W.int)]=pr (.int ns.sum):=by
 show (match Lm iOf (ns.map W.int) with
  |some ns=>(pr (W.int ns.sum):M W)
  |none=>no)=_
 rw[kG (f:=iOf) (g:=W.int) (fun a=>rfl) ns]
theorem sapp (a b c:Str):(a++b)++c=a++(b++c):=dS (by rw[aO,aO,aO,aO,DL])
theorem Mv (a b:Str):(a++b).length=a.length+b.length:=Gd
theorem adS {a b:Str}(h:a.length+b.length<=100000):Il (.str a) (.str b)=pr (.str (a++b)):=wY (sz h)
theorem ou:(("+":Str).length=1/\("-1":Str).length=2/\("n*":Str).length=2/\("2*(":Str).length=3/\("+1)":Str).length=3/\("7-":Str).length=2)/\("say ":Str).length=4/\("ask ":Str).length=4/\("put ":Str).length=4/\(" ":Str).length=1/\("go ":Str).length=3/\("if ":Str).length=3/\(" else ":Str).length=6/\("block ":Str).length=6:=by decide+kernel
theorem Kg:(("say ":Str)= "say"++⟨#[32]⟩/\("ask ":Str)= "ask"++⟨#[32]⟩/\("put ":Str)= "put"++⟨#[32]⟩/\("go ":Str)= "go"++⟨#[32]⟩)/\("if ":Str)= "if"++⟨#[32]⟩/\(" else ":Str)=⟨#[32]⟩++("else"++⟨#[32]⟩)/\("block ":Str)= "block"++⟨#[32]⟩/\(" < ":Str)=⟨#[32]⟩++("<"++⟨#[32]⟩)/\(" = ":Str)=⟨#[32]⟩++("="++⟨#[32]⟩):=by decide+kernel
theorem zM (z:Str)(e:Exp):(Rr.say z e).tx= "say "++z:=by rw[Kg.1.1];rfl
theorem BA (z:Str):(Rr.ask z).tx= "ask "++z:=by rw[Kg.1.2.1];rfl
theorem zU (x z:Str)(e:Exp):(Rr.put x z e).tx= "put "++x++ " "++z:=by
 rw[Kg.1.2.2.1,gR]
 show "put"++⟨#[32]⟩++(x++⟨#[32]⟩++z)=_
 simp only[sapp]
theorem Cv (z:Str):(Rr.go z).tx= "go "++z:=by rw[Kg.1.2.2.2];rfl
theorem wS (z:Str):(Rr.block z).tx= "block "++z:=by rw[Kg.2.2.2.1];rfl
theorem pQ (ns:List Int)(k:Int): ∃c:Int,de [.tl (ns.map W.int),.int k]=pr (.int c):=by
 have e0:de [.tl (ns.map W.int),.int k]=bd (gG [some (.tl (ns.map W.int)),some (.int k)]) IV:=rfl
 refine⟨(Ls ns (some k) (some 63) 11).sum,?_⟩
 rw[e0]
 unfold gG
 have sl:Mw (.tl (ns.map W.int)) (some k) (some 63) (some 11)=pr (.tl ((Ls ns (some k) (some 63) 11).map W.int)):=by
  show gd ((1:Int)<=11) (bd (pr (ns.map W.int)) fun l=>pr (W.tl (Ls l (some k) (some 63) 11)))=_
  rw[ai (by decide)]
  show pr _=_
  rw[u3]
 simp! only[aa,KG,sl,sV]
noncomputable def LTS:Str:= "abcdefghijklmnopqrstuvwxyz"
theorem si: ∀v,v<26->LTS.cps.toList[v]?=some (97+v):=by decide+kernel
theorem sh:LTS.length=26:=by decide+kernel
theorem lett (x:Int): ∃c,JY c=true/\ixW (.str LTS) (.int (x % 26))=pr (.str ⟨#[c]⟩):=by
 have a0:=DG x (show (26:Int)≠0 by decide)
 have a1:=DJ x (show (0:Int)<26 by decide)
 exact⟨97+(x % 26).toNat,JZ.mpr ⟨by omega,by omega⟩,fu (by rw[sh];exact sz (by omega)) (aE a0 (si _ (by omega)))⟩
structure Lts (z:Str):Prop where
 l:z.cps.toList.all JY=true
 l1:1<=z.length
 l8:z.length<=8
theorem Lts.name {z:Str}(g:Lts z)(h:z ∉ M3):af z=true:=by
 unfold af
 rw[decide_eq_true ⟨g.l1,g.l8⟩,g.l,decide_eq_false h];rfl
theorem su: ∀cs:List Nat,(Str.join ⟨#[]⟩ (cs.map fun c=>(⟨#[c]⟩:Str))).cps.toList=cs
 |[]=>rfl
 |[c]=>rfl
 |c::d::cs=>by
  have ih:=su (d::cs)
  show ((⟨#[c]⟩:Str)++⟨#[]⟩++Str.join ⟨#[]⟩ ((d::cs).map fun c=>(⟨#[c]⟩:Str))).cps.toList=_
  rw[aO,aO,ih];rfl
theorem yu (z:Str):z.cps.toList.length=z.length:=rfl
theorem zp: ∀i,i<12->Lts ("zz"++⟨#[97+i]⟩:Str)/\(("zz"++⟨#[97+i]⟩:Str) ∉ M3):=fun i hi=>by
 have h: ∀i,i<12->((("zz"++⟨#[97+i]⟩:Str)).cps.toList.all JY=true/\("zz"++⟨#[97+i]⟩:Str).length=3)/\(("zz"++⟨#[97+i]⟩:Str) ∉ M3):=by decide+kernel
 obtain⟨⟨a,b⟩,c⟩:=h i hi
 exact⟨⟨a,by omega,by omega⟩,c⟩
noncomputable def zzL:List Str:=(List.range 12).map fun i=> "zz"++⟨#[97+i]⟩
theorem BD:zzL.Nodup:=by decide+kernel
theorem zo:("zz":Str).length=2:=by decide+kernel
theorem rm1 {x:Str}: ∀ {L:List Str},L.Nodup->L.length<=(L.filter fun z=>!decide (z=x)).length+1
 |[],_=>DB _
 |y::L,nd=>by
  obtain⟨n1,n2⟩:=ES.mp nd
  by_cases e:y=x
  ·subst e
   rw[Fm (by simp),Fv.mpr fun z hz=>by simp;exact fun e=>n1 (e▸hz)]
   exact Dl _
  ·rw[Fk (by simp [e]),Di,Di]
   have:=rm1 (x:=x) n2
   omega
theorem rmL {zs:List Str}(nd:zs.Nodup): ∀l:List Str,zs.length<=(zs.filter fun z=>!decide (z∈l)).length+l.length
 |[]=>by rw[Fv.mpr fun z _=>by simp];exact Dl _
 |x::l=>by
  have ih:=rmL nd l
  have h:=rm1 (x:=x) (nd.filter fun z=>!decide (z∈l))
  have e:(zs.filter fun z=>!decide (z∈l)).filter (fun z=>!decide (z=x))=zs.filter fun z=>!decide (z∈x::l):=by
   rw[List.filter_filter]
   congr 1
   funext z
   by_cases a:z=x<;>by_cases b:z∈l<;>simp [a,b]
  rw[e] at h
  rw[Di]
  omega
theorem wZ {l:List Str}(nd:l.Nodup)(h9:l.length<=9){v:Int}(h0:0<=v)(h1:v<2): ∃z,Lts z/\z ∉ M3/\z ∉ l/\ixW (.tl ((zzL.filter fun z=>!decide (z∈l)).map W.str)) (.int v)=pr (.str z):=by
 have ll:=rmL BD l
 have l12:zzL.length=12:=rfl
 have hv:v.toNat<(zzL.filter fun z=>!decide (z∈l)).length:=by omega
 have hm:=Fx hv
 generalize hz:(zzL.filter fun z=>!decide (z∈l))[v.toNat]=z at hm
 obtain⟨m1,m2⟩:=EM.mp hm
 obtain⟨i,hi,rfl⟩:=DV.mp m1
 obtain⟨g1,g2⟩:=zp i (List.mem_range.mp hi)
 refine⟨_,g1,g2,by simpa using m2,bM (aE h0 ?_)⟩
 rw[DA,DR hv,hz];rfl
def bZ:HU->M Fl:=(L8 11 (m2 ixW (mTl (Kv [] (KH (mTl (Kv [] (KI (Kw (mC (.int 12)) KB) LI) (tgN 0) KM (m2 Il (mC (.str "zz")) (m2 ixW (KL 5) (KL 0))) 2)) MF) (tgN 0) (mB (m2 cM (KL 0) (KL 9))) (KL 0) 2)) (m2 KQ (m2 IU (KL 9) (mC (.int 832))) (mC (.int 2)))))
def bN:HU->M Fl:=(L7 (sIf (mOr (mB (m2 inW (KL 11) (KL 7))) (mB (m2 inW (KL 11) (KL 4)))) bZ LY) (sEx (Kz isL aR (KL 7) (Kw (KL 11) KB))))
theorem jM:fw=(L7 (L8 3 (mC (.str "abcdefghijklmnopqrstuvwxyz"))) (L7 (L8 4 (mTl (Kl (Kw (mC (.str "box")) (Kw (mC (.str "block")) (Kw (mC (.str "put")) (Kw (mC (.str "say")) (Kw (mC (.str "ask")) (Kw (mC (.str "go")) (Kw (mC (.str "if")) (Kw (mC (.str "else")) (Kw (mC (.str "table")) (Kw (mC (.str "stop")) KB))))))))))))) (L7 (L8 5 (m2 Il (mC (.int 1)) (m2 KQ (Ku (arW 2 ag) (Kw (KL 0) (Kw (KL 1) KB))) (mC (.int 8))))) (L7 (L8 6 (Kz isS Kb (mC (.str "")) (Kw (mTl (Kv [] (KI (Kw (KL 5) KB) LI) (tgN 0) KM (m2 ixW (KL 5) (m2 KQ (Ku (arW 2 ag) (Kw (KL 2) (Kw (m2 Il (m2 Il (KL 3) (mC (.int 1))) (KL 0)) KB))) (mC (.int 26)))) 2)) KB))) (L7 (L8 7 (KA (Kl KB))) (L7 (LX (KI (Kw (KL 2) KB) LI) (tgN 8) (L7 (L8 9 (Ku (arW 2 ag) (Kw (KL 0) (Kw (m2 Il (m2 Il (KL 1) (mC (.int 9))) (KL 8)) KB)))) (L7 (L8 10 (m2 KQ (KL 9) (KL 5))) (L7 (L8 11 (m2 Il (m2 Il (m3 slW (KL 6) aj (KF (KL 10))) (m2 ixW (KL 3) (m2 KQ (m2 IU (KL 9) (mC (.int 8))) (mC (.int 26))))) (m3 slW (KL 6) (KF (m2 Il (KL 10) (mC (.int 1)))) aj))) (L7 (sIf (mB (m2 eqW (m2 KQ (m2 IU (KL 9) (mC (.int 208))) (mC (.int 4))) (mC (.int 0)))) (L8 11 (m3 slW (KL 6) aj (KF (m2 Il (KL 10) (mC (.int 1)))))) LY) bN))))) (L3 (m1 JK (KL 7))))))))):=rfl
theorem CQ {h:List Ob}{j:Nat}{l:List Str}{n:Int}(a0 a1 a2 a4 a5 a6 a8 a10 a11:Option W)(e:h[j]?=some (.lst (l.map W.str)))(nd:l.Nodup)(h9:l.length<=9)(n0:0<=n):
  Ok (bZ [a0,a1,a2,some (.str LTS),a4,a5,a6,some (.loc j),a8,some (.int n),a10,a11]) h fun x h'=>(∃y,x=.nx [a0,a1,a2,some (.str LTS),a4,a5,a6,some (.loc j),a8,some (.int n),a10,some (.str y)]/\y ∉ l/\af y=true)/\h'=h:=by
 unfold bZ
 have v0:=DG (n / 832) (show (2:Int)≠0 by decide)
 have v1:=DJ (n / 832) (show (0:Int)<2 by decide)
 obtain⟨y,y1,y2,y3,ey⟩:=wZ nd h9 v0 v1
 simp! only[aa,fW (show (-(2 ^ 62):Int)<=12 by decide) (show (12:Int)<2 ^ 62 by decide)]
 refine fm (I:=fun i a h'=>h'=h/\a=(zzL.take i).map W.str) ⟨rfl,rfl⟩ gg (fun _ _ _ _=>trivial) (fun i w a h' hw I=>?_) fun a h' I=>?_
 ·obtain⟨rfl,rfl⟩:=I
  obtain⟨rfl,hi⟩:=eX _ _ _ _ hw
  have hi:i<12:=hi
  refine⟨_,rfl,?_⟩
  have il:ixW (.str LTS) (.int (0+(i:Int)))=pr (.str ⟨#[97+i]⟩):=fu (by rw[sh];exact sz (by omega)) (aE (by omega) (by rw[show (0+(i:Int)).toNat=i by omega];exact si i (by omega)))
  simp! only[List.replicate,DY,DU,aa,il,adS (a:= "zz") (b:=(⟨#[97+i]⟩:Str)) (by rw[zo];show 2+1<=_;omega)]
  refine ao ⟨rfl,?_⟩
  have:zzL[i]?=some ("zz"++(⟨#[97+i]⟩:Str):Str):=by unfold zzL;rw[DA,List.getElem?_range hi];rfl
  rw[Ee,this,Dr];rfl
 ·obtain⟨rfl,rfl⟩:=I
  rw[dD]
  have e12:zzL.take (12:Int).toNat=zzL:=rfl
  rw[e12]
  have gl: ∀ {α:Type} (q:M α),gd ((zzL.map W.str).length<=sizeLine) q=q:=fun q=>ai (by rw[Dh];exact sz (by decide))
  simp! only[aa,dU,gl]
  refine pB (I:=fun i a h2=>h2=h'/\a=((zzL.take i).filter fun z=>!decide (z∈l)).map W.str) ⟨rfl,rfl⟩ (fun _ _ _ _=>trivial) (fun i w a h2 hw I=>?_) fun a h2 I=>?_
  ·obtain⟨rfl,rfl⟩:=I
   rw[DA] at hw
   obtain⟨x,hx,rfl⟩:=DX.mp hw
   refine⟨_,rfl,?_⟩
   simp! only[List.replicate,DY,DU,aa]
   refine vE e ?_
   simp!
   have et:(zzL.take (i+1)).filter (fun z=>!decide (z∈l))=(zzL.take i).filter (fun z=>!decide (z∈l))++[x].filter (fun z=>!decide (z∈l)):=by rw[Ee,hx,Gu];rfl
   by_cases hm:x∈l
   ·rw[decide_eq_true hm]
    refine ao (.inl ⟨rfl,rfl,?_⟩)
    rw[et,Fm (by simp [hm]),Fy,DM]
   ·rw[decide_eq_false hm]
    refine ao (.inr ⟨rfl,ao ⟨rfl,?_⟩⟩)
    rw[et,Fk (by simp [hm]),Fy,Dr];rfl
  ·obtain⟨rfl,rfl⟩:=I
   rw[Dh,Ed]
   simp! only[aa,aH (show (0:Int)<832 by decide) (by decide),ah (show (0:Int)<2 by decide),ey]
   exact ao ⟨⟨y,rfl,y3,y1.name y2⟩,rfl⟩
theorem CW {h:List Ob}{j:Nat}{l:List Str}{z:Str}{n:Int}(a0 a1 a2 a5 a6 a8 a10:Option W)(e:h[j]?=some (.lst (l.map W.str)))(g:Lts z)(nd:l.Nodup)(h9:l.length<=9)(n0:0<=n):
  Ok (bN [a0,a1,a2,some (.str LTS),some (.tl (M3.map W.str)),a5,a6,some (.loc j),a8,some (.int n),a10,some (.str z)]) h fun x h'=> ∃y,x=.nx [a0,a1,a2,some (.str LTS),some (.tl (M3.map W.str)),a5,a6,some (.loc j),a8,some (.int n),a10,some (.str y)]/\y ∉ l/\af y=true/\h'=h.set j (.lst ((l++[y]).map W.str)):=by
 have z9:(l.map W.str).length<sizeLine:=by rw[Dh];exact Ec h9 (by decide)
 have fin: ∀y:Str,Ob.lst (l.map W.str++[W.str y])=.lst ((l++[y]).map W.str):=fun y=>by rw[Dr];rfl
 have bz:=CQ a0 a1 a2 (some (.tl (M3.map W.str))) a5 a6 a8 a10 (some (.str z)) e nd h9 n0
 unfold bN
 generalize hT:W.tl (M3.map W.str)=T at *
 have it:inW (.str z) T=pr (.bl (decide (z∈M3))):=by rw[<-hT];exact j5
 simp!
 refine y9 e ?_
 by_cases c:z∈l
 ·simp! only[aa,decide_eq_true c]
  refine bP bz fun x h' qq_=>?_
  obtain⟨⟨y,ex,y1,y2⟩,eh⟩:=qq_
  subst ex eh
  simp!
  refine dz e ?_
  simp!
  refine dB e z9 ?_
  simp!
  exact ao ⟨y,rfl,y1,y2,by rw[fin]⟩
 ·by_cases c2:z∈M3
  ·simp! only[aa,decide_eq_false c,it,decide_eq_true c2]
   refine bP bz fun x h' qq_=>?_
   obtain⟨⟨y,ex,y1,y2⟩,eh⟩:=qq_
   subst ex eh
   simp!
   refine dz e ?_
   simp!
   refine dB e z9 ?_
   simp!
   exact ao ⟨y,rfl,y1,y2,by rw[fin]⟩
  ·simp! only[aa,decide_eq_false c,it,decide_eq_false c2]
   refine dz e ?_
   simp!
   refine dB e z9 ?_
   simp!
   exact ao ⟨z,rfl,c,g.name c2,by rw[fin]⟩
theorem mM {h:List Ob}(hd k:Int){many:Nat}{MM:Int}(hM:MM=(many:Int))(h10:many<=10)(k0:0<=k):Ok (cP [.int hd,.int k,.int MM]) h fun w h'=>(∃l:List Str,w=.tl (l.map W.str)/\l.length=many/\l.Nodup/\ ∀x∈l,af x=true)/\Fo h.length h h':=by
 have e0:cP [.int hd,.int k,.int MM]=bd (fw [some (.int hd),some (.int k),some (.int MM),none,none,none,none,none,none,none,none,none]) IV:=rfl
 rw[e0,jM]
 have a0:=DG (MJ hd k) (show (8:Int)≠0 by decide)
 have a1:=DJ (MJ hd k) (show (0:Int)<8 by decide)
 obtain⟨N,hN⟩: ∃N:Int,N=1+MJ hd k % 8:=⟨_,rfl⟩
 have n1:1<=N:=by omega
 have n8:N<=8:=by omega
 have eT: ∀ (n:Nat),n=0->W.tl [.str "box",.str "block",.str "put",.str "say",.str "ask",.str "go",.str "if",.str "else",.str "table",.str "stop"]=.tl (M3.map W.str):=fun _ _=>rfl
 simp! only[aa,bb k0,ah (show (0:Int)<8 by decide)]
 rw[<-hN,eT 0 rfl]
 generalize hT:W.tl (M3.map W.str)=T at *
 have gN: ∀ {α:Type} (q:M α),gd ((JR 0 N.toNat).length<=sizeLine) q=q:=fun q=>ai (by rw[dD];exact sz (by omega))
 simp! only[aa,fW (show (-(2 ^ 62):Int)<=N by omega) (show N<2 ^ 62 by omega),gN]
 refine fm (I:=fun i a h'=>h'=h/\ ∃cs:List Nat,a=(cs.map fun c=>(⟨#[c]⟩:Str)).map W.str/\cs.length=i/\cs.all JY=true) ⟨rfl,[],rfl,rfl,rfl⟩ gg (fun _ _ _ _=>trivial) (fun i w a h' hw I=>?_) fun a h' I=>?_
 ·obtain⟨rfl,cs,rfl,rfl,ca⟩:=I
  obtain⟨rfl,hi⟩:=eX _ _ _ _ hw
  refine⟨_,rfl,?_⟩
  obtain⟨c,hc,ec⟩:=lett (MJ hd (k+1+(0+(cs.length:Int))))
  simp! only[List.replicate,DY,DU,aa,bb (show (0:Int)<=k+1+(0+(cs.length:Int)) by omega),ah (show (0:Int)<26 by decide)]
  have ec:ixW (.str "abcdefghijklmnopqrstuvwxyz") (.int (MJ hd (k+1+(0+(cs.length:Int))) % 26))=pr (.str ⟨#[c]⟩):=ec
  rw[ec]
  refine ao ⟨rfl,cs++[c],?_,by simp,by rw[FZ,ca];simp [hc]⟩
  rw[Dr,Dr];rfl
 obtain⟨rfl,cs,rfl,lc,ca⟩:=I
 rw[dD] at lc
 have jw:Kb (.str "") [.tl ((cs.map fun c=>(⟨#[c]⟩:Str)).map W.str)]=pr (.str (Str.join "" (cs.map fun c=>(⟨#[c]⟩:Str)))):=iq (sz (by
  have e1:("":Str).length=0:=rfl
  have e2:((cs.map fun c=>(⟨#[c]⟩:Str)).map (·.length)).sum=cs.length:=by
   rw[El]
   clear lc ca
   induction cs with
   |nil=>rfl
   |cons c cs ih=>rw[Dj,Ey,ih,Di];show 1+_=_;omega
  rw[e1,e2,Nat.mul_zero];omega))
 have js:(Str.join "" (cs.map fun c=>(⟨#[c]⟩:Str))).cps.toList=cs:=su cs
 generalize (cs.map fun c=>(⟨#[c]⟩:Str))=ss at *
 generalize Str.join "" ss=S at *
 have lS:S.length=N.toNat:=by rw[<-yu,js];exact lc
 simp! only[aa,jw]
 refine cE ?_
 have eM:MM.toNat=many:=by omega
 simp! only[aa,fW (show (-(2 ^ 62):Int)<=MM by omega) (show MM<2 ^ 62 by omega)]
 refine kJ (I:=fun i ρ h1=> ∃b c d e,∃l:List Str,ρ=[some (.int hd),some (.int k),some (.int MM),some (.str LTS),some T,some (.int N),some (.str S),some (.loc h'.length),b,c,d,e]/\h1.length=h'.length+1/\(∀j,j<h'.length->h1[j]?=h'[j]?)/\h1[h'.length]?=some (.lst (l.map W.str))/\l.length=i/\l.Nodup/\ ∀x∈l,af x=true) ⟨_,_,_,_,[],rfl,by simp,fun j hj=>DS hj,cH,rfl,List.nodup_nil,fun x hx=>absurd hx DO⟩ (fun _ _ _ _=>trivial) (fun i w ρ h1 hw I=>?_) fun ρ h1 I=>?_
 ·obtain⟨b,c,d,e,l,rfl,l1,q1,q2,rfl,nd,na⟩:=I
  obtain⟨rfl,hi⟩:=eX _ _ _ _ hw
  rw[eM] at hi
  refine⟨_,rfl,?_⟩
  obtain⟨n,hn⟩: ∃n:Int,n=MJ hd (k+9+(0+(l.length:Int))):=⟨_,rfl⟩
  have n0:0<=n:=by rw[hn];exact nG _ _
  obtain⟨at',hat⟩: ∃v:Int,v=n % N:=⟨_,rfl⟩
  have t0:0<=at':=by rw[hat];exact DG _ (by omega)
  have t1:at'<N:=by rw[hat];exact DJ _ (by omega)
  obtain⟨lc',hl,el⟩:=lett (n / 8)
  have lS':S.cps.toList.length=N.toNat:=lS
  have zS:S.length<=sizeLine:=by rw[lS];exact sz (by omega)
  have s1:=StrLaws.sliceText_to (x:=S) (j:=at') ⟨t0,by omega⟩
  have s2:=StrLaws.sliceText_from (x:=S) (i:=at'+1) ⟨by omega,by omega⟩
  have s3:=StrLaws.sliceText_to (x:=S) (j:=at'+1) ⟨by omega,by omega⟩
  have sub: ∀ {a:List Nat},(∀x∈a,x∈S.cps.toList)->a.all JY=true:=fun h=>DC.mpr fun x hx=>DC.mp ca x (js▸h x hx)
  have g3:Lts (StrLaws.sliceText S none (some (at'+1))):=by
   rw[s3]
   refine⟨sub fun x hx=>EA (Eb hx),?_,?_⟩
   ·show 1<=(List.take (at'+1 - 0).toNat (List.drop 0 S.cps.toList)).length
    rw[DH,Ek];omega
   ·show (List.take (at'+1 - 0).toNat (List.drop 0 S.cps.toList)).length<=8
    rw[DH,Ek];omega
  have la:(StrLaws.sliceText S none (some at')).length=at'.toNat:=by
   rw[s1]
   show (List.take (at' - 0).toNat (List.drop 0 S.cps.toList)).length=_
   rw[DH,Ek];omega
  have lb:(StrLaws.sliceText S (some (at'+1)) none).length=N.toNat - 1 - at'.toNat:=by
   rw[s2]
   show (List.take _ (List.drop (at'+1).toNat S.cps.toList)).length=_
   rw[DH,DT];omega
  have lo:(⟨#[lc']⟩:Str).length=1:=rfl
  have g4:Lts (StrLaws.sliceText S none (some at')++⟨#[lc']⟩++StrLaws.sliceText S (some (at'+1)) none):=by
   refine⟨?_,by rw[Mv,Mv];omega,by rw[Mv,Mv];omega⟩
   rw[aO,aO,FZ,FZ,s1,s2,sub (fun x hx=>EA (Eb hx)),sub (fun x hx=>EA (Eb hx))]
   show (true && [lc'].all JY && true)=true
   simp [hl]
  have w1:=gj (z:=S) (lo:=none) (hi:=some at') zS
  have w2:=gj (z:=S) (lo:=some (at'+1)) (hi:=none) zS
  have w3:=gj (z:=S) (lo:=none) (hi:=some (at'+1)) zS
  generalize StrLaws.sliceText S none (some at')=X1 at *
  generalize StrLaws.sliceText S (some (at'+1)) none=X2 at *
  generalize StrLaws.sliceText S none (some (at'+1))=X3 at *
  have el:ixW (.str LTS) (.int (n / 8 % 26))=pr (.str ⟨#[lc']⟩):=el
  have tail: ∀ {z:Str} (a10:Option W),Lts z->Ok (bN [some (.int hd),some (.int k),some (.int MM),some (.str LTS),some T,some (.int N),some (.str S),some (.loc h'.length),some (.int (0+(l.length:Int))),some (.int n),a10,some (.str z)]) h1 fun x h2=> ∃r',x=.nx r'/\ ∃b c d e,∃l2:List Str,r'=[some (.int hd),some (.int k),some (.int MM),some (.str LTS),some T,some (.int N),some (.str S),some (.loc h'.length),b,c,d,e]/\h2.length=h'.length+1/\(∀j,j<h'.length->h2[j]?=h'[j]?)/\h2[h'.length]?=some (.lst (l2.map W.str))/\l2.length=l.length+1/\l2.Nodup/\ ∀x∈l2,af x=true:=fun{z} a10 g=>by
   rw[<-hT]
   refine (CW _ _ _ _ _ _ a10 q2 g nd (by omega) n0).imp fun x h2 qz=>?_
   obtain⟨y,ex,y1,y2,eh⟩:=qz
   subst eh
   refine⟨_,ex,_,_,_,_,l++[y],rfl,by rw[DN];exact l1,fun j hj=>by rw[Do (by omega)];exact q1 j hj,cn q2,by simp,?_,fun x hx=>?_⟩
   ·rw[Fw]
    refine⟨nd,by simp,fun a ha b hb e=>y1 ?_⟩
    have hb:b=y:=by simpa using hb
    exact hb▸e▸ha
   ·rcases DE.mp hx with hx|hx
    ·exact na x hx
    ·rw[DI.mp hx];exact y2
  simp! only[aa,bb (show (0:Int)<=k+9+(0+(l.length:Int)) by omega)]
  rw[<-hn]
  simp! only[aa,ah (show 0<N by omega)]
  rw[<-hat]
  simp! only[aa,w1,w2,w3,aH (show (0:Int)<8 by decide) (by decide),aH (show (0:Int)<208 by decide) (by decide),ah (show (0:Int)<26 by decide),ah (show (0:Int)<4 by decide),el,adS (a:=X1) (b:=(⟨#[lc']⟩:Str)) (by omega),adS (a:=X1++⟨#[lc']⟩) (b:=X2) (by rw[Mv];omega)]
  by_cases c4:n / 208 % 4=0
  ·simp! only[aa,decide_eq_true c4,w3]
   exact tail _ g3
  ·simp! only[aa,decide_eq_false c4]
   exact tail _ g4
 ·obtain⟨b,c,d,e,l,rfl,l1,q1,q2,ll,nd,na⟩:=I
  rw[dD,eM] at ll
  simp!
  refine oa q2 ?_
  simp!
  exact ao ⟨⟨l,rfl,ll,nd,na⟩,fun i hi=>by rw[Do (by omega)];exact q1 i hi,by rw[DN,l1];omega⟩
end
section
open Wd
theorem sd {l:List W}(p:∀x∈l,Pd 49 x):neW (.tl l) (.tl [])=pr (.bl (!l.isEmpty)):=by
 funext h
 obtain⟨ds,e,c⟩:=kI (h:=h) l fun x hx=>(p x hx).data
 have d1:IH h 50 (.tl l)=some (.list ds):=by
  show (Lm (IH h 49) l).map HD.list=_
  rw[e];rfl
 have d2:IH h 50 (.tl [])=some (.list []):=rfl
 have ee:eqB (.tl l) (.tl []) h=some l.isEmpty:=by
  unfold eqB
  rw[show vOf (.tl l)=none from rfl]
  dsimp only
  rw[d1,d2]
  dsimp only
  rw[if_pos ⟨by rw[HD.canLay0];exact c,by rw[HD.canLay0];rfl⟩,HD.eqv]
  cases l with
  |nil=>
   cases e
   rw[HD.eqvAll];rfl
  |cons x l=>
   cases ds with
   |nil=>
    unfold Lm at e
    split at e
    ·cases e
    ·cases e
   |cons d ds=>rw[HD.eqvAll]<;>simp
 unfold neW
 rw[ee];rfl
theorem uJ {z:Str}(h:∀c∈z.cps.toList,c<1114112):HD.strOk z=true:=by
 unfold HD.strOk
 rw[<-Array.all_toList,DC]
 exact fun c hc=>decide_eq_true (h c hc)
theorem j2 {z:Str}(h:af z=true):HD.strOk z=true:=by
 unfold af at h
 simp only[Dx,DC] at h
 exact uJ fun c hc=>by have:=(JZ.mp (h.2.1 c hc)).2;omega
theorem pz {ns:List Str}{n:Nat}(h:∀x∈ns,af x=true): ∀x∈ns.map W.str,Pd (n+1) x:=fun x hx=>by
 obtain⟨z,hz,rfl⟩:=DV.mp hx
 exact .str (j2 (h z hz))
structure EG (ns:List Str)(d:Nat)(e:Exp):Prop where
 g:HY e
 n: ∀x∈IP e,x∈ns
 dp:IN e<=d
 s:szE e<=2 ^ d
theorem zt {v:Int}(h0:0<=v)(h1:v<2): ∃m:Int,ixW (.tl [.int 10,.int 1000]) (.int v)=pr (.int m)/\0<m/\m<=1000:=by
 have:v=0\/v=1:=by omega
 rcases this with rfl|rfl
 ·exact⟨10,bM rfl,by decide,by decide⟩
 ·exact⟨1000,bM rfl,by decide,by decide⟩
theorem KZ {ns:List Str}{x N:Int}(hN:N=(ns.length:Int))(l1:1<=ns.length): ∃s∈ns,ixW (.tl (ns.map W.str)) (.int (x % N))=pr (.str s):=by
 have a0:=DG x (show N≠0 by omega)
 have a1:=DJ x (show 0<N by omega)
 have hi:(x % N).toNat<ns.length:=by omega
 exact⟨ns[(x % N).toNat],Fx _,bM (aE a0 (by rw[DA,DR hi];rfl))⟩
theorem yv {ns:List Str}(n:Int)(nm: ∀x∈ns,af x=true)(l4:ns.length<=4)(d:Nat): ∃e,gH [.int n,.tl (ns.map W.str)]=pr (IS e)/\EG ns d e:=by
 have e0:gH [.int n,.tl (ns.map W.str)]=bd (gE [some (.int n),some (.tl (ns.map W.str))]) IV:=rfl
 rw[e0]
 unfold gE
 have ne:=sd (pz (n:=48) nm)
 have v0:=DG (n / 2) (show (5:Int)≠0 by decide)
 have v1:=DJ (n / 2) (show (0:Int)<5 by decide)
 obtain⟨m,em,m0,m1⟩:=zt (v:=n / 2 % 5 / 4) (by omega) (by omega)
 have w0:=DG (n / 10) (show m≠0 by omega)
 have w1:=DJ (n / 10) m0
 have p2:1<=2 ^ d:=Nat.one_le_two_pow
 have num:EG ns d (.num (n / 10 % m)):=⟨⟨w0,by omega⟩,fun x hx=>absurd hx DO,DB _,p2⟩
 obtain⟨N,hN⟩: ∃N:Int,N=(ns.length:Int):=⟨_,rfl⟩
 have eL:Km [.tl (ns.map W.str)]=pr (.int N):=by rw[lenW_tl,Dh,hN]
 by_cases c:n % 2=0
 ·cases hs:ns with
  |nil=>
   subst hs
   refine⟨_,?_,num⟩
   have ne:neW (.tl (([]:List Str).map W.str)) (.tl [])=pr (.bl false):=ne
   simp! only[aa,ah (show (0:Int)<2 by decide),decide_eq_true c,ne,aH (show (0:Int)<2 by decide) (by decide),ah (show (0:Int)<5 by decide),aH (show (0:Int)<4 by decide) (by decide),aH (show (0:Int)<10 by decide) (by decide),em,ah m0]
   rfl
  |cons a r=>
   obtain⟨s,hm,ei⟩:=KZ (x:=n / 2) hN (by rw[hs];simp)
   have ne:neW (.tl (ns.map W.str)) (.tl [])=pr (.bl true):=by rw[ne,hs];rfl
   rw[<-hs]
   refine⟨.box s,?_,nm s hm,fun x hx=>by rw[DI.mp hx];exact hm,DB _,p2⟩
   have N0:0<N:=by rw[hN,hs];simp
   generalize W.tl (ns.map W.str)=T at *
   simp! only[aa,ah (show (0:Int)<2 by decide),decide_eq_true c,ne,aH (show (0:Int)<2 by decide) (by decide),eL,ah N0,ei]
   rfl
 ·refine⟨_,?_,num⟩
  generalize W.tl (ns.map W.str)=T at *
  simp! only[aa,ah (show (0:Int)<2 by decide),decide_eq_false c,aH (show (0:Int)<2 by decide) (by decide),ah (show (0:Int)<5 by decide),aH (show (0:Int)<4 by decide) (by decide),aH (show (0:Int)<10 by decide) (by decide),em,ah m0]
  rfl
theorem sgn3 {v:Int}(h0:0<=v)(h1:v<3): ∃s:Str,ixW (.str "+-*") (.int v)=pr (.str s)/\(s= "+"\/s= "-"\/s= "*"):=by
 have:v=0\/v=1\/v=2:=by omega
 have l3:("+-*":Str).length<=sizeLine:=sz (show 3<=_ by omega)
 rcases this with rfl|rfl|rfl
 ·exact⟨"+",by rw[nV];exact fu l3 (by decide+kernel),.inl rfl⟩
 ·exact⟨"-",by rw[kR];exact fu l3 (by decide+kernel),.inr (.inl rfl)⟩
 ·exact⟨"*",by rw[nH];exact fu l3 (by decide+kernel),.inr (.inr rfl)⟩
theorem nA {ns:List Str}(c:Int)(nm: ∀x∈ns,af x=true)(l4:ns.length<=4): ∀ (m d:Nat) (k:Int) (D:Int),D=(d:Int)->d<m->0<=k-> ∃e,da m [.int c,.int k,.int D,.tl (ns.map W.str)]=pr (IS e)/\EG ns d e
 |0,d,k,D,_,h,_=>absurd h (EZ _)
 |m+1,d,k,D,hD,hm,k0=>by
  have e0:da (m+1) [.int c,.int k,.int D,.tl (ns.map W.str)]=bd (gC (da m) [some (.int c),some (.int k),some (.int D),some (.tl (ns.map W.str)),none,none,none]) IV:=rfl
  rw[e0]
  unfold gC
  obtain⟨n,hn⟩: ∃n:Int,n=MJ c k:=⟨_,rfl⟩
  have st:=bb (c:=c) k0
  rw[<-hn] at st
  obtain⟨e1,h1,g1⟩:=yv (n / 3) nm l4 d
  by_cases c0:D=0\/n % 3=0
  ·refine⟨e1,?_,g1⟩
   generalize W.tl (ns.map W.str)=T at *
   by_cases cD:D=0
   ·simp! only[aa,st,decide_eq_true cD,aH (show (0:Int)<3 by decide) (by decide),h1]
   ·have c3:n % 3=0:=c0.resolve_left cD
    simp! only[aa,st,decide_eq_false cD,ah (show (0:Int)<3 by decide),decide_eq_true c3,aH (show (0:Int)<3 by decide) (by decide),h1]
  ·have cD: ¬D=0:=fun z=>c0 (.inl z)
   have c3: ¬n % 3=0:=fun z=>c0 (.inr z)
   have v0:=DG (n / 3) (show (3:Int)≠0 by decide)
   have v1:=DJ (n / 3) (show (0:Int)<3 by decide)
   obtain⟨s,es,hs⟩:=sgn3 v0 v1
   obtain⟨d,rfl⟩: ∃d',d=d'+1:=⟨d - 1,by omega⟩
   obtain⟨l,hl,gl⟩:=nA c nm l4 m d (2 * k+1) (D - 1) (by omega) (by omega) (by omega)
   obtain⟨r,hr,gr⟩:=nA c nm l4 m d (2 * k+2) (D - 1) (by omega) (by omega) (by omega)
   refine⟨.bin s l r,?_,⟨hs,gl.g,gr.g⟩,fun x hx=>?_,?_,?_⟩
   ·generalize W.tl (ns.map W.str)=T at *
    simp! only[aa,st,decide_eq_false cD,ah (show (0:Int)<3 by decide),decide_eq_false c3,aH (show (0:Int)<3 by decide) (by decide),es,fY (om (i:=2) (j:=k) (by decide) (by decide)),hl,hr]
    rfl
   ·rcases DE.mp hx with hx|hx
    ·exact gl.n x hx
    ·exact gr.n x hx
   ·have:=gl.dp;have:=gr.dp
    show 1+max (IN l) (IN r)<=d+1
    omega
   ·have:=gl.s;have:=gr.s
    show szE l+szE r<=2 ^ (d+1)
    rw[Nat.pow_succ];omega
end
section
open Wd
theorem pU (s:Str):decide (s∈(["+", "-"]:List Str))=J1 s:=by
 unfold J1
 by_cases a:s= "+"
 ·subst a;decide+kernel
 ·by_cases b:s= "-"
  ·subst b;decide+kernel
  ·have a':(("+":Str)==s)=false:=beq_eq_false_iff_ne.mpr fun z=>a z.symm
   have b':(("-":Str)==s)=false:=beq_eq_false_iff_ne.mpr fun z=>b z.symm
   rw[a',b',decide_eq_false (by simp [a,b])];rfl
theorem zg (e:Exp):ixW (IS e) (.int 0)=pr (.str (hdS e)):=by cases e<;>exact ix0 ..
def bL (fr:List W->M W):HU->M Fl:=(sIf (mOr (Ks (mB (m2 eqW (m2 ixW (KL 0) (mC (.int 0))) (mC (.str "*")))) (mB (m2 inW (m2 ixW (m2 ixW (KL 0) (mC (.int 1))) (mC (.int 0))) (mTl (Kl (Kw (mC (.str "+")) (Kw (mC (.str "-")) KB))))))) (mB (m2 eqW (m2 KQ (KL 1) (mC (.int 5))) (mC (.int 1))))) (L8 2 (m2 Il (m2 Il (mC (.str "(")) (KL 2)) (mC (.str ")")))) LY)
def bR (fr:List W->M W):HU->M Fl:=(sIf (mOr (mB (m2 inW (m2 ixW (m2 ixW (KL 0) (mC (.int 2))) (mC (.int 0))) (mTl (Kl (Kw (mC (.str "+")) (Kw (mC (.str "-")) KB)))))) (mOr (Ks (mB (m2 eqW (m2 ixW (KL 0) (mC (.int 0))) (mC (.str "*")))) (mB (m2 eqW (m2 ixW (m2 ixW (KL 0) (mC (.int 2))) (mC (.int 0))) (mC (.str "*"))))) (mB (m2 eqW (m2 KQ (KL 1) (mC (.int 7))) (mC (.int 1)))))) (L8 3 (m2 Il (m2 Il (mC (.str "(")) (KL 3)) (mC (.str ")")))) LY)
theorem jx (fr:List W->M W):bW fr=(L7 (sIf (mB (m2 eqW (Ku Km (Kw (KL 0) KB)) (mC (.int 2)))) (L3 (Ku MO (Kw (m2 ixW (KL 0) (mC (.int 1))) KB))) LY) (L7 (L8 2 (Ku (arW 2 fr) (Kw (m2 ixW (KL 0) (mC (.int 1))) (Kw (m2 IU (KL 1) (mC (.int 2))) KB)))) (L7 (L8 3 (Ku (arW 2 fr) (Kw (m2 ixW (KL 0) (mC (.int 2))) (Kw (m2 IU (KL 1) (mC (.int 3))) KB)))) (L7 (bL fr) (L7 (bR fr) (L3 (m2 Il (m2 Il (KL 2) (m2 ixW (KL 0) (mC (.int 0)))) (KL 3)))))))):=rfl
theorem CY (fr:List W->M W){s x y:Str}{l r:Exp}{more:Int}(hx:x.length<=1000):bL fr [some (.tup [.str s,IS l,IS r]),some (.int more),some (.str x),some (.str y)]=pr (.nx [some (.tup [.str s,IS l,IS r]),some (.int more),some (.str (brk (lBr s l more) x)),some (.str y)]):=by
 have p1:("(":Str).length=1:=by decide+kernel
 have p2:(")":Str).length=1:=by decide+kernel
 have il: ∀h:Str,inW (.str h) (.tl [.str "+",.str "-"])=pr (.bl (J1 h)):=fun h=>by rw[<-pU];exact j5 (ss:=["+", "-"])
 unfold bL lBr
 have a1:=adS (a:= "(") (b:=x) (by omega)
 have a2:=adS (a:= "("++x) (b:= ")") (by rw[Mv];omega)
 cases c1:decide (s= "*")<;>cases c2:J1 (hdS l)<;>cases c3:decide (more % 5=1)<;>
  (simp! only[aa,ix0,ix1,zg,il,c1,c2,c3,ah (show (0:Int)<5 by decide),a1,a2])<;>rfl
theorem CU (fr:List W->M W){s x y:Str}{l r:Exp}{more:Int}(hy:y.length<=1000):bR fr [some (.tup [.str s,IS l,IS r]),some (.int more),some (.str x),some (.str y)]=pr (.nx [some (.tup [.str s,IS l,IS r]),some (.int more),some (.str x),some (.str (brk (rBr s r more) y))]):=by
 have p1:("(":Str).length=1:=by decide+kernel
 have p2:(")":Str).length=1:=by decide+kernel
 have il: ∀h:Str,inW (.str h) (.tl [.str "+",.str "-"])=pr (.bl (J1 h)):=fun h=>by rw[<-pU];exact j5 (ss:=["+", "-"])
 unfold bR rBr
 have a1:=adS (a:= "(") (b:=y) (by omega)
 have a2:=adS (a:= "("++y) (b:= ")") (by rw[Mv];omega)
 cases c1:decide (s= "*")<;>cases c2:J1 (hdS r)<;>cases c3:decide (hdS r= "*")<;>cases c4:decide (more % 7=1)<;>
  (simp! only[aa,ix0,ix2,zg,il,c1,c2,c3,c4,ah (show (0:Int)<7 by decide),a1,a2])<;>rfl
theorem Kk:decide (((0+1+1:Nat):Int)=2)=true/\decide (((0+1+1+1:Nat):Int)=2)=false:=by decide
theorem jj: ∀ (m:Nat) (e:Exp) (more:Int),IN e<m->HY e->szE e<=50->aI m [IS e,.int more]=pr (.str (wdS e more))
 |0,e,more,h,_,_=>absurd h (EZ _)
 |m+1,.num n,more,_,g,_=>by
  have e0:aI (m+1) [IS (.num n),.int more]=bd (bW (aI m) [some (.tup [.str "number",.int n]),some (.int more),none,none]) IV:=rfl
  rw[e0]
  unfold bW
  have g:0<=n/\n<=999:=g
  have sn:MO [.int n]=pr (.str (toString n)):=o5 (by
   have:n.natAbs<2 ^ 1920:=Dv (show n.natAbs<2 ^ 10 by omega) (F2 (by omega) (show 10<=1920 by omega))
   by_cases z:n.natAbs=0
   ·rw[z];decide
   ·exact (Fj z).mpr this)
  simp! only[aa,ix1,sn,Kk.1]
  rfl
 |m+1,.box x,more,_,g,_=>by
  have e0:aI (m+1) [IS (.box x),.int more]=bd (bW (aI m) [some (.tup [.str "box",.str x]),some (.int more),none,none]) IV:=rfl
  rw[e0]
  unfold bW
  have sn:MO [.str x]=pr (.str x):=rfl
  simp! only[aa,ix1,sn,Kk.1]
  rfl
 |m+1,.bin s l r,more,h,g,z=>by
  have e0:aI (m+1) [IS (.bin s l r),.int more]=bd (bW (aI m) [some (.tup [.str s,IS l,IS r]),some (.int more),none,none]) IV:=rfl
  rw[e0,jx]
  have h:1+max (IN l) (IN r)<m+1:=h
  have z:szE l+szE r<=50:=z
  obtain⟨g1,g2,g3⟩:=g
  have h1:=jj m l (more / 2) (by omega) g2 (by omega)
  have h2:=jj m r (more / 3) (by omega) g3 (by omega)
  have z1:=kg (more / 2) g2
  have z2:=kg (more / 3) g3
  have b1:=CY (aI m) (s:=s) (l:=l) (r:=r) (more:=more) (x:=wdS l (more / 2)) (y:=wdS r (more / 3)) (by omega)
  have b2:=CU (aI m) (s:=s) (l:=l) (r:=r) (more:=more) (x:=brk (lBr s l more) (wdS l (more / 2))) (y:=wdS r (more / 3)) (by omega)
  have k1:=j9 (lBr s l more) (wdS l (more / 2))
  have k2:=j9 (rBr s r more) (wdS r (more / 3))
  have ls:s.length<=1:=by rcases g1 with rfl|rfl|rfl<;>decide+kernel
  have a1:=adS (a:=brk (lBr s l more) (wdS l (more / 2))) (b:=s) (by omega)
  have a2:=adS (a:=brk (lBr s l more) (wdS l (more / 2))++s) (b:=brk (rBr s r more) (wdS r (more / 3))) (by rw[Mv];omega)
  simp! only[aa,ix0,ix1,ix2,Kk.2,aH (show (0:Int)<2 by decide) (by decide),aH (show (0:Int)<3 by decide) (by decide),h1,h2,b1,b2,a1,a2]
  rfl
theorem lp1:("(":Str)=⟨#[40]⟩:=by decide+kernel
theorem rp1:(")":Str)=⟨#[41]⟩:=by decide+kernel
theorem BK {a b:Nat}:decide ((⟨#[a]⟩:Str)=⟨#[b]⟩)=decide (a=b):=by
 rw[decide_eq_decide]
 exact⟨fun h=>by simpa using congrArg (fun z:Str=>z.cps.toList) h,fun h=>by rw[h]⟩
theorem mxW (i j:Int):KO [.int i,.int j]=pr (.int (if j>i then j else i)):=rfl
theorem yM {h:List Ob}(z:Str)(hz:z.length<=1000):Ok (eA [.str z]) h fun w h'=>w=.int (IJ z)/\h'=h:=by
 have e0:eA [.str z]=bd (dZ [some (.str z),none,none,none]) IV:=rfl
 rw[e0]
 unfold dZ
 simp!
 refine kJ (I:=fun i ρ h'=>(∃a,ρ=[some (.str z),some (.int ((z.cps.toList.take i).foldl cW (0,0)).1),some (.int ((z.cps.toList.take i).foldl cW (0,0)).2),a])/\h'=h) ⟨⟨_,rfl⟩,rfl⟩ (fun _ _ _ _=>trivial) (fun i w ρ h1 hw I=>?_) fun ρ h1 I=>?_
 ·obtain⟨⟨a,rfl⟩,rfl⟩:=I
  unfold Iy at hw
  rw[DA] at hw
  obtain⟨c,hc,rfl⟩:=DX.mp hw
  refine⟨_,rfl,?_⟩
  have st:(z.cps.toList.take (i+1)).foldl cW (0,0)=cW ((z.cps.toList.take i).foldl cW (0,0)) c:=by
   rw[Ee,hc,Fu];rfl
  rw[st]
  generalize (z.cps.toList.take i).foldl cW (0,0)=x at *
  have iw: ∀b:Bool,JP [.bl b]=pr (.int (if b then 1 else 0)):=fun b=>rfl
  simp!
  rw[lp1,rp1]
  simp! only[aa,iw,BK,mxW]
  refine ao ⟨_,rfl,⟨some (.str ⟨#[c]⟩),?_⟩,rfl⟩
  have e1:x.1+(if decide (c=40)=true then 1 else 0) - (if decide (c=41)=true then 1 else 0)=(cW x c).1:=by
   unfold cW
   dsimp only
   by_cases c1:c=40
   ·subst c1;simp
   ·by_cases c2:c=41
    ·subst c2;simp
    ·simp [c1,c2]
  have e2:(cW x c).2=if (cW x c).1>x.2 then (cW x c).1 else x.2:=rfl
  rw[e1,<-e2]
 ·obtain⟨⟨a,rfl⟩,rfl⟩:=I
  have:(Iy z).length=z.cps.toList.length:=by unfold Iy;rw[Dh]
  rw[this,Ed]
  simp!
  exact ao ⟨rfl,rfl⟩
structure XG (ns:List Str)(z:Str)(e:Exp):Prop where
 w:Wrd z e
 n: ∀x∈IP e,x∈ns
 g:HY e
 dp:IN e<=3
theorem oC: ∀ {e:Exp},HY e->IQ e=true
 |.num _,g=>decide_eq_true ⟨g.1,by have:=g.2;omega⟩
 |.box _,_=>rfl
 |.bin s l r,g=>by
  obtain⟨g1,g2,g3⟩:=g
  show (decide (s∈(["+", "-", "*"]:List Str)) && (IQ l && IQ r))=true
  rw[oC g2,oC g3,decide_eq_true (by rcases g1 with rfl|rfl|rfl<;>simp)];rfl
theorem vI: ∀e:Exp,(IP e).length<=szE e
 |.num _=>DB _
 |.box _=>Dl _
 |.bin s l r=>by
  have:=vI l;have:=vI r
  show (IP l++IP r).length<=szE l+szE r
  rw[Dk];omega
theorem nu: ∀ {e:Exp} (more:Int),HY e-> ∀c∈(wdS e more).cps.toList,40<=c/\c<=122
 |.num n,more,h,c,hc=>by
  obtain⟨h0,h9⟩:=h
  obtain⟨k,rfl⟩: ∃k:Nat,n=(k:Int):=⟨n.toNat,by omega⟩
  obtain⟨g1,_⟩:=iW k (by omega)
  unfold K1 at g1
  simp only[Dx,DC] at g1
  have:=JX.mp (g1.2.2 c hc)
  omega
 |.box x,more,h,c,hc=>by
  have h:af x=true:=h
  unfold af at h
  simp only[Dx,DC] at h
  have:=JZ.mp (h.2.1 c hc)
  omega
 |.bin s l r,more,h,c,hc=>by
  obtain⟨g1,g2,g3⟩:=h
  have bk: ∀ (b:Bool) (x:Str),(∀c∈x.cps.toList,40<=c/\c<=122)-> ∀c∈(brk b x).cps.toList,40<=c/\c<=122:=fun b x q c hc=>by
   rw[fj] at hc
   split at hc
   ·rcases Dp.mp hc with rfl|hc
    ·omega
    ·rcases DE.mp hc with hc|hc
     ·exact q c hc
     ·rw[DI.mp hc];omega
   ·exact q c hc
  have hc:c∈(brk (lBr s l more) (wdS l (more / 2))++s++brk (rBr s r more) (wdS r (more / 3))).cps.toList:=hc
  rw[gL,gL,DE,DE] at hc
  rcases hc with (hc|hc)|hc
  ·exact bk _ _ (nu (more / 2) g2) c hc
  ·have: ∀k,s=⟨#[k]⟩->c=k:=fun k e=>by rw[e] at hc;simpa using hc
   rcases g1 with e|e|e
   ·have:=this 43 (e.trans nV);omega
   ·have:=this 45 (e.trans kR);omega
   ·have:=this 42 (e.trans nH);omega
  ·exact bk _ _ (nu (more / 3) g3) c hc
theorem seven:XG [] "7" (.num 7):=⟨⟨by decide+kernel,.of (by decide+kernel),rfl,by decide,by decide⟩,fun x hx=>absurd hx DO,⟨by decide,by decide⟩,by decide⟩
theorem XG.mono {ns:List Str}{z:Str}{e:Exp}(h:XG [] z e):XG ns z e:=⟨h.w,fun x hx=>absurd (h.n x hx) DO,h.g,h.dp⟩
theorem oH {h:List Ob}{ns:List Str}(c k:Int)(k0:0<=k)(nm: ∀x∈ns,af x=true)(l4:ns.length<=4):Ok (dP [.int c,.int k,.tl (ns.map W.str)]) h fun w h'=>(∃z e,w=.tl [.str z,IS e]/\XG ns z e)/\h'=h:=by
 have e0:dP [.int c,.int k,.tl (ns.map W.str)]=bd (gF [some (.int c),some (.int k),some (.tl (ns.map W.str)),none,none,none]) IV:=rfl
 rw[e0]
 unfold gF
 obtain⟨D,hD⟩: ∃D:Int,D=MJ c (k+90) % 4:=⟨_,rfl⟩
 have d0:0<=D:=by rw[hD];exact DG _ (by decide)
 have d1:D<4:=by rw[hD];exact DJ _ (by decide)
 obtain⟨e,he,g⟩:=nA c nm l4 5 D.toNat k D (by omega) (by omega) k0
 have gd':=g.dp
 have gs:=g.s
 have p8:2 ^ D.toNat<=2 ^ 3:=F2 (by omega) (by omega)
 have m0:=nG c (k+91)
 have s90:=bb (c:=c) (show 0<=k+90 by omega)
 have s91:=bb (c:=c) (show 0<=k+91 by omega)
 generalize MJ c (k+91)=mo at *
 obtain⟨TW,hT⟩: ∃T,T=W.tl (ns.map W.str):=⟨_,rfl⟩
 rw[<-hT] at he ⊢
 simp! only[aa,s90,ah (show (0:Int)<4 by decide)]
 rw[<-hD]
 obtain⟨V,hV⟩: ∃V,V=IS e:=⟨_,rfl⟩
 have wo: ∀mo,aI 5 [V,.int mo]=pr (.str (wdS e mo)):=fun mo=>by rw[hV];exact jj 5 e mo (by omega) g.g (by omega)
 rw[<-hV] at he
 simp! only[aa,he,s91,dU]
 have good: ∀mo,(wdS e mo).length<=60->IJ (wdS e mo)<6->XG ns (wdS e mo) e:=fun mo l60 l6=>by
  have tx:=nD mo g.g
  have wk:=w9 tx.sum tx.deep (by omega)
  have dp:=wk.deep
  refine⟨⟨by rw[wk.expr,if_neg (by omega)],⟨fun hm=>?_,fun hm=>?_,l60⟩,oC g.g,by omega,by have:=vI e;omega⟩,g.n,g.g,by omega⟩
  ·have:=nu mo g.g _ hm;omega
  ·have:=nu mo g.g _ hm;omega
 refine xS (I:=fun i ρ h'=>(∃a b,ρ=[some (.int c),some (.int k),some TW,some V,a,b])/\h'=h) (J:=fun v h'=>(∃z e,v=.tl [.str z,IS e]/\XG ns z e)/\h'=h) ⟨⟨_,_,rfl⟩,rfl⟩ (fun _ _ _ _=>trivial) (fun i w ρ h1 hw I=>?_) (fun ρ h1 I=>?_) fun v h1 J=>?_
 ·obtain⟨⟨a,b,rfl⟩,rfl⟩:=I
  obtain⟨q,rfl⟩: ∃q:Int,w=.int q:=by
   have:=Ea hw
   simp only[Dp,DO,or_false] at this
   rcases this with e|e<;>exact⟨_,e⟩
  refine⟨_,rfl,?_⟩
  have lw:=kg q g.g
  simp! only[aa,wo,pP (z:=wdS e q) (sz (by omega))]
  by_cases c1:(wdS e q).length<=60
  ·simp! only[aa,decide_eq_true (show (((wdS e q).length:Nat):Int)<=60 by omega)]
   refine bP (yM (wdS e q) (by omega)) fun w h2 qq_=>?_
   obtain⟨ew,eh⟩:=qq_
   subst ew eh
   by_cases c2:IJ (wdS e q)<6
   ·simp! only[aa,decide_eq_true c2]
    exact ao (.inr ⟨_,rfl,⟨_,e,by rw[hV],good q c1 c2⟩,rfl⟩)
   ·simp! only[aa,decide_eq_false c2]
    exact ao (.inl ⟨_,rfl,⟨_,_,rfl⟩,rfl⟩)
  ·simp! only[aa,decide_eq_false (show¬(((wdS e q).length:Nat):Int)<=60 by omega)]
   exact ao (.inl ⟨_,rfl,⟨_,_,rfl⟩,rfl⟩)
 ·obtain⟨⟨a,b,rfl⟩,rfl⟩:=I
  simp!
  exact ao ⟨⟨"7",.num 7,rfl,seven.mono⟩,rfl⟩
 ·simp!
  exact ao J
end
section
open Wd
theorem oZ: ∀ {l:List Str},(∀z∈l,z.length<=60)->(l.map (·.length)).sum<=60 * l.length
 |[],_=>by simp
 |z::l,h=>by
  have a:=h z Dt
  have b:=oZ (l:=l) fun z hz=>h z (Dz _ hz)
  rw[Dj,Ey,Di,FY]
  omega
theorem Ms:(HD.strOk "+"=true/\HD.strOk "-"=true/\HD.strOk "*"=true)/\(HD.strOk "say"=true/\HD.strOk "ask"=true/\HD.strOk "put"=true)/\(HD.strOk "go"=true/\HD.strOk "if"=true/\HD.strOk "table"=true/\HD.strOk "stop"=true)/\HD.strOk "<"=true/\HD.strOk "="=true:=by decide+kernel
theorem pdE: ∀ (n:Nat) (e:Exp),IN e+2<=n->HY e->Pd n (IS e)
 |0,_,h,_=>by omega
 |1,_,h,_=>by omega
 |n+2,.num i,_,_=>pd2i tQ
 |n+2,.box x,_,g=>pd2s AA (j2 g)
 |n+2,.bin s l r,h,g=>by
  have h:1+max (IN l) (IN r)+2<=n+2:=h
  obtain⟨g1,g2,g3⟩:=g
  have sk:HD.strOk s=true:=by
   rcases g1 with rfl|rfl|rfl
   ·exact Ms.1.1
   ·exact Ms.1.2.1
   ·exact Ms.1.2.2
  exact pdT (by simp) (be (.str sk) (be (pdE (n+1) l (by omega) g2) (be (pdE (n+1) r (by omega) g3) ik)))
theorem yK {l:List W}(p:∀x∈l,Pd 49 x):eqW (.tl l) (.tl [])=pr (.bl l.isEmpty):=by
 have h:=sd p
 funext hh
 have e:=congrFun h hh
 unfold neW at e
 unfold eqW
 cases q:eqB (.tl l) (.tl []) hh with
 |none=>rw[q] at e;cases e
 |some b=>
  rw[q] at e
  have e:Rs.ok (W.bl (!b)) hh=Rs.ok (W.bl (!l.isEmpty)) hh:=e
  have:(!b)=!l.isEmpty:=by injection e with e _;injection e
  show Rs.ok (W.bl b) hh=Rs.ok (W.bl l.isEmpty) hh
  rw[Bool.not_inj this]
structure SG (bn:List Str)(R:Rr):Prop where
 st:R.stm=true
 ok:R.Ok
 b: ∀x∈R.bxs,x∈bn
 pd:Pd 7 R.form
theorem yq {h:List Ob}{bn:List Str}(c:Int)(nm: ∀x∈bn,af x=true)(l4:bn.length<=4):Ok (cC [.int c,.tl (bn.map W.str)]) h fun w h'=>(∃R:Rr,w=.tl [.str R.tx,R.form]/\SG bn R)/\h'=h:=by
 have e0:cC [.int c,.tl (bn.map W.str)]=bd (c7 [some (.int c),some (.tl (bn.map W.str)),none,none,none,none]) IV:=rfl
 rw[e0]
 unfold c7
 obtain⟨n,hn⟩: ∃n:Int,n=MJ c 0:=⟨_,rfl⟩
 have st:=bb (c:=c) (k:=0) (by decide)
 rw[<-hn] at st
 have ex:=oH (h:=h) c 3 (by decide) nm l4
 have eqn:=yK (pz (n:=48) nm)
 obtain⟨N,hN⟩: ∃N:Int,N=(bn.length:Int):=⟨_,rfl⟩
 have eL:Km [.tl (bn.map W.str)]=pr (.int N):=by rw[lenW_tl,Dh,hN]
 have pk:=fun l1=>KZ (x:=n / 8) hN l1
 have e4:(bn.map W.str).isEmpty=bn.isEmpty:=by cases bn<;>rfl
 rw[e4] at eqn
 generalize W.tl (bn.map W.str)=T at *
 simp! only[aa,st]
 refine bP ex fun w h' qq_=>?_
 obtain⟨⟨z,e,ew,g⟩,eh⟩:=qq_
 subst ew eh
 have zl:=g.w.c.len
 have pe:=pdE 6 e (by have:=g.dp;omega) g.g
 obtain⟨_,k1,k2,k3,k4,_⟩:=ou
 have tg:tgL [3,4] (.tl [.str z,IS e]) [some (.int c),some T,some (.int n),none,none,none]=some [some (.int c),some T,some (.int n),some (.str z),some (IS e),none]:=rfl
 have say: ∀h:List Ob,Ok (bd (Il (.str "say ") (.str z)) fun a=>pr (W.tl [a,.tup [.str "say",IS e]])) h fun w h'=>(∃R:Rr,w=.tl [.str R.tx,R.form]/\SG bn R)/\h'=h:=fun h=>by
  rw[adS (by omega)]
  refine ao ⟨⟨.say z e,by rw[zM];rfl,rfl,g.w,g.n,?_⟩,rfl⟩
  exact pdT (n:=6) (by simp) (be (.str Ms.2.1.1) (be pe ik))
 by_cases c0:n % 4=0
 ·simp! only[aa,tg,ah (show (0:Int)<4 by decide),decide_eq_true c0]
  exact say _
 ·by_cases cb:bn=[]
  ·have eqn:eqW T (.tl [])=pr (.bl true):=by rw[eqn,cb];rfl
   simp! only[aa,tg,ah (show (0:Int)<4 by decide),decide_eq_false c0,eqn]
   exact say _
  ·have l1:1<=bn.length:=E8.mpr cb
   have eqn:eqW T (.tl [])=pr (.bl false):=by rw[eqn,List.isEmpty_eq_false_iff.mpr cb]
   obtain⟨s,hs,es⟩:=pk l1
   have sl:=(bQ (nm s hs)).len
   have N0:0<N:=by omega
   by_cases c1:n % 4=1
   ·simp! only[aa,tg,ah (show (0:Int)<4 by decide),decide_eq_false c0,eqn,aH (show (0:Int)<8 by decide) (by decide),eL,ah N0,es,decide_eq_true c1,adS (a:= "ask ") (b:=s) (by omega)]
    refine ao ⟨⟨.ask s,by rw[BA];rfl,rfl,nm s hs,fun x hx=>by rw[DI.mp hx];exact hs,?_⟩,rfl⟩
    exact pdT (n:=6) (by simp) (be (.str Ms.2.1.2.1) (be (.str (j2 (nm s hs))) ik))
   ·simp! only[aa,tg,ah (show (0:Int)<4 by decide),decide_eq_false c0,eqn,aH (show (0:Int)<8 by decide) (by decide),eL,ah N0,es,decide_eq_false c1,adS (a:= "put ") (b:=s) (by omega),adS (a:= "put "++s) (b:= " ") (by rw[Mv];omega),adS (a:= "put "++s++ " ") (b:=z) (by rw[Mv,Mv];omega)]
    refine ao ⟨⟨.put s z e,by rw[zU];rfl,rfl,⟨nm s hs,g.w⟩,fun x hx=>?_,?_⟩,rfl⟩
    ·rcases Dp.mp hx with rfl|hx
     ·exact hs
     ·exact g.n x hx
    ·exact pdT (n:=6) (by simp) (be (.str Ms.2.1.2.2) (be (.str (j2 (nm s hs))) (be pe ik)))
theorem IF {α:Type}(l:List α){v:Int}(h0:0<=v):ID l none (some v)=l.take v.toNat:=by
 unfold ID
 show List.take ((if v<0 then (v+(l.length:Int)).toNat else min v.toNat l.length) - 0) (l.drop 0)=_
 rw[if_neg (by omega),Ek,Nat.sub_zero]
 by_cases h:v.toNat<=l.length
 ·rw[Nat.min_eq_left h]
 ·rw[Nat.min_eq_right (by omega),Ed,ED (by omega)]
theorem lh {ns:List Str}(nd:ns.Nodup){i:Nat}{x:Str}(h:ns[i]?=some x):J6 ns x=i:=by
 have hm:=Ea h
 obtain⟨e,l⟩:=ud hm
 rw[FU] at e
 obtain⟨l1,e1,_⟩:=e
 refine (List.getElem?_inj l1 nd).mp ?_
 rw[h,DR l1,of_decide_eq_true e1]
structure NG (bn ns:List Str)(R:Rr):Prop where
 en:R.end'=true
 ok:R.Ok
 b: ∀x∈R.bxs,x∈bn
 to: ∀x∈R.tos,x∈ns
 pd:Pd 7 (R.en ns).w
theorem zw (z:Str)(e:Exp)(xs:List Str):(Rr.table z e xs).tx=Str.join " " ("table"::z::xs):=by rw[gR];rfl
theorem JL (s z1 z2 x y:Str)(e1 e2:Exp):(Rr.iff s z1 e1 z2 e2 x y).tx=Str.join " " ["if",z1,s,z2,x, "else",y]:=by rw[gR];rfl
theorem sgn2' {v:Int}(h0:0<=v)(h1:v<2): ∃s:Str,ixW (.str "<=") (.int v)=pr (.str s)/\(s= "<"\/s= "=")/\s.length=1:=by
 have:v=0\/v=1:=by omega
 have l3:("<=":Str).length<=sizeLine:=sz (show 2<=_ by omega)
 have a:("<":Str)=⟨#[60]⟩/\("=":Str)=⟨#[61]⟩:=by decide+kernel
 rcases this with rfl|rfl
 ·exact⟨"<",by rw[a.1];exact fu l3 (by decide+kernel),.inl rfl,by decide+kernel⟩
 ·exact⟨"=",by rw[a.2];exact fu l3 (by decide+kernel),.inr rfl,by decide+kernel⟩
theorem yr {h:List Ob}{bn ns:List Str}(c:Int)(nm: ∀x∈bn,af x=true)(l4:bn.length<=4)(mm: ∀x∈ns,af x=true)(n1:1<=ns.length)(n10:ns.length<=10)(nd:ns.Nodup):Ok (eR [.int c,.tl (bn.map W.str),.tl (ns.map W.str)]) h fun w h'=>(∃R:Rr,w=.tl [.str R.tx,(R.en ns).w]/\NG bn ns R)/\h'=h:=by
 have e0:eR [.int c,.tl (bn.map W.str),.tl (ns.map W.str)]=bd (iC [some (.int c),some (.tl (bn.map W.str)),some (.tl (ns.map W.str)),none,none,none,none,none,none,none,none,none,none]) IV:=rfl
 rw[e0]
 unfold iC
 obtain⟨n,hn⟩: ∃n:Int,n=MJ c 0:=⟨_,rfl⟩
 have n0:0<=n:=by rw[hn];exact nG _ _
 have st:=bb (c:=c) (k:=0) (by decide)
 rw[<-hn] at st
 have ex:=fun h=>oH (h:=h) c 3 (by decide) nm l4
 have ex2:=fun h=>oH (h:=h) c 60 (by decide) nm l4
 obtain⟨N,hN⟩: ∃N:Int,N=(ns.length:Int):=⟨_,rfl⟩
 have N0:0<N:=by omega
 have eL:Km [.tl (ns.map W.str)]=pr (.int N):=by rw[lenW_tl,Dh,hN]
 have at': ∀g:Nat,g<ns.length-> ∃x,ns[g]?=some x/\ixW (.tl (ns.map W.str)) (.int (g:Int))=pr (.str x):=fun g hg=>by
  refine⟨ns[g],DR hg,bM (aE (by omega) ?_)⟩
  rw[DA,Int.toNat_natCast,DR hg];rfl
 generalize W.tl (bn.map W.str)=B at *
 generalize W.tl (ns.map W.str)=T at *
 have g6: ∀ {α:Type} (q:M α),gd ((JR 0 (6:Int).toNat).length<=sizeLine) q=q:=fun q=>ai (by rw[dD];exact sz (by decide))
 simp! only[aa,st,ah (show (0:Int)<6 by decide),fW (show (-(2 ^ 62):Int)<=6 by decide) (show (6:Int)<2 ^ 62 by decide),g6]
 refine fm (I:=fun i a h'=>h'=h/\ ∃gs:List Nat,a=gs.map (fun g:Nat=>W.int (g:Int))/\gs.length=i/\ ∀g∈gs,g<ns.length) ⟨rfl,[],rfl,rfl,fun x hx=>absurd hx DO⟩ gg (fun _ _ _ _=>trivial) (fun i w a h' hw I=>?_) fun a h' I=>?_
 ·obtain⟨rfl,gs,rfl,rfl,hg⟩:=I
  obtain⟨rfl,hi⟩:=eX _ _ _ _ hw
  refine⟨_,rfl,?_⟩
  have a0:=DG (MJ c (40+(0+(gs.length:Int)))) (show N≠0 by omega)
  have a1:=DJ (MJ c (40+(0+(gs.length:Int)))) N0
  simp! only[List.replicate,DY,DU,aa,bb (show (0:Int)<=40+(0+(gs.length:Int)) by omega),eL,ah N0]
  refine ao ⟨rfl,gs++[(MJ c (40+(0+(gs.length:Int))) % N).toNat],?_,by simp,fun g hm=>?_⟩
  ·rw[Dr]
   show _=_++[W.int _]
   rw[Gv a0]
  ·rcases DE.mp hm with hm|hm
   ·exact hg g hm
   ·rw[DI.mp hm];omega
 obtain⟨rfl,gs,rfl,lg,hg⟩:=I
 have lg:gs.length=6:=lg
 obtain⟨a,b,r,rfl⟩: ∃a b r,gs=a::b::r:=by
  cases gs with
  |nil=>simp at lg
  |cons a gs=>cases gs with
   |nil=>simp at lg
   |cons b r=>exact⟨a,b,r,rfl⟩
 obtain⟨xa,ha,ia⟩:=at' a (hg a Dt)
 obtain⟨xb,hb,ib⟩:=at' b (hg b (Dz _ Dt))
 have ma:=Ea ha
 have mb:=Ea hb
 have la:=(bQ (mm xa ma)).len
 have lb:=(bQ (mm xb mb)).len
 have ea:=lh nd ha
 have eb:=lh nd hb
 have j0:ixW (.tl ((a::b::r).map fun g:Nat=>W.int (g:Int))) (.int 0)=pr (.int (a:Int)):=bM (aE (by decide) rfl)
 have j1:ixW (.tl ((a::b::r).map fun g:Nat=>W.int (g:Int))) (.int 1)=pr (.int (b:Int)):=bM (aE (by decide) rfl)
 obtain⟨_,_,_,_,k4,k5,_⟩:=ou
 obtain⟨V,hV⟩: ∃V,V=W.tl ((a::b::r).map fun g:Nat=>W.int (g:Int)):=⟨_,rfl⟩
 rw[<-hV] at j0 j1
 simp!
 rw[<-hV]
 refine bP (ex _) fun w h2 qq_=>?_
 obtain⟨⟨z1,e1,ew,g1⟩,eh⟩:=qq_
 subst ew eh
 have tg: ∀x8 x9:Option W,tgL [6,7] (.tl [.str z1,IS e1]) [some (.int c),some B,some T,some (.int n),some (.int (n % 6)),some V,none,none,none,none,none,none,none]=some [some (.int c),some B,some T,some (.int n),some (.int (n % 6)),some V,some (.str z1),some (IS e1),none,none,none,none,none]:=fun _ _=>rfl
 have z1l:=g1.w.c.len
 have p1:=pdE 6 e1 (by have:=g1.dp;omega) g1.g
 obtain⟨E1,hE1⟩: ∃E,E=IS e1:=⟨_,rfl⟩
 rw[<-hE1] at tg
 simp!
 rw[<-hE1]
 simp! only[aa,tg none none]
 refine bP (ex2 _) fun w h2 qq_=>?_
 obtain⟨⟨z2,e2,ew,g2⟩,eh⟩:=qq_
 subst ew eh
 have z2l:=g2.w.c.len
 have p2:=pdE 6 e2 (by have:=g2.dp;omega) g2.g
 have tg2:tgL [8,9] (.tl [.str z2,IS e2]) [some (.int c),some B,some T,some (.int n),some (.int (n % 6)),some V,some (.str z1),some E1,none,none,none,none,none]=some [some (.int c),some B,some T,some (.int n),some (.int (n % 6)),some V,some (.str z1),some E1,some (.str z2),some (IS e2),none,none,none]:=rfl
 have q0:=DG n (show (6:Int)≠0 by decide)
 have q1:=DJ n (show (0:Int)<6 by decide)
 by_cases c2:n % 6<2
 ·simp! only[aa,tg2,decide_eq_true c2,j0,ia,adS (a:= "go ") (b:=xa) (by omega)]
  refine ao ⟨⟨.go xa,?_,rfl,mm xa ma,fun x hx=>absurd hx DO,fun x hx=>by rw[DI.mp hx];exact ma,?_⟩,rfl⟩
  ·rw[Cv]
   show _=W.tl [_,.tup [.str "go",.int (J6 ns xa:Nat)]]
   rw[ea]
  ·exact pdT (n:=6) (by simp) (be (.str Ms.2.2.1.1) (be .int ik))
 by_cases c4:n % 6<4
 ·have v0:=DG (n / 6) (show (2:Int)≠0 by decide)
  have v1:=DJ (n / 6) (show (0:Int)<2 by decide)
  obtain⟨s,es,hs,ls⟩:=sgn2' v0 v1
  have jw:Kb (.str " ") [.tl [.str "if",.str z1,.str s,.str z2,.str xa,.str "else",.str xb]]=pr (.str (Str.join " " ["if",z1,s,z2,xa, "else",xb])):=by
   refine iq (ts:=["if",z1,s,z2,xa, "else",xb]) (sz ?_)
   have t1:("if":Str).length=2/\("else":Str).length=4:=by decide+kernel
   simp only[Dj,Dm,Ey,List.sum_nil,Di,Ew]
   rw[k4]
   omega
  have sk:HD.strOk s=true:=by
   rcases hs with rfl|rfl
   ·exact Ms.2.2.2.1
   ·exact Ms.2.2.2.2
  simp! only[aa,tg2,decide_eq_false c2,decide_eq_true c4,aH (show (0:Int)<6 by decide) (by decide),ah (show (0:Int)<2 by decide),es,j0,j1,ia,ib,jw]
  refine ao ⟨⟨.iff s z1 e1 z2 e2 xa xb,?_,rfl,⟨hs,g1.w,g2.w,mm xa ma,mm xb mb⟩,fun x hx=>?_,fun x hx=>?_,?_⟩,rfl⟩
  ·rw[JL,hE1]
   show _=W.tl [_,.tup [.str "if",.str s,IS e1,IS e2,.int (J6 ns xa:Nat),.int (J6 ns xb:Nat)]]
   rw[ea,eb]
  ·rcases DE.mp hx with hx|hx
   ·exact g1.n x hx
   ·exact g2.n x hx
  ·rcases Dp.mp hx with rfl|hx
   ·exact ma
   ·rw[DI.mp hx];exact mb
  ·exact pdT (n:=6) (by simp) (be (.str Ms.2.2.1.2.1) (be (.str sk) (be p1 (be p2 (be .int (be .int ik))))))
 by_cases c5:n % 6=4
 ·have v0:=DG (n / 6) (show (6:Int)≠0 by decide)
  have v1:=DJ (n / 6) (show (0:Int)<6 by decide)
  obtain⟨u,hu⟩: ∃u:Int,u=1+n / 6 % 6:=⟨_,rfl⟩
  obtain⟨so,hso⟩: ∃so,so=(a::b::r).take u.toNat:=⟨_,rfl⟩
  have sl:slW V none (some u)=pr (.tl (so.map fun g:Nat=>W.int (g:Int))):=by
   rw[hV,slW_tl,IF _ (by omega),<-Eh,<-hso]
  have sg: ∀g∈so,g<ns.length:=fun g hm=>hg g (by rw[hso] at hm;exact Eb hm)
  have sl6:so.length<=6:=by rw[hso,DH,lg];omega
  have sl1:so≠ []:=by
   rw[hso]
   obtain⟨k,hk⟩: ∃k,u.toNat=k+1:=⟨u.toNat - 1,by omega⟩
   rw[hk];simp
  have tu:iH [.tl (so.map fun g:Nat=>W.int (g:Int))]=pr (.tup (so.map fun g:Nat=>W.int (g:Int))):=ml _
  have gls: ∀ {α:Type} (q:M α),gd ((so.map fun g:Nat=>W.int (g:Int)).length<=sizeLine) q=q:=fun q=>ai (by rw[Dh];exact sz (by omega))
  obtain⟨xs,hxs⟩: ∃xs:List Str,xs=so.map fun g=>ns.getD g "":=⟨_,rfl⟩
  have xat: ∀g,g<ns.length->ns[g]?=some (ns.getD g ""):=fun g hg=>by rw[EY,DR hg];rfl
  have xm: ∀x∈xs,x∈ns:=fun x hx=>by
   rw[hxs] at hx
   obtain⟨g,hm,rfl⟩:=DV.mp hx
   exact Ea (xat g (sg g hm))
  have xl:xs.length<=6:=by rw[hxs,Dh];exact sl6
  have xen:(xs.map fun x=>((J6 ns x:Nat):Int))=so.map fun g:Nat=>(g:Int):=by
   rw[hxs,El]
   refine FR fun g hm=>?_
   show ((J6 ns (ns.getD g ""):Nat):Int)=_
   rw[lh nd (xat g (sg g hm))]
  have jw:Kb (.str " ") [.tl ([W.str "table",W.str z1]++xs.map W.str)]=pr (.str (Str.join " " ("table"::z1::xs))):=by
   refine iq (ts:= "table"::z1::xs) (sz ?_)
   have fs:=oZ (l:=xs) fun z hz=>(bQ (mm z (xm z hz))).len
   have t5:("table":Str).length=5:=by decide+kernel
   simp only[Dj,Ey,Di]
   rw[k4]
   omega
  have gl: ∀ {α:Type} (q:M α),gd (0+1+1+(xs.map W.str).length<=sizeLine) q=q:=fun q=>ai (by rw[Dh];exact sz (by omega))
  simp! only[aa,tg2,decide_eq_false c2,decide_eq_false c4,decide_eq_true c5,aH (show (0:Int)<6 by decide) (by decide),ah (show (0:Int)<6 by decide)]
  rw[<-hu]
  simp! only[aa,sl,Iw,ot,dU,gls]
  refine fm (I:=fun i a h'=>h'=h2/\a=(xs.take i).map W.str) ⟨rfl,rfl⟩ gg (fun _ _ _ _=>trivial) (fun i w a h' hw I=>?_) fun a h' I=>?_
  ·obtain⟨rfl,rfl⟩:=I
   rw[DA] at hw
   obtain⟨g,hm,rfl⟩:=DX.mp hw
   refine⟨_,rfl,?_⟩
   obtain⟨x,hx,ix⟩:=at' g (sg g (Ea hm))
   simp! only[List.replicate,DY,DU,aa,ix]
   refine ao ⟨rfl,?_⟩
   have:xs[i]?=some x:=by
    rw[hxs,DA,hm]
    show some (ns.getD g "")=_
    rw[EY,hx];rfl
   rw[Ee,this,Dr];rfl
  ·obtain⟨rfl,rfl⟩:=I
   have:(so.map fun g:Nat=>W.int (g:Int)).length=xs.length:=by rw[hxs,Dh,Dh]
   rw[this,Ed]
   simp! only[aa,ot,gl,jw,tu]
   refine ao ⟨⟨.table z1 e1 xs,?_,rfl,⟨g1.w,?_,xl,fun x hx=>mm x (xm x hx)⟩,g1.n,xm,?_⟩,rfl⟩
   ·rw[zw,hE1]
    show _=W.tl [_,.tup [.str "table",IS e1,.tup ((xs.map fun x=>((J6 ns x:Nat):Int)).map W.int)]]
    rw[xen,El];rfl
   ·intro z;rw[hxs] at z;exact sl1 (List.map_eq_nil_iff.mp z)
   ·refine pdT (n:=6) (by simp) (be (.str Ms.2.2.1.2.2.1) (be p1 (be (pdT (n:=5) (by rw[Dh,Dh];omega) fun x hx=>?_) ik)))
    obtain⟨i,_,rfl⟩:=DV.mp hx
    exact .int
 ·simp! only[aa,tg2,decide_eq_false c2,decide_eq_false c4,decide_eq_false c5]
  refine ao ⟨⟨.stop,rfl,rfl,trivial,fun x hx=>absurd hx DO,fun x hx=>absurd hx DO,?_⟩,rfl⟩
  exact pdT (n:=6) (by simp) (be (.str Ms.2.2.1.2.2.2) ik)
end
section
open Wd
def blW (ns:List Str)(b:Bt):W:=.tup [.str b.nm,.tl (b.ss.map Rr.form),(b.e.en ns).w]
structure BG (bn ns:List Str)(b:Bt):Prop where
 l:b.ss.length<=8
 s: ∀R∈b.ss,SG bn R
 e:NG bn ns b.e
def bI:HU->M Fl:=(L7 (Ma (tgL [11,12]) (Ku (arW 2 cC) (Kw (m2 Il (Ku (arW 2 ag) (Kw (KL 8) (Kw (m2 Il (mC (.int 610)) (KL 10)) KB))) (KL 10)) (Kw (KL 4) KB)))) (L7 (sEx (Kz isL aR (KL 3) (Kw (KL 11) KB))) (sEx (Kz isL aR (KL 9) (Kw (KL 12) KB)))))
def bO:HU->M Fl:=(L7 (L8 8 (Ku (arW 2 de) (Kw (KL 0) (Kw (m2 Il (mC (.int 1)) (KL 6)) KB)))) (L7 (sEx (Kz isL aR (KL 3) (Kw (m2 Il (mC (.str "block ")) (KL 7)) KB))) (L7 (L8 9 (KA (Kl KB))) (L7 (LX (KI (Kw (m2 ixW (mTl (Kl (Kw (mC (.int 0)) (Kw (mC (.int 1)) (Kw (mC (.int 3)) (Kw (mC (.int 8)) (Kw (m2 KQ (Ku (arW 2 ag) (Kw (KL 8) (Kw (mC (.int 600)) KB))) (mC (.int 9))) KB))))))) (m2 KQ (Ku (arW 2 ag) (Kw (KL 8) (Kw (mC (.int 601)) KB))) (mC (.int 5)))) KB) LI) (tgN 10) bI) (L7 (Ma (tgL [11,12]) (Ku (arW 3 eR) (Kw (m2 Il (Ku (arW 2 ag) (Kw (KL 8) (Kw (mC (.int 602)) KB))) (KL 6)) (Kw (KL 4) (Kw (KL 2) KB))))) (L7 (sEx (Kz isL aR (KL 3) (Kw (KL 11) KB))) (sEx (Kz isL aR (KL 5) (Kw (KJ (Kw (KL 7) (Kw (m1 JK (KL 9)) (Kw (KL 12) KB)))) KB)))))))))
theorem jN:fz=(L7 (L8 3 (KA (Kv [] (KH (KL 1) MF) (tgT [0,1]) KM (m2 Il (m2 Il (m2 Il (mC (.str "box ")) (KL 0)) (mC (.str " "))) (Ku MO (Kw (KL 1) KB))) 3))) (L7 (L8 4 (mTl (Kv [] (KH (KL 1) MF) (tgT [0,1]) KM (KL 0) 3))) (L7 (L8 5 (KA (Kl KB))) (L7 (LX (KI (Kw (KL 2) KB) IL) (tgT [6,7]) bO) (L3 (mTl (Kl (Kw (KL 3) (Kw (KJ (Kw (KL 1) (Kw (KL 5) KB))) KB))))))))):=rfl
theorem C1 {h:List Ob}{jr js:Nat}{L:List Str}{S:List Rr}{bn:List Str}{c j:Int}(a0 a1 a2 a5 a6 a7 a11 a12:Option W)(nm: ∀x∈bn,af x=true)(l4:bn.length<=4)(j0:0<=j)(ne:jr≠js)(er:h[jr]?=some (.lst (L.map W.str)))(es:h[js]?=some (.lst (S.map Rr.form)))(lL:L.length<=200)(lS:S.length<=20):
  Ok (bI [a0,a1,a2,some (.loc jr),some (.tl (bn.map W.str)),a5,a6,a7,some (.int c),some (.loc js),some (.int j),a11,a12]) h fun x h'=> ∃R,SG bn R/\(∃u v,x=.nx [a0,a1,a2,some (.loc jr),some (.tl (bn.map W.str)),a5,a6,a7,some (.int c),some (.loc js),some (.int j),u,v])/\h'=(h.set jr (.lst ((L++[R.tx]).map W.str))).set js (.lst ((S++[R]).map Rr.form)):=by
 unfold bI
 have st:=bb (c:=c) (show 0<=610+j by omega)
 generalize MJ c (610+j)=n at *
 have sk:=yq (h:=h) (n+j) nm l4
 generalize W.tl (bn.map W.str)=T at *
 simp! only[aa,st]
 refine bP sk fun w h' qq_=>?_
 obtain⟨⟨R,ew,g⟩,eh⟩:=qq_
 subst ew eh
 have tg:tgL [11,12] (.tl [.str R.tx,R.form]) [a0,a1,a2,some (.loc jr),some T,a5,a6,a7,some (.int c),some (.loc js),some (.int j),a11,a12]=some [a0,a1,a2,some (.loc jr),some T,a5,a6,a7,some (.int c),some (.loc js),some (.int j),some (.str R.tx),some R.form]:=rfl
 obtain⟨X,hX⟩: ∃X,X=R.tx:=⟨_,rfl⟩
 obtain⟨F,hF⟩: ∃F,F=R.form:=⟨_,rfl⟩
 rw[<-hX,<-hF] at tg
 simp!
 rw[<-hX,<-hF]
 simp! only[aa,tg]
 refine dz er ?_
 simp!
 refine dB er (by rw[Dh];exact Ec lL (by decide)) ?_
 have es2:(h'.set jr (.lst (L.map W.str++[.str X])))[js]?=some (.lst (S.map Rr.form)):=by rw[Do ne];exact es
 simp!
 refine dz es2 ?_
 simp!
 refine dB es2 (by rw[Dh];exact Ec lS (by decide)) ?_
 simp!
 refine ao ⟨R,g,⟨_,_,rfl⟩,?_⟩
 rw[hX,hF,Dr,Dr];rfl
theorem cnt5 {x v:Int}(x0:0<=x)(x9:x<9)(h0:0<=v)(h1:v<5): ∃m:Nat,m<=8/\ixW (.tl [.int 0,.int 1,.int 3,.int 8,.int x]) (.int v)=pr (.int (m:Int)):=by
 have:v=0\/v=1\/v=2\/v=3\/v=4:=by omega
 rcases this with rfl|rfl|rfl|rfl|rfl
 ·exact⟨0,by omega,bM (aE (by decide) rfl)⟩
 ·exact⟨1,by omega,bM (aE (by decide) rfl)⟩
 ·exact⟨3,by omega,bM (aE (by decide) rfl)⟩
 ·exact⟨8,by omega,bM (aE (by decide) rfl)⟩
 ·exact⟨x.toNat,by omega,by rw[Gv x0];exact bM (aE (by decide) rfl)⟩
theorem CV {h:List Ob}{jr jf:Nat}{L:List Str}{Fd:List W}{bn ns:List Str}{nm:Str}{k:Nat}(sc:List Int)(a1 a8 a9 a10 a11 a12:Option W)(nb: ∀x∈bn,af x=true)(l4:bn.length<=4)(mm: ∀x∈ns,af x=true)(n10:ns.length<=10)(nd:ns.Nodup)(hk:ns[k]?=some nm)(ne:jr≠jf)(er:h[jr]?=some (.lst (L.map W.str)))(ef:h[jf]?=some (.lst Fd))(lL:L.length<=150)(lF:Fd.length<=20):
  Ok (bO [some (.tl (sc.map W.int)),a1,some (.tl (ns.map W.str)),some (.loc jr),some (.tl (bn.map W.str)),some (.loc jf),some (.int (0+(k:Int))),some (.str nm),a8,a9,a10,a11,a12]) h fun x h'=> ∃b:Bt,b.nm=nm/\BG bn ns b/\(∃u8 u9 u10 u11 u12,x=.nx [some (.tl (sc.map W.int)),a1,some (.tl (ns.map W.str)),some (.loc jr),some (.tl (bn.map W.str)),some (.loc jf),some (.int (0+(k:Int))),some (.str nm),u8,u9,u10,u11,u12])/\h'[jr]?=some (.lst ((L++b.rows.map Rr.tx).map W.str))/\h'[jf]?=some (.lst (Fd++[blW ns b]))/\(∀i,i<h.length->i≠jr->i≠jf->h'[i]?=h[i]?)/\h.length<=h'.length:=by
 unfold bO
 have hm:=Ea hk
 have n1:1<=ns.length:=List.length_pos_of_mem hm
 have nl:=(bQ (mm nm hm)).len
 have lr:=eJ er
 have lf:=eJ ef
 obtain⟨_,_,_,_,_,_,_,_,k8⟩:=ou
 obtain⟨c,ec⟩:=pQ sc (1+(0+(k:Int)))
 have s600:=bb (c:=c) (show (0:Int)<=600 by decide)
 have s601:=bb (c:=c) (show (0:Int)<=601 by decide)
 have s602:=bb (c:=c) (show (0:Int)<=602 by decide)
 have x0:=DG (MJ c 600) (show (9:Int)≠0 by decide)
 have x1:=DJ (MJ c 600) (show (0:Int)<9 by decide)
 have v0:=DG (MJ c 601) (show (5:Int)≠0 by decide)
 have v1:=DJ (MJ c 601) (show (0:Int)<5 by decide)
 obtain⟨m,m8,im⟩:=cnt5 x0 x1 v0 v1
 generalize MJ c 600=y600 at *
 generalize MJ c 601=y601 at *
 generalize MJ c 602=y602 at *
 obtain⟨SC,hSC⟩: ∃X,X=W.tl (sc.map W.int):=⟨_,rfl⟩
 obtain⟨T,hT⟩: ∃X,X=W.tl (ns.map W.str):=⟨_,rfl⟩
 rw[<-hSC] at ec ⊢
 rw[<-hT]
 have en: ∀h:List Ob,Ok (eR [.int (y602+(0+(k:Int))),.tl (bn.map W.str),T]) h fun w h'=>(∃R:Rr,w=.tl [.str R.tx,(R.en ns).w]/\NG bn ns R)/\h'=h:=fun h=>by rw[hT];exact yr _ nb l4 mm n1 n10 nd
 simp! only[aa,ec]
 refine dz er ?_
 simp! only[aa,adS (a:= "block ") (b:=nm) (by omega)]
 rw[<-wS]
 refine dB er (by rw[Dh];exact Ec lL (by decide)) ?_
 simp!
 refine cE ?_
 obtain⟨MM,hMM⟩: ∃X:Int,X=(m:Int):=⟨_,rfl⟩
 rw[<-hMM] at im
 have eM:MM.toNat=m:=by omega
 simp! only[aa,s600,s601,ah (show (0:Int)<9 by decide),ah (show (0:Int)<5 by decide),im,fW (show (-(2 ^ 62):Int)<=MM by omega) (show MM<2 ^ 62 by omega)]
 have l1:(h.set jr (.lst (L.map W.str++[.str (Rr.block nm).tx]))).length=h.length:=DN ..
 obtain⟨h1,hh1⟩: ∃h1,h1=h.set jr (.lst (L.map W.str++[.str (Rr.block nm).tx])):=⟨_,rfl⟩
 rw[<-hh1] at l1 ⊢
 have er1:h1[jr]?=some (.lst ((L++[(Rr.block nm).tx]).map W.str)):=by rw[hh1,cn er,Dr];rfl
 have ef1:h1[jf]?=some (.lst Fd):=by rw[hh1,Do ne];exact ef
 have fr1: ∀i,i≠jr->h1[i]?=h[i]?:=fun i hi=>by rw[hh1,Do (Ne.symm hi)]
 refine kJ (I:=fun i ρ h'=> ∃S:List Rr,S.length=i/\(∀R∈S,SG bn R)/\(∃u10 u11 u12,ρ=[some SC,a1,some T,some (.loc jr),some (.tl (bn.map W.str)),some (.loc jf),some (.int (0+(k:Int))),some (.str nm),some (.int c),some (.loc h1.length),u10,u11,u12])/\h'.length=h1.length+1/\h'[jr]?=some (.lst ((L++(Rr.block nm).tx::S.map Rr.tx).map W.str))/\h'[h1.length]?=some (.lst (S.map Rr.form))/\ ∀i,i<h1.length->i≠jr->h'[i]?=h1[i]?) ⟨[],rfl,fun R hR=>absurd hR DO,⟨_,_,_,rfl⟩,by simp,by rw[oE er1];rfl,cH,fun i hi _=>DS hi⟩ (fun _ _ _ _=>trivial) (fun i w ρ h2 hw I=>?_) fun ρ h2 I=>?_
 ·obtain⟨S,rfl,gS,⟨u10,u11,u12,rfl⟩,l2,q1,q2,q3⟩:=I
  obtain⟨rfl,hi⟩:=eX _ _ _ _ hw
  rw[eM] at hi
  refine⟨_,rfl,?_⟩
  refine (C1 (some SC) a1 (some T) (some (.loc jf)) (some (.int (0+(k:Int)))) (some (.str nm)) u11 u12 nb l4 (show (0:Int)<=0+(S.length:Int) by omega) (show jr≠h1.length by omega) q1 q2 (by rw[Dk,Di,Dh];omega) (by omega)).imp fun x h3 qz=>?_
  obtain⟨R,g,⟨u,v,ex⟩,eh⟩:=qz
  refine⟨_,ex,S++[R],by simp,fun Y hY=>?_,⟨_,_,_,rfl⟩,?_,?_,?_,?_⟩
  ·rcases DE.mp hY with hY|hY
   ·exact gS Y hY
   ·rw[DI.mp hY];exact g
  ·rw[eh,DN,DN];exact l2
  ·rw[eh,Do (by omega),cn q1]
   congr 3
   rw[Dr,DL];rfl
  ·rw[eh]
   exact cn (a:=.lst (S.map Rr.form)) (by rw[Do (by omega)];exact q2)
  ·intro i hi hj
   rw[eh,Do (by omega),Do (Ne.symm hj)]
   exact q3 i hi hj
 ·obtain⟨S,lS,gS,⟨u10,u11,u12,rfl⟩,l2,q1,q2,q3⟩:=I
  rw[dD,eM] at lS
  simp! only[aa,s602]
  refine bP (en _) fun w h3 qq_=>?_
  obtain⟨⟨R,ew,g⟩,eh⟩:=qq_
  subst ew eh
  have tg:tgL [11,12] (.tl [.str R.tx,(R.en ns).w]) [some SC,a1,some T,some (.loc jr),some (.tl (bn.map W.str)),some (.loc jf),some (.int (0+(k:Int))),some (.str nm),some (.int c),some (.loc h1.length),u10,u11,u12]=some [some SC,a1,some T,some (.loc jr),some (.tl (bn.map W.str)),some (.loc jf),some (.int (0+(k:Int))),some (.str nm),some (.int c),some (.loc h1.length),u10,some (.str R.tx),some (R.en ns).w]:=rfl
  obtain⟨X,hX⟩: ∃X,X=R.tx:=⟨_,rfl⟩
  obtain⟨F,hF⟩: ∃F,F=(R.en ns).w:=⟨_,rfl⟩
  rw[<-hX,<-hF] at tg
  simp!
  rw[<-hX,<-hF]
  simp! only[aa,tg]
  refine dz q1 ?_
  simp!
  refine dB q1 (by rw[Dh,Dk,Di,Dh];exact Ec (show _<=200 by omega) (by decide)) ?_
  obtain⟨h4,hh4⟩: ∃h4,h4=h3.set jr (.lst ((L++(Rr.block nm).tx::S.map Rr.tx).map W.str++[.str X])):=⟨_,rfl⟩
  rw[<-hh4]
  have ef4:h4[jf]?=some (.lst Fd):=by rw[hh4,Do ne,q3 jf (by omega) (Ne.symm ne)];exact ef1
  have es4:h4[h1.length]?=some (.lst (S.map Rr.form)):=by rw[hh4,Do (by omega)];exact q2
  simp!
  refine dz ef4 ?_
  simp!
  refine oa es4 ?_
  have ef5:(h4.set h1.length .gone)[jf]?=some (.lst Fd):=by rw[Do (by omega)];exact ef4
  simp!
  refine dB ef5 (Ec lF (by decide)) ?_
  simp!
  refine ao ⟨⟨nm,S,R⟩,rfl,⟨show S.length<=8 by omega,gS,g⟩,⟨_,_,_,_,_,rfl⟩,?_,?_,?_,?_⟩
  ·rw[Do (Ne.symm ne),Do (by omega),hh4,cn q1,hX]
   have e:(Bt.rows ⟨nm,S,R⟩).map Rr.tx=(Rr.block nm).tx::S.map Rr.tx++[R.tx]:=by
    show ((Rr.block nm)::(S++[R])).map Rr.tx=_
    rw[Dj,Dr];rfl
   rw[e,<-DL,Dr (l₂:=[R.tx])];rfl
  ·rw[cn ef5,hF];rfl
  ·intro i hi h1' h2'
   rw[Do (Ne.symm h2'),Do (by omega),hh4,Do (Ne.symm h1'),q3 i (by omega) h1']
   exact fr1 i h1'
  ·rw[DN,DN,hh4,DN,l2];omega
end
section
open Wd
noncomputable def bxT (bq:List (Str×Int)):List (Str×Str):=bq.map fun b=>(b.1,(toString b.2:Str))
structure QG (bq:List (Str×Int)):Prop where
 g: ∀b∈bq,af b.1=true/\0<=b.2/\b.2<=999
 n:(bq.map (·.1)).Nodup
 l:bq.length<=4
theorem vG {v:Int}(h0:0<=v)(h9:v<=999):K1 (toString v:Str)=true/\cL (toString v:Str)=v/\MO [.int v]=pr (.str (toString v)):=by
 obtain⟨k,rfl⟩: ∃k:Nat,v=(k:Int):=⟨v.toNat,by omega⟩
 obtain⟨a,b⟩:=iW k (by omega)
 refine⟨a,b,o5 ?_⟩
 by_cases z:k=0
 ·subst z;decide
 ·refine (Fj (by omega)).mpr (Dv (show ((k:Int)).natAbs<2 ^ 10 by omega) (F2 (by omega) (show 10<=1920 by omega)))
theorem QG.bx {bq:List (Str×Int)}(G:QG bq):(∀x∈bxT bq,af x.1=true/\K1 x.2=true)/\(bxT bq).map (·.1)=bq.map (·.1)/\bxV (bxT bq)=bq/\(bxT bq).length<=4:=by
 unfold bxT bxV
 refine⟨fun x hx=>?_,by rw[El];rfl,?_,by rw[Dh];exact G.l⟩
 ·obtain⟨b,hb,rfl⟩:=DV.mp hx
  obtain⟨a,c,d⟩:=G.g b hb
  exact⟨a,(vG c d).1⟩
 ·rw[El]
  conv=>rhs;rw[<-List.map_id bq]
  refine FR fun b hb=>?_
  obtain⟨a,c,d⟩:=G.g b hb
  show (b.1,cL (toString b.2:Str))=b
  rw[(vG c d).2.1]
theorem Ir:("box ":Str)= "box"++⟨#[32]⟩/\("box ":Str).length=4:=by decide+kernel
theorem Iq (x v:Str):(Rr.box x v).tx= "box "++x++ " "++v:=by
 rw[Ir.1,gR]
 show "box"++⟨#[32]⟩++(x++⟨#[32]⟩++v)=_
 simp only[sapp]
theorem xA {bl:List Bt}(h:∀b∈bl,b.ss.length<=8):((bl.flatMap Bt.rows).map Rr.tx).length<=10 * bl.length:=by rw[Dh];exact LJ h
theorem wN {h:List Ob}(sc:List Int){bq:List (Str×Int)}{ns:List Str}(G:QG bq)(mm: ∀x∈ns,af x=true)(n10:ns.length<=10)(nd:ns.Nodup):Ok (eE [.tl (sc.map W.int),.tl (bq.map bqW),.tl (ns.map W.str)]) h fun w h'=>(∃ (bl:List Bt) (jr:Nat) (y:W),w=.tl [.loc jr,y]/\h'[jr]?=some (.lst (((pgR (bxT bq) bl).map Rr.tx).map W.str))/\bl.map Bt.nm=ns/\ ∀b∈bl,BG (bq.map (·.1)) ns b)/\Fo h.length h h':=by
 have e0:eE [.tl (sc.map W.int),.tl (bq.map bqW),.tl (ns.map W.str)]=bd (fz [some (.tl (sc.map W.int)),some (.tl (bq.map bqW)),some (.tl (ns.map W.str)),none,none,none,none,none,none,none,none,none,none]) IV:=rfl
 rw[e0,jN]
 obtain⟨_,_,_,_,k4,_⟩:=ou
 have ql:=G.l
 have b4:=Ir.2
 have gq: ∀ {α:Type} (q:M α),gd ((bq.map bqW).length<=sizeLine) q=q:=fun q=>ai (by rw[Dh];exact sz (by omega))
 obtain⟨SC,hSC⟩: ∃X,X=W.tl (sc.map W.int):=⟨_,rfl⟩
 obtain⟨T,hT⟩: ∃X,X=W.tl (ns.map W.str):=⟨_,rfl⟩
 rw[<-hSC,<-hT]
 have sT:IL [T]=pr ⟨K3 0 (ns.map W.str),fun _=>True⟩:=by rw[hT];rfl
 simp! only[aa,dU,gq]
 refine fm (I:=fun i a h'=>h'=h/\a=(((bxT bq).take i).map fun b=>W.str (Rr.box b.1 b.2).tx)) ⟨rfl,rfl⟩ gg (fun _ _ _ _=>trivial) (fun i w a h' hw I=>?_) fun a h' I=>?_
 ·obtain⟨rfl,rfl⟩:=I
  rw[DA] at hw
  obtain⟨b,hb,rfl⟩:=DX.mp hw
  obtain⟨g1,g2,g3⟩:=G.g b (Ea hb)
  obtain⟨y1,y2,y3⟩:=vG g2 g3
  have nl:=(bQ g1).len
  have vl:=(oh y1).len
  have et:(bxT bq)[i]?=some (b.1,(toString b.2:Str)):=by unfold bxT;rw[DA,hb];rfl
  refine⟨[some (.str b.1),some (.int b.2),none,some SC,some (.tl (bq.map bqW)),some T,none,none,none,none,none,none,none,none,none,none],rfl,?_⟩
  generalize (toString b.2:Str)=V at *
  simp! only[aa,y3,adS (a:= "box ") (b:=b.1) (by omega),adS (a:= "box "++b.1) (b:= " ") (by rw[Mv];omega),adS (a:= "box "++b.1++ " ") (b:=V) (by rw[Mv,Mv];omega)]
  refine ao ⟨rfl,?_⟩
  rw[Ee,et,Dr,<-Iq];rfl
 obtain⟨rfl,rfl⟩:=I
 have lb:(bq.map bqW).length=(bxT bq).length:=by unfold bxT;rw[Dh,Dh]
 rw[lb,Ed]
 obtain⟨L0,hL0⟩: ∃L0,L0=(bxT bq).map fun b=>(Rr.box b.1 b.2).tx:=⟨_,rfl⟩
 have eL0:((bxT bq).map fun b=>W.str (Rr.box b.1 b.2).tx)=L0.map W.str:=by rw[hL0,El];rfl
 have lL0:L0.length<=4:=by rw[hL0,Dh];exact G.bx.2.2.2
 rw[eL0]
 simp!
 refine cE ?_
 simp! only[aa,dU,gq]
 refine fm (I:=fun i a h2=>h2=h'++[.lst (L0.map W.str)]/\a=((bq.map (·.1)).take i).map W.str) ⟨rfl,rfl⟩ gg (fun _ _ _ _=>trivial) (fun i w a h2 hw I=>?_) fun a h2 I=>?_
 ·obtain⟨rfl,rfl⟩:=I
  rw[DA] at hw
  obtain⟨b,hb,rfl⟩:=DX.mp hw
  refine⟨[some (.str b.1),some (.int b.2),none,some SC,some (.tl (bq.map bqW)),some T,some (.loc h'.length),none,none,none,none,none,none,none,none,none],rfl,?_⟩
  simp!
  refine ao ⟨rfl,?_⟩
  have:(bq.map (·.1))[i]?=some b.1:=by rw[DA,hb];rfl
  rw[Ee,this,Dr];rfl
 obtain⟨rfl,rfl⟩:=I
 have lb2:(bq.map bqW).length=(bq.map (·.1)).length:=by rw[Dh,Dh]
 rw[lb2,Ed]
 simp!
 refine cE ?_
 have ll:(h'++[Ob.lst (L0.map W.str)]).length=h'.length+1:=by simp
 have nb: ∀x∈bq.map (·.1),af x=true:=fun x hx=>by
  obtain⟨b,hb,rfl⟩:=DV.mp hx
  exact (G.g b hb).1
 have nb4:(bq.map (·.1)).length<=4:=by rw[Dh];exact ql
 obtain⟨bn,hbn⟩: ∃bn,bn=bq.map (·.1):=⟨_,rfl⟩
 rw[<-hbn] at nb nb4 ⊢
 simp! only[aa,sT]
 rw[ll]
 have j0:(h'++[Ob.lst (L0.map W.str)]++[Ob.lst []])[h'.length]?=some (.lst (L0.map W.str)):=oE cH
 have j1:(h'++[Ob.lst (L0.map W.str)]++[Ob.lst []])[h'.length+1]?=some (.lst []):=by rw[<-ll];exact cH
 refine kJ (I:=fun i ρ h2=> ∃bl:List Bt,bl.length=i/\bl.map Bt.nm=ns.take i/\(∀b∈bl,BG bn ns b)/\(∃u6 u7 u8 u9 u10 u11 u12,ρ=[some SC,some (.tl (bq.map bqW)),some T,some (.loc h'.length),some (.tl (bn.map W.str)),some (.loc (h'.length+1)),u6,u7,u8,u9,u10,u11,u12])/\h2[h'.length]?=some (.lst ((L0++(bl.flatMap Bt.rows).map Rr.tx).map W.str))/\h2[h'.length+1]?=some (.lst (bl.map (blW ns)))/\(∀i,i<h'.length->h2[i]?=h'[i]?)) ⟨[],rfl,rfl,fun b hb=>absurd hb DO,⟨_,_,_,_,_,_,_,rfl⟩,by rw[j0];show _=some (Ob.lst ((L0++[]).map W.str));rw[DM],j1,fun i hi=>by rw[DL,DS hi]⟩ (fun _ _ _ _=>trivial) (fun i w ρ h2 hw I=>?_) fun ρ h2 I=>?_
 ·obtain⟨bl,rfl,en,gb,⟨u6,u7,u8,u9,u10,u11,u12,rfl⟩,q1,q2,q3⟩:=I
  obtain⟨x,hx,rfl⟩:=iV _ _ _ _ hw
  rw[DA] at hx
  obtain⟨nm,hk,rfl⟩:=DX.mp hx
  have hi:=(DK.mp hk).1
  have rl:=xA fun b hb=>(gb b hb).l
  refine⟨_,rfl,?_⟩
  rw[hSC,hT]
  refine (CV sc (some (.tl (bq.map bqW))) u8 u9 u10 u11 u12 nb nb4 mm n10 nd hk (show h'.length≠h'.length+1 by omega) q1 q2 (by rw[Dk];omega) (by rw[Dh];omega)).imp fun x h3 qz=>?_
  obtain⟨b,bn',g,⟨v8,v9,v10,v11,v12,ex⟩,p1,p2,p3,p4⟩:=qz
  refine⟨_,ex,bl++[b],by simp,?_,fun y hy=>?_,⟨_,_,_,_,_,_,_,rfl⟩,?_,?_,fun i hi'=>?_⟩
  ·rw[Dr,en,Ee,hk,<-bn'];rfl
  ·rcases DE.mp hy with hy|hy
   ·exact gb y hy
   ·rw[DI.mp hy];exact g
  ·rw[p1,List.flatMap_append,Dr (f:=Rr.tx),DL]
   show _=some (Ob.lst ((L0++((bl.flatMap Bt.rows).map Rr.tx++(b.rows++[]).map Rr.tx)).map W.str))
   rw[DM]
  ·rw[p2,Dr];rfl
  ·rw[p3 i (by have:=eJ q1;omega) (by omega) (by omega)];exact q3 i hi'
 ·obtain⟨bl,lbl,en,gb,⟨u6,u7,u8,u9,u10,u11,u12,rfl⟩,q1,q2,q3⟩:=I
  rw[fX,Dh] at lbl en
  rw[Ed] at en
  simp!
  refine ao ⟨⟨bl,h'.length,_,rfl,?_,en,gb⟩,q3,?_⟩
  ·unfold pgR
   have:((bxT bq).map fun b=>Rr.box b.1 b.2).map Rr.tx=L0:=by rw[hL0,El];rfl
   rw[Dr (f:=Rr.tx),this];exact q1
  ·have:=eJ q2;omega
theorem yG {v:Int}(h0:0<=v)(h1:v<4): ∃x:Int,0<=x/\x<=999/\ixW (.tl [.int 0,.int 999,.int 7,.int 40]) (.int v)=pr (.int x):=by
 have:v=0\/v=1\/v=2\/v=3:=by omega
 rcases this with rfl|rfl|rfl|rfl
 ·exact⟨0,by decide,by decide,bM (aE (by decide) rfl)⟩
 ·exact⟨999,by decide,by decide,bM (aE (by decide) rfl)⟩
 ·exact⟨7,by decide,by decide,bM (aE (by decide) rfl)⟩
 ·exact⟨40,by decide,by decide,bM (aE (by decide) rfl)⟩
structure PG6 (bq:List (Str×Int))(ns:List Str)(bl:List Bt):Prop where
 q:QG bq
 mm: ∀x∈ns,af x=true
 n1:1<=ns.length
 n10:ns.length<=10
 nd:ns.Nodup
 en:bl.map Bt.nm=ns
 g: ∀b∈bl,BG (bq.map (·.1)) ns b
theorem PG6.px {bq:List (Str×Int)}{ns:List Str}{bl:List Bt}(G:PG6 bq ns bl):PtxG (bxT bq) bl:=by
 obtain⟨x1,x2,x3,x4⟩:=G.q.bx
 have ln:bl.length=ns.length:=by rw[<-G.en,Dh]
 refine⟨x1,by rw[x2];exact G.q.n,x4,by rw[G.en];exact G.nd,by rw[ln];exact G.n10,by rw[ln];exact G.n1,fun b hb=>?_⟩
 have g:=G.g b hb
 rw[x2,G.en]
 exact⟨G.mm _ (by rw[<-G.en];exact List.mem_map_of_mem hb),g.l,fun r hr=>⟨(g.s r hr).st,(g.s r hr).ok,(g.s r hr).b⟩,g.e.en,g.e.ok,g.e.b,g.e.to⟩
def bK:HU->M Fl:=(sIf (mB (m2 eqW (m2 KQ (Ku (arW 2 ag) (Kw (KL 1) (Kw (mC (.int 622)) KB))) (mC (.int 3))) (mC (.int 0)))) (L8 4 (m3 slW (m2 Il (KL 2) (mTl (Kv [] (KH (KL 4) MF) (tgN 0) (mB (m2 cM (KL 0) (KL 4))) (KL 0) 2))) aj (KF (Ku Km (Kw (KL 4) KB))))) LY)
theorem iU:dY=(L7 (L8 1 (Ku (arW 2 de) (Kw (KL 0) (Kw (mC (.int 0)) KB)))) (L7 (L8 2 (m3 slW (Ku (arW 3 cP) (Kw (KL 1) (Kw (mC (.int 300)) (Kw (mC (.int 4)) KB)))) aj (KF (m2 KQ (Ku (arW 2 ag) (Kw (KL 1) (Kw (mC (.int 620)) KB))) (mC (.int 5)))))) (L7 (L8 3 (mTl (Kv [] (KI (Kw (KL 2) KB) IL) (tgT [0,1]) KM (KJ (Kw (KL 1) (Kw (m2 ixW (mTl (Kl (Kw (mC (.int 0)) (Kw (mC (.int 999)) (Kw (mC (.int 7)) (Kw (mC (.int 40)) KB)))))) (m2 KQ (m2 Il (m2 IU (Ku (arW 2 ag) (Kw (KL 4) (Kw (mC (.int 630)) KB))) (mC (.int 4))) (KL 0)) (mC (.int 4)))) KB))) 3))) (L7 (L8 4 (m3 slW (Ku (arW 3 cP) (Kw (KL 1) (Kw (mC (.int 400)) (Kw (mC (.int 10)) KB)))) aj (KF (m2 Il (mC (.int 1)) (m2 KQ (Ku (arW 2 ag) (Kw (KL 1) (Kw (mC (.int 621)) KB))) (mC (.int 10))))))) (L7 bK (L3 (Ku (arW 3 eE) (Kw (KL 0) (Kw (KL 3) (Kw (KL 4) KB)))))))))):=rfl
theorem CZ {h:List Ob}{hd:Int}{so bs:List Str}(a0 a3:Option W)(gs: ∀x∈so,af x=true)(ds:so.Nodup)(gb: ∀x∈bs,af x=true)(db:bs.Nodup)(b1:1<=bs.length)(b10:bs.length<=10)(s4:so.length<=4):
  Ok (bK [a0,some (.int hd),some (.tl (so.map W.str)),a3,some (.tl (bs.map W.str))]) h fun x h'=>(∃ns:List Str,x=.nx [a0,some (.int hd),some (.tl (so.map W.str)),a3,some (.tl (ns.map W.str))]/\(∀x∈ns,af x=true)/\ns.Nodup/\1<=ns.length/\ns.length<=10)/\h'=h:=by
 unfold bK
 have s622:=bb (c:=hd) (show (0:Int)<=622 by decide)
 generalize MJ hd 622=y at *
 by_cases c:y % 3=0
 ·have gl: ∀ {α:Type} (q:M α),gd ((bs.map W.str).length<=sizeLine) q=q:=fun q=>ai (by rw[Dh];exact sz (by omega))
  simp! only[aa,s622,ah (show (0:Int)<3 by decide),decide_eq_true c,dU,gl]
  refine pB (I:=fun i a h2=>h2=h/\a=((bs.take i).filter fun z=>!decide (z∈so)).map W.str) ⟨rfl,rfl⟩ (fun _ _ _ _=>trivial) (fun i w a h2 hw I=>?_) fun a h2 I=>?_
  ·obtain⟨rfl,rfl⟩:=I
   rw[DA] at hw
   obtain⟨x,hx,rfl⟩:=DX.mp hw
   refine⟨_,rfl,?_⟩
   simp! only[List.replicate,DY,DU,aa,kM]
   have et:(bs.take (i+1)).filter (fun z=>!decide (z∈so))=(bs.take i).filter (fun z=>!decide (z∈so))++[x].filter (fun z=>!decide (z∈so)):=by rw[Ee,hx,Gu];rfl
   by_cases hm:x∈so
   ·rw[decide_eq_true hm]
    refine ao (.inl ⟨rfl,rfl,?_⟩)
    rw[et,Fm (by simp [hm]),Fy,DM]
   ·rw[decide_eq_false hm]
    refine ao (.inr ⟨rfl,ao ⟨rfl,?_⟩⟩)
    rw[et,Fk (by simp [hm]),Fy,Dr];rfl
  ·obtain⟨rfl,rfl⟩:=I
   rw[Dh,Ed]
   obtain⟨fl,hfl⟩: ∃fl,fl=bs.filter fun z=>!decide (z∈so):=⟨_,rfl⟩
   have lfl:fl.length<=bs.length:=by rw[hfl];exact List.length_filter_le _ _
   have ad:Il (.tl (so.map W.str)) (.tl (fl.map W.str))=pr (.tl ((so++fl).map W.str)):=by
    rw[kb _ _ (by rw[Dh,Dh];exact sz (by omega)),Dr]
   have ct:ID ((so++fl).map W.str) none (some ((bs.length:Nat):Int))=((so++fl).take bs.length).map W.str:=by
    rw[IF _ (by omega),<-Eh,Int.toNat_natCast]
   rw[<-hfl]
   simp! only[aa,ad,Dh,ct]
   refine ao ⟨⟨(so++fl).take bs.length,rfl,fun x hx=>?_,?_,?_,?_⟩,rfl⟩
   ·rcases DE.mp (Eb hx) with hx|hx
    ·exact gs x hx
    ·rw[hfl] at hx;exact gb x (EM.mp hx).1
   ·refine List.Nodup.sublist (Fh _ _) ?_
    rw[Fw]
    refine⟨ds,by rw[hfl];exact db.filter _,fun a ha b hb e=>?_⟩
    rw[hfl] at hb
    have:=(EM.mp hb).2
    rw[<-e] at this
    simp [ha] at this
   ·rw[DH,Dk]
    cases so with
    |nil=>
     have:fl=bs:=by rw[hfl];exact Fv.mpr fun z _=>by simp
     rw[this];simp;omega
    |cons a r=>rw[Di];omega
   ·rw[DH];omega
 ·simp! only[aa,s622,ah (show (0:Int)<3 by decide),decide_eq_false c]
  exact ao ⟨⟨bs,rfl,gb,db,b1,b10⟩,rfl⟩
theorem qU {h:List Ob}(sc:List Int):Ok (cY [.tl (sc.map W.int)]) h fun w h'=>(∃ (bq:List (Str×Int)) (ns:List Str) (bl:List Bt) (jr:Nat) (y:W),PG6 bq ns bl/\w=.tl [.loc jr,y]/\h'[jr]?=some (.lst (((pgR (bxT bq) bl).map Rr.tx).map W.str)))/\Fo h.length h h':=by
 have e0:cY [.tl (sc.map W.int)]=bd (dY [some (.tl (sc.map W.int)),none,none,none,none]) IV:=rfl
 rw[e0,iU]
 obtain⟨hd,ec⟩:=pQ sc 0
 have s620:=bb (c:=hd) (show (0:Int)<=620 by decide)
 have s621:=bb (c:=hd) (show (0:Int)<=621 by decide)
 have s630:=bb (c:=hd) (show (0:Int)<=630 by decide)
 have p620:=DG (MJ hd 620) (show (5:Int)≠0 by decide)
 have r620:=DJ (MJ hd 620) (show (0:Int)<5 by decide)
 have p621:=DG (MJ hd 621) (show (10:Int)≠0 by decide)
 have r621:=DJ (MJ hd 621) (show (0:Int)<10 by decide)
 generalize MJ hd 620=y0 at *
 generalize MJ hd 621=y1 at *
 generalize MJ hd 630=y3 at *
 obtain⟨SC,hSC⟩: ∃X,X=W.tl (sc.map W.int):=⟨_,rfl⟩
 rw[<-hSC] at ec ⊢
 simp! only[aa,ec]
 refine bP (mM hd 300 (many:=4) rfl (by decide) (by decide)) fun w h1 qq_=>?_
 obtain⟨⟨l0,ew,l04,nd0,na0⟩,F1⟩:=qq_
 subst ew
 obtain⟨so,hso⟩: ∃so,so=l0.take (y0 % 5).toNat:=⟨_,rfl⟩
 have sl0:slW (.tl (l0.map W.str)) none (some (y0 % 5))=pr (.tl (so.map W.str)):=by rw[slW_tl,IF _ p620,<-Eh,<-hso]
 have s4:so.length<=4:=by rw[hso,DH,l04];omega
 have gs: ∀x∈so,af x=true:=fun x hx=>na0 x (by rw[hso] at hx;exact Eb hx)
 have ds:so.Nodup:=by rw[hso];exact nd0.sublist (Fh _ _)
 have gl: ∀ {α:Type} (q:M α),gd ((K3 0 (so.map W.str)).length<=sizeLine) q=q:=fun q=>ai (by rw[fX,Dh];exact sz (by omega))
 generalize W.tl (l0.map W.str)=L0 at *
 simp! only[aa,s620,ah (show (0:Int)<5 by decide),sl0,wH,gl]
 refine fm (I:=fun i a h2=>h2=h1/\ ∃vs:List Int,vs.length=i/\(∀v∈vs,0<=v/\v<=999)/\a=((so.take i).zip vs).map bqW) ⟨rfl,[],rfl,fun v hv=>absurd hv DO,rfl⟩ gg (fun _ _ _ _=>trivial) (fun i w a h2 hw I=>?_) fun a h2 I=>?_
 ·obtain⟨rfl,vs,rfl,gv,rfl⟩:=I
  obtain⟨x,hx,rfl⟩:=iV _ _ _ _ hw
  rw[DA] at hx
  obtain⟨nm,hk,rfl⟩:=DX.mp hx
  have hi:=(DK.mp hk).1
  have v0:=DG (y3 / 4+(0+(vs.length:Int))) (show (4:Int)≠0 by decide)
  have v1:=DJ (y3 / 4+(0+(vs.length:Int))) (show (0:Int)<4 by decide)
  obtain⟨v,w0,w1,iv⟩:=yG v0 v1
  refine⟨_,rfl,?_⟩
  simp! only[List.replicate,DY,DU,aa,s630,aH (show (0:Int)<4 by decide) (by decide),ah (show (0:Int)<4 by decide),iv]
  refine ao ⟨rfl,vs++[v],by simp,fun z hz=>?_,?_⟩
  ·rcases DE.mp hz with hz|hz
   ·exact gv z hz
   ·rw[DI.mp hz];exact⟨w0,w1⟩
  ·rw[Ee,hk]
   show _=(List.zip (so.take vs.length++[nm]) (vs++[v])).map bqW
   rw[List.zip_append (by rw[DH];omega),Dr];rfl
 obtain⟨rfl,vs,lv,gv,rfl⟩:=I
 rw[fX,Dh] at lv
 rw[fX,Dh,Ed]
 have G:QG (so.zip vs):=by
  have e1:(so.zip vs).map (·.1)=so:=List.map_fst_zip (by omega)
  refine⟨fun b hb=>?_,by rw[e1];exact ds,by rw[List.length_zip];omega⟩
  obtain⟨a1,a2⟩:=Ff (a:=b.1) (b:=b.2) hb
  exact⟨gs _ a1,gv _ a2⟩
 generalize so.zip vs=bq at *
 simp!
 refine bP (mM hd 400 (many:=10) rfl (by decide) (by decide)) fun w h3 qq_=>?_
 obtain⟨⟨l1,ew,l10,nd1,na1⟩,F3⟩:=qq_
 subst ew
 obtain⟨bs,hbs⟩: ∃bs,bs=l1.take (1+y1 % 10).toNat:=⟨_,rfl⟩
 have sl1:slW (.tl (l1.map W.str)) none (some (1+y1 % 10))=pr (.tl (bs.map W.str)):=by rw[slW_tl,IF _ (by omega),<-Eh,<-hbs]
 have bl:bs.length=(1+y1 % 10).toNat:=by rw[hbs,DH,l10];omega
 have gb: ∀x∈bs,af x=true:=fun x hx=>na1 x (by rw[hbs] at hx;exact Eb hx)
 have db:bs.Nodup:=by rw[hbs];exact nd1.sublist (Fh _ _)
 generalize W.tl (l1.map W.str)=L1 at *
 simp! only[aa,s621,ah (show (0:Int)<10 by decide),sl1]
 refine bP (CZ (some SC) (some (.tl (bq.map bqW))) gs ds gb db (by omega) (by omega) s4) fun x h4 qq_=>?_
 obtain⟨⟨ns,ex,g1,g2,g3,g4⟩,eh⟩:=qq_
 subst ex eh
 simp!
 rw[hSC]
 refine bP (wN sc G g1 g4 g2) fun w h5 qq_=>?_
 obtain⟨⟨bl,jr,y,ew,ej,en,gb⟩,F5⟩:=qq_
 subst ew
 simp!
 exact ao ⟨⟨bq,ns,bl,jr,y,⟨G,g1,g3,g4,g2,en,gb⟩,rfl,ej⟩,Fo.trans F1 (Fo.trans ⟨fun i hi=>F3.eq i (Dv hi F1.le),F3.le⟩ ⟨fun i hi=>F5.eq i (Dv hi (Dy F1.le F3.le)),F5.le⟩)⟩
end
section
open Wd
theorem Kq (l:List W):Kp (.tl l)=pr l:=rfl
structure HG (z:Str):Prop where
 x: ∀h,Xc (di [.str z]) h "NoRow"
 nl:10 ∉ z.cps.toList
 len:z.length<=700
noncomputable def spC:List Nat->List Nat×List (List Nat)
 |[]=>([],[])
 |c::l=>if c=32 then ([],(spC l).1::(spC l).2) else (c::(spC l).1,(spC l).2)
noncomputable def ofC (l:List Nat):Str:=⟨l.toArray⟩
theorem uN: ∀l:List Nat,(Str.join ⟨#[32]⟩ (ofC (spC l).1::(spC l).2.map ofC)).cps.toList=l/\(32 ∉ (spC l).1/\ ∀w∈(spC l).2,32 ∉ w)/\(spC l).2.length<=l.length
 |[]=>⟨rfl,⟨by simp [spC],by simp [spC]⟩,Dl _⟩
 |c::l=>by
  obtain⟨e,⟨f1,f2⟩,z⟩:=uN l
  unfold spC
  split
  ·rename_i h
   refine⟨?_,⟨by simp,fun w hw=>?_⟩,by show (spC l).2.length+1<=l.length+1;omega⟩
   ·show (Str.join ⟨#[32]⟩ (ofC []::ofC (spC l).1::(spC l).2.map ofC)).cps.toList=_
    rw[b9,e,h];rfl
   ·rcases Dp.mp hw with rfl|hw
    ·exact f1
    ·exact f2 w hw
  ·rename_i h
   refine⟨?_,⟨fun hm=>?_,f2⟩,by show (spC l).2.length<=l.length+1;omega⟩
   ·show (Str.join ⟨#[32]⟩ (ofC (c::(spC l).1)::(spC l).2.map ofC)).cps.toList=_
    cases q:(spC l).2 with
    |nil=>
     rw[q] at e
     have e:(spC l).1=l:=e
     show c::(spC l).1=_
     rw[e]
    |cons y r=>
     rw[q,Dj,b9] at e
     rw[Dj,b9]
     show c::((spC l).1++_)=_
     rw[show (spC l).1++32::(Str.join ⟨#[32]⟩ (ofC y::r.map ofC)).cps.toList=l from e]
   ·rcases Dp.mp hm with rfl|hm
    ·exact h rfl
    ·exact f1 hm
def Im (z:Str):Bool:=!Ja (ofC (spC z.cps.toList).1) ((spC z.cps.toList).2.map ofC) && (decide (z.length<=700) && decide (10 ∉ z.cps.toList))
theorem BI {h:List Ob}{z:Str}(l:z.length<=700)(k:Ja (ofC (spC z.cps.toList).1) ((spC z.cps.toList).2.map ofC)=false):Xc (di [.str z]) h "NoRow":=by
 obtain⟨e,⟨f1,f2⟩,n⟩:=uN z.cps.toList
 have ez:Str.join ⟨#[32]⟩ (ofC (spC z.cps.toList).1::(spC z.cps.toList).2.map ofC)=z:=dS e
 have zl:(spC z.cps.toList).2.length<=z.length:=n
 have:=wt (h:=h) (hd:=ofC (spC z.cps.toList).1) (r:=(spC z.cps.toList).2.map ofC) (fun w hw=>by
  rcases Dp.mp hw with rfl|hw
  ·exact f1
  ·obtain⟨u,hu,rfl⟩:=DV.mp hw
   exact f2 u hu) (by rw[ez];omega) (by rw[Dh];omega) k
 rw[ez] at this
 exact this
theorem rJ {z:Str}(k:Im z=true):HG z:=by
 unfold Im at k
 simp only[Dx,decide_eq_true_eq,Ga] at k
 obtain⟨k1,k2,k3⟩:=k
 exact⟨fun h=>BI k2 k1,k3,k2⟩
theorem oQ {l:List Str}(k:l.all Im=true): ∀z∈l,HG z:=fun z hz=>rJ (DC.mp k z hz)
theorem By:(" 0":Str).length=2/\(" 1":Str).length=2/\(" < 1 a else b":Str).length=13/\(" a":Str).length=2/\(" else b":Str).length=7/\("(":Str).length=1/\(")":Str).length=1/\("+1 a else b":Str).length=11/\("1":Str).length=1/\("1 = 2 a else b":Str).length=14/\("1 a":Str).length=3/\("1+":Str).length=2/\("a":Str).length=1/\("ask ":Str).length=4/\("block ":Str).length=6/\("box ":Str).length=4/\("go ":Str).length=3/\("if ":Str).length=3/\("if 1 < ":Str).length=7/\("if 1 < 2 ":Str).length=9/\("if 1 < 2 a else ":Str).length=16/\("put ":Str).length=4/\("put a ":Str).length=6/\("say ":Str).length=4/\("table ":Str).length=6/\("table 1 a ":Str).length=10/\(Txt.mul "1+" 30).length=60/\(Txt.mul "(" 6).length=6/\(Txt.mul ")" 6).length=6:=by decide+kernel
theorem KS {z:Str}{n:Int}(h:0<=n/\n<=10000/\z.length<=30000/\z.length * n.toNat<=1000000):KU (.str z) (.int n)=pr (.str (Txt.mul z n)):=ai h
theorem bad0:(["", " ", "box", "box a", "box a 0 5", "box a x", "box A 0", "box a -1", "box a 00", "box a 05"]:List Str).all Im=true:=by decide+kernel
theorem bad1:(["box a +5", "box a 1_0", "box a 1000", "box a 5.0", "box  a 0", "box a 0 ", "Box a 0"]:List Str).all Im=true:=by decide+kernel
theorem bad2:(["boxes a 0", "box abcdefghi 0", "box a1 0", "box 0 a", "box a a", "box a 1+1", "block"]:List Str).all Im=true:=by decide+kernel
theorem bad3:(["block A", "block a b", "block a1", "block abcdefghi", "blocks a", "Block a", "block "]:List Str).all Im=true:=by decide+kernel
theorem bad4:([" block a", "block 1", "block -a", "put", "put a", "put a 1 2", "put A 1", "put a -1"]:List Str).all Im=true:=by decide+kernel
theorem bad5:(["put a (1", "put a 1)", "put a 1+", "put a a1", "put a 01", "put a 1000", "put a 1 + 1"]:List Str).all Im=true:=by decide+kernel
theorem bad6 : (["put 1 a", "put a = 1", "put zz 1+", "put a +1", "put a 1--1", "put a *1", "put a ()"] : List Str).all Im = true :=by decide +kernel
theorem bad7:(["put a a(b)", "put a 2a", "put a 1_0", "put a ", "put a a/1", "say", "say 1 2", "say A"]:List Str).all Im=true:=by decide+kernel
theorem bad8:(["say -1", "say 1+", "say ", "Say 1", "says 1", "say (1", "say \"a\"", "say zz 1", "ask"]:List Str).all Im=true:=by decide+kernel
theorem bad9:(["ask a b", "ask A", "ask 1", "asks a", "ask  a", "ask a ", "ask (a)", "go", "go A", "go a b"]:List Str).all Im=true:=by decide+kernel
theorem bad10:(["go 1", "goto a", "go  a", "go a ", "go abcdefghi", "Go a", "if", "if a < 1", "if a < 1 a"]:List Str).all Im=true:=by decide+kernel
theorem bad11:(["if a < 1 a else", "if a < 1 a b", "if a < 1 a else b c", "if a < 1 a else 1"]:List Str).all Im=true:=by decide+kernel
theorem bad12:(["if a < 1 1 else b", "if a > 1 a else b", "if a <= 1 a else b", "if a == 1 a else b"]:List Str).all Im=true:=by decide+kernel
theorem bad13:(["if < a 1 a else b", "if a<1 a else b", "if a < 1 a Else b", "if a < 1 a then b"]:List Str).all Im=true:=by decide+kernel
theorem bad14:(["if a < 1 else a b", "if a < 1  a else b", "if 1) = 2 a else b", "if a1 < 2 a else b"]:List Str).all Im=true:=by decide+kernel
theorem bad15:(["if 1+ < 2 a else b", "if a < (1 a else b", "if a < a else b", "if A < 1 a else b"]:List Str).all Im=true:=by decide+kernel
theorem bad16:(["if zz < 1+ a else b", "if -1 < a a else b", "if a = -1 a else b", "ifs a < 1 a else b"]:List Str).all Im=true:=by decide+kernel
theorem bad17:(["if a < 1 go a", "table", "table a", "table 1", "table a b c d e f g h", "table A a"]:List Str).all Im=true:=by decide+kernel
theorem bad18:(["table 1+ a", "table a A", "table a b 1", "table a  b", "table a b ", "tables a b"]:List Str).all Im=true:=by decide+kernel
theorem bad19:(["Table a b", "table -1 a", "table a b else", "table (a b", "stop 1", "stops", " stop"]:List Str).all Im=true:=by decide+kernel
theorem bad20:(["stop ", "Stop", "stop stop", "end", "else", "else a", "a", "1", "let a 1", "while a < 1"]:List Str).all Im=true:=by decide+kernel
theorem bad21:(["go~a", "# a"]:List Str).all Im=true:=by decide+kernel
theorem badw0: ∀x∈M3,(["box "++x++ " 0", "block "++x, "ask "++x, "put "++x++ " 1"]:List Str).all Im=true:=by decide+kernel
theorem badw1: ∀x∈M3,(["put a "++x]:List Str).all Im=true:=by decide+kernel
theorem badw2: ∀x∈M3,(["go "++x, "say "++x, "if "++x++ " < 1 a else b"]:List Str).all Im=true:=by decide+kernel
theorem badw3: ∀x∈M3,(["if 1 < "++x++ "+1 a else b"]:List Str).all Im=true:=by decide+kernel
theorem badw4: ∀x∈M3,(["if 1 < 2 "++x++ " else b", "if 1 < 2 a else "++x, "table 1 a "++x]:List Str).all Im=true:=by decide+kernel
theorem badw5: ∀x∈M3,(["table "++x++ " a"]:List Str).all Im=true:=by decide+kernel
theorem badw6: ∀x∈M3,(["put a "++(Txt.mul "1+" 30)++ "1", "say "++(Txt.mul "(" 6)++ "a"++(Txt.mul ")" 6), "if "++(Txt.mul "1+" 30)++ "1 = 2 a else b"]:List Str).all Im=true:=by decide+kernel
theorem badw7: ∀x∈M3,(["table "++(Txt.mul "1+" 30)++ "1 a"]:List Str).all Im=true:=by decide+kernel
theorem zv: ∀x∈M3,x.length<=5:=by decide+kernel
noncomputable def HF (h0 h:List Ob)(j n:Nat):Prop:=(Fo h0.length h0 h/\h0.length<=j)/\ ∃l:List Str,h[j]?=some (.lst (l.map W.str))/\(∀z∈l,HG z)/\l≠ []/\l.length<=n
theorem Fo.app {h0 h:List Ob}{b:Ob}(F:Fo h0.length h0 h):Fo h0.length h0 (h++[b])/\h0.length<=h.length:=⟨⟨fun i hi=>by rw[DS (Dv hi F.le)];exact F.eq i hi,by rw[Dk];have:=F.le;omega⟩,F.le⟩
section
variable {h0:List Ob}{LH:HU->M Fl}{new:List Str}{c:W}{tl:HU}{n:Nat}{Q:W->List Ob->Prop}
theorem vJ {E:HU->M (List W)}(hE:E (some c::none::tl)=pr (new.map W.str))(hn:new.all Im=true)(ne:new≠ [])(ln:new.length<=20)(H:∀j h,HF h0 h j 20->Ok (bd (LH (some c::some (.loc j)::tl)) IV) h Q):Ok (bd (L7 (L8 1 (KA E)) LH (some c::none::tl)) IV) h0 Q:=by
 simp! only[aa,hE]
 refine cE ?_
 simp!
 exact H _ _ ⟨(Fo.refl _ _).app,new,cH,oQ hn,ne,ln⟩
theorem aG {E:HU->M W}(hE: ∀j,E (some c::some (.loc j)::tl)=pr (.tl (new.map W.str)))(hn:new.all Im=true)(ln:new.length<=20)(z:n<=10000)(H:∀j h,HF h0 h j (n+20)->Ok (bd (LH (some c::some (.loc j)::tl)) IV) h Q): ∀j h,HF h0 h j n->Ok (bd (L7 (L8 1 (KA (Iw (KL 1) E))) LH (some c::some (.loc j)::tl)) IV) h Q:=by
 rintro j h ⟨⟨F,hj⟩,l,e,b,ne,lz⟩
 have gl: ∀ {α:Type} (q:M α),gd ((l.map W.str).length+(new.map W.str).length<=sizeLine) q=q:=fun q=>ai (by rw[Dh,Dh];exact sz (by omega))
 simp! only[aa,Iw,hE,Kq]
 refine cF (ip e) ?_
 simp! only[aa,gl]
 refine cE ?_
 simp!
 refine H _ _ ⟨F.app,l++new,by rw[cH,Dr],fun z hz=>?_,by simp [ne],by rw[Dk];omega⟩
 rcases DE.mp hz with hz|hz
 ·exact b z hz
 ·exact oQ hn z hz
theorem jg {E:HU->M W}{x:Str}(hE: ∀j,E (some c::some (.loc j)::tl)=pr (.str x))(hn:[x].all Im=true)(z:n<=10000)(H:∀j h,HF h0 h j (n+20)->Ok (bd (LH (some c::some (.loc j)::tl)) IV) h Q): ∀j h,HF h0 h j n->Ok (bd (L7 (sEx (Kz isL aR (KL 1) (Kw E KB))) LH (some c::some (.loc j)::tl)) IV) h Q:=by
 rintro j h ⟨⟨F,hj⟩,l,e,b,ne,lz⟩
 simp!
 refine dz e ?_
 simp! only[aa,hE]
 refine dB e (by rw[Dh];exact Ec (show _<=10000 by omega) (by decide)) ?_
 simp!
 refine H _ _ ⟨⟨F.trans (Fo.set hj),hj⟩,l++[x],by rw[cn e,Dr];rfl,fun z hz=>?_,by simp,by rw[Dk];show l.length+1<=_;omega⟩
 rcases DE.mp hz with hz|hz
 ·exact b z hz
 ·exact oQ hn z hz
end
theorem wU {h:List Ob}(c:Int):Ok (dh [.int c]) h fun w h'=>(∃z,w=.str z/\HG z)/\Fo h.length h h':=by
 have e0:dh [.int c]=bd (iD [some (.int c),none,none,none]) IV:=rfl
 rw[e0]
 unfold iD
 have s75:ag [.int c,.int 75]=pr (.int (MJ c 75)):=bb (by decide)
 have s70:ag [.int c,.int 70]=pr (.int (MJ c 70)):=bb (by decide)
 refine vJ (new:=["", " ", "box", "box a", "box a 0 5", "box a x", "box A 0", "box a -1", "box a 00", "box a 05"]) (by simp! only[Dj,Dm]) bad0 (by simp) (by decide) fun j h1 A=>?_
 refine aG (n:=20) (new:=["box a +5", "box a 1_0", "box a 1000", "box a 5.0", "box  a 0", "box a 0 ", "Box a 0"]) (fun j=>by simp! only[Dj,Dm]) bad1 (by decide) (by decide) (fun j h1 A=>?_) j h1 A
 refine aG (n:=40) (new:=["boxes a 0", "box abcdefghi 0", "box a1 0", "box 0 a", "box a a", "box a 1+1", "block"]) (fun j=>by simp! only[Dj,Dm]) bad2 (by decide) (by decide) (fun j h1 A=>?_) j h1 A
 refine aG (n:=60) (new:=["block A", "block a b", "block a1", "block abcdefghi", "blocks a", "Block a", "block "]) (fun j=>by simp! only[Dj,Dm]) bad3 (by decide) (by decide) (fun j h1 A=>?_) j h1 A
 refine aG (n:=80) (new:=[" block a", "block 1", "block -a", "put", "put a", "put a 1 2", "put A 1", "put a -1"]) (fun j=>by simp! only[Dj,Dm]) bad4 (by decide) (by decide) (fun j h1 A=>?_) j h1 A
 refine aG (n:=100) (new:=["put a (1", "put a 1)", "put a 1+", "put a a1", "put a 01", "put a 1000", "put a 1 + 1"]) (fun j=>by simp! only[Dj,Dm]) bad5 (by decide) (by decide) (fun j h1 A=>?_) j h1 A
 refine aG (n := 120) (new := ["put 1 a", "put a = 1", "put zz 1+", "put a +1", "put a 1--1", "put a *1", "put a ()"]) (fun j => by simp! only [Dj,Dm]) bad6 (by decide) (by decide) (fun j h1 A => ?_) j h1 A
 refine aG (n:=140) (new:=["put a a(b)", "put a 2a", "put a 1_0", "put a ", "put a a/1", "say", "say 1 2", "say A"]) (fun j=>by simp! only[Dj,Dm]) bad7 (by decide) (by decide) (fun j h1 A=>?_) j h1 A
 refine aG (n:=160) (new:=["say -1", "say 1+", "say ", "Say 1", "says 1", "say (1", "say \"a\"", "say zz 1", "ask"]) (fun j=>by simp! only[Dj,Dm]) bad8 (by decide) (by decide) (fun j h1 A=>?_) j h1 A
 refine aG (n:=180) (new:=["ask a b", "ask A", "ask 1", "asks a", "ask  a", "ask a ", "ask (a)", "go", "go A", "go a b"]) (fun j=>by simp! only[Dj,Dm]) bad9 (by decide) (by decide) (fun j h1 A=>?_) j h1 A
 refine aG (n:=200) (new:=["go 1", "goto a", "go  a", "go a ", "go abcdefghi", "Go a", "if", "if a < 1", "if a < 1 a"]) (fun j=>by simp! only[Dj,Dm]) bad10 (by decide) (by decide) (fun j h1 A=>?_) j h1 A
 refine aG (n:=220) (new:=["if a < 1 a else", "if a < 1 a b", "if a < 1 a else b c", "if a < 1 a else 1"]) (fun j=>by simp! only[Dj,Dm]) bad11 (by decide) (by decide) (fun j h1 A=>?_) j h1 A
 refine aG (n:=240) (new:=["if a < 1 1 else b", "if a > 1 a else b", "if a <= 1 a else b", "if a == 1 a else b"]) (fun j=>by simp! only[Dj,Dm]) bad12 (by decide) (by decide) (fun j h1 A=>?_) j h1 A
 refine aG (n:=260) (new:=["if < a 1 a else b", "if a<1 a else b", "if a < 1 a Else b", "if a < 1 a then b"]) (fun j=>by simp! only[Dj,Dm]) bad13 (by decide) (by decide) (fun j h1 A=>?_) j h1 A
 refine aG (n:=280) (new:=["if a < 1 else a b", "if a < 1  a else b", "if 1) = 2 a else b", "if a1 < 2 a else b"]) (fun j=>by simp! only[Dj,Dm]) bad14 (by decide) (by decide) (fun j h1 A=>?_) j h1 A
 refine aG (n:=300) (new:=["if 1+ < 2 a else b", "if a < (1 a else b", "if a < a else b", "if A < 1 a else b"]) (fun j=>by simp! only[Dj,Dm]) bad15 (by decide) (by decide) (fun j h1 A=>?_) j h1 A
 refine aG (n:=320) (new:=["if zz < 1+ a else b", "if -1 < a a else b", "if a = -1 a else b", "ifs a < 1 a else b"]) (fun j=>by simp! only[Dj,Dm]) bad16 (by decide) (by decide) (fun j h1 A=>?_) j h1 A
 refine aG (n:=340) (new:=["if a < 1 go a", "table", "table a", "table 1", "table a b c d e f g h", "table A a"]) (fun j=>by simp! only[Dj,Dm]) bad17 (by decide) (by decide) (fun j h1 A=>?_) j h1 A
 refine aG (n:=360) (new:=["table 1+ a", "table a A", "table a b 1", "table a  b", "table a b ", "tables a b"]) (fun j=>by simp! only[Dj,Dm]) bad18 (by decide) (by decide) (fun j h1 A=>?_) j h1 A
 refine aG (n:=380) (new:=["Table a b", "table -1 a", "table a b else", "table (a b", "stop 1", "stops", " stop"]) (fun j=>by simp! only[Dj,Dm]) bad19 (by decide) (by decide) (fun j h1 A=>?_) j h1 A
 refine aG (n:=400) (new:=["stop ", "Stop", "stop stop", "end", "else", "else a", "a", "1", "let a 1", "while a < 1"]) (fun j=>by simp! only[Dj,Dm]) bad20 (by decide) (by decide) (fun j h1 A=>?_) j h1 A
 refine aG (n:=420) (new:=["go~a", "# a"]) (fun j=>by simp! only[Dj,Dm]) bad21 (by decide) (by decide) (fun j h1 A=>?_) j h1 A
 have v0:=DG (MJ c 75) (show (10:Int)≠0 by decide)
 have v1:=DJ (MJ c 75) (show (0:Int)<10 by decide)
 have px:ixW (.tl [.str "box",.str "block",.str "put",.str "say",.str "ask",.str "go",.str "if",.str "else",.str "table",.str "stop"]) (.int (MJ c 75 % 10))=pr (.str (M3.getD (MJ c 75 % 10).toNat "")):=bM (kT W.str M3 "" v0 v1)
 have xm:M3.getD (MJ c 75 % 10).toNat ""∈M3:=by
  have:(MJ c 75 % 10).toNat<M3.length:=by show _<10;omega
  rw[EY,DR this]
  exact Fx this
 generalize M3.getD (MJ c 75 % 10).toNat ""=x at *
 have xl:=zv x xm
 have st: ∀ {LH:HU->M Fl}{Q:W->List Ob->Prop},Ok (bd (LH [some (.int c),some (.loc j),some (.tl [.str "box",.str "block",.str "put",.str "say",.str "ask",.str "go",.str "if",.str "else",.str "table",.str "stop"]),some (.str x)]) IV) h1 Q->Ok (bd (L7 (L8 2 (mTl (Kl (Kw (mC (.str "box")) (Kw (mC (.str "block")) (Kw (mC (.str "put")) (Kw (mC (.str "say")) (Kw (mC (.str "ask")) (Kw (mC (.str "go")) (Kw (mC (.str "if")) (Kw (mC (.str "else")) (Kw (mC (.str "table")) (Kw (mC (.str "stop")) KB))))))))))))) (L7 (L8 3 (m2 ixW (KL 2) (m2 KQ (Ku (arW 2 ag) (Kw (KL 0) (Kw (mC (.int 75)) KB))) (mC (.int 10))))) LH) [some (.int c),some (.loc j),none,none]) IV) h1 Q:=fun H=>by
  simp! only[aa,s75,ah (show (0:Int)<10 by decide),px]
  exact H
 refine st ?_
 obtain⟨q0,q1,q2,q3,q4,q5,q6,q7,q8,q9,q10,q11,q12,q13,q14,q15,q16,q17,q18,q19,q20,q21,q22,q23,q24,q25,q26,q27,q28⟩:=By
 refine aG (n:=440) (new:=["box "++x++ " 0", "block "++x, "ask "++x, "put "++x++ " 1"]) (fun j=>by simp! only[Dj,Dm,adS (a:= "box ") (b:=x) (by (try simp only[Mv]);omega),adS (a:= "box "++x) (b:= " 0") (by (try simp only[Mv]);omega),adS (a:= "block ") (b:=x) (by (try simp only[Mv]);omega),adS (a:= "ask ") (b:=x) (by (try simp only[Mv]);omega),adS (a:= "put ") (b:=x) (by (try simp only[Mv]);omega),adS (a:= "put "++x) (b:= " 1") (by (try simp only[Mv]);omega)]) (badw0 x xm) (by simp) (by decide) (fun j h1 A=>?_) j h1 A
 refine jg (n:=460) (x:= "put a "++x) (fun j=>by simp! only[adS (a:= "put a ") (b:=x) (by (try simp only[Mv]);omega)]) (badw1 x xm) (by decide) (fun j h1 A=>?_) j h1 A
 refine aG (n:=480) (new:=["go "++x, "say "++x, "if "++x++ " < 1 a else b"]) (fun j=>by simp! only[Dj,Dm,adS (a:= "go ") (b:=x) (by (try simp only[Mv]);omega),adS (a:= "say ") (b:=x) (by (try simp only[Mv]);omega),adS (a:= "if ") (b:=x) (by (try simp only[Mv]);omega),adS (a:= "if "++x) (b:= " < 1 a else b") (by (try simp only[Mv]);omega)]) (badw2 x xm) (by simp) (by decide) (fun j h1 A=>?_) j h1 A
 refine jg (n:=500) (x:= "if 1 < "++x++ "+1 a else b") (fun j=>by simp! only[adS (a:= "if 1 < ") (b:=x) (by (try simp only[Mv]);omega),adS (a:= "if 1 < "++x) (b:= "+1 a else b") (by (try simp only[Mv]);omega)]) (badw3 x xm) (by decide) (fun j h1 A=>?_) j h1 A
 refine aG (n:=520) (new:=["if 1 < 2 "++x++ " else b", "if 1 < 2 a else "++x, "table 1 a "++x]) (fun j=>by simp! only[Dj,Dm,adS (a:= "if 1 < 2 ") (b:=x) (by (try simp only[Mv]);omega),adS (a:= "if 1 < 2 "++x) (b:= " else b") (by (try simp only[Mv]);omega),adS (a:= "if 1 < 2 a else ") (b:=x) (by (try simp only[Mv]);omega),adS (a:= "table 1 a ") (b:=x) (by (try simp only[Mv]);omega)]) (badw4 x xm) (by simp) (by decide) (fun j h1 A=>?_) j h1 A
 refine jg (n:=540) (x:= "table "++x++ " a") (fun j=>by simp! only[adS (a:= "table ") (b:=x) (by (try simp only[Mv]);omega),adS (a:= "table "++x) (b:= " a") (by (try simp only[Mv]);omega)]) (badw5 x xm) (by decide) (fun j h1 A=>?_) j h1 A
 refine aG (n:=560) (new:=["put a "++(Txt.mul "1+" 30)++ "1", "say "++(Txt.mul "(" 6)++ "a"++(Txt.mul ")" 6), "if "++(Txt.mul "1+" 30)++ "1 = 2 a else b"]) (fun j=>by simp! only[Dj,Dm,KS (z:= "1+") (n:=30) (by decide),adS (a:= "put a ") (b:=(Txt.mul "1+" 30)) (by (try simp only[Mv]);omega),adS (a:= "put a "++(Txt.mul "1+" 30)) (b:= "1") (by (try simp only[Mv]);omega),KS (z:= "(") (n:=6) (by decide),adS (a:= "say ") (b:=(Txt.mul "(" 6)) (by (try simp only[Mv]);omega),adS (a:= "say "++(Txt.mul "(" 6)) (b:= "a") (by (try simp only[Mv]);omega),KS (z:= ")") (n:=6) (by decide),adS (a:= "say "++(Txt.mul "(" 6)++ "a") (b:=(Txt.mul ")" 6)) (by (try simp only[Mv]);omega),KS (z:= "1+") (n:=30) (by decide),adS (a:= "if ") (b:=(Txt.mul "1+" 30)) (by (try simp only[Mv]);omega),adS (a:= "if "++(Txt.mul "1+" 30)) (b:= "1 = 2 a else b") (by (try simp only[Mv]);omega)]) (badw6 x xm) (by simp) (by decide) (fun j h1 A=>?_) j h1 A
 refine jg (n:=580) (x:= "table "++(Txt.mul "1+" 30)++ "1 a") (fun j=>by simp! only[KS (z:= "1+") (n:=30) (by decide),adS (a:= "table ") (b:=(Txt.mul "1+" 30)) (by (try simp only[Mv]);omega),adS (a:= "table "++(Txt.mul "1+" 30)) (b:= "1 a") (by (try simp only[Mv]);omega)]) (badw7 x xm) (by decide) (fun j h1 A=>?_) j h1 A
 obtain⟨⟨F,_⟩,l,e,b,ne,lz⟩:=A
 obtain⟨N,hN⟩: ∃N:Int,N=((l.map W.str).length:Int):=⟨_,rfl⟩
 have hN':N=(l.length:Int):=by rw[hN,Dh]
 have lp:=E8.mpr ne
 have N0:0<N:=by rw[hN,Dh];omega
 have u0:=DG (MJ c 70) (show N≠0 by omega)
 have u1:=DJ (MJ c 70) N0
 have at_:=kT W.str l "" u0 (by rw[<-hN'];exact u1)
 have zm:l.getD (MJ c 70 % N).toNat ""∈l:=by
  have:(MJ c 70 % N).toNat<l.length:=by omega
  rw[EY,DR this]
  exact Fx this
 generalize l.getD (MJ c 70 % N).toNat ""=z at *
 simp! only[aa,s70]
 refine Lw.len_eq (.inr ⟨j,rfl,e⟩) hN ?_
 simp! only[aa,ah N0]
 refine iG e at_ ?_
 simp!
 exact ao ⟨⟨z,rfl,b z zm⟩,F⟩
end
section
open Wd
def HR (f:List Nat->Option (Exp×List Nat)):Prop:= ∀l e r,f l=some (e,r)-> ∃p c,l=p++c::r/\(JU c=true\/c=41)
theorem sr {α:Type}: ∀ {l:List α},l≠ []-> ∃p c,l=p++[c]
 |[],h=>absurd rfl h
 |[c],_=>⟨[],c,rfl⟩
 |a::b::l,_=>by
  obtain⟨p,c,e⟩:=sr (l:=b::l) (by simp)
  exact⟨a::p,c,by rw[e];rfl⟩
theorem mU:HR Kj:=fun l e r h=>by
 have key:(l.takeWhile JU)≠ []-> ∃p c,l=p++c::l.dropWhile JU/\(JU c=true\/c=41):=fun ne=>by
  obtain⟨p,c,e⟩:=sr ne
  refine⟨p,c,?_,.inl ?_⟩
  ·have:=Gn (p:=JU) (l:=l)
   rw[e,DL] at this
   exact this.symm
  ·have hc:c∈l.takeWhile JU:=by rw[e];simp
   exact DC.mp (List.all_takeWhile (l:=l) (p:=JU)) c hc
 have n0:af ⟨([]:List Nat).toArray⟩=false/\K1 ⟨([]:List Nat).toArray⟩=false:=by decide+kernel
 unfold Kj at h
 split at h
 ·rename_i k
  cases h
  exact key fun z=>by rw[z,n0.1] at k;cases k
 ·split at h
  ·rename_i k
   cases h
   exact key fun z=>by rw[z,n0.2] at k;cases k
  ·cases h
theorem lA {f:List Nat->Option (Exp×List Nat)}(hf:HR f)(ops:List Nat): ∀ (n:Nat) (e:Exp) (l:List Nat) (e':Exp) (r:List Nat),Ix f ops n e l=some (e',r)->l=r\/ ∃p c,l=p++c::r/\(JU c=true\/c=41)
 |0,e,l,e',r,h=>by unfold Ix at h;cases h;exact .inl rfl
 |n+1,e,[],e',r,h=>by unfold Ix at h;cases h;exact .inl rfl
 |n+1,e,c::l,e',r,h=>by
  unfold Ix at h
  split at h
  ·cases q:f l with
   |none=>rw[q] at h;cases h
   |some x=>
    obtain⟨e2,r2⟩:=x
    rw[q] at h
    obtain⟨p,c2,e3,k⟩:=hf l e2 r2 q
    rcases lA hf ops n _ r2 e' r h with rfl|⟨p2,c3,e4,k2⟩
    ·exact .inr ⟨c::p,c2,by rw[e3];rfl,k⟩
    ·exact .inr ⟨c::p++c2::p2,c3,by rw[e3,e4];simp,k2⟩
  ·cases h;exact .inl rfl
theorem gI {f:List Nat->Option (Exp×List Nat)}(hf:HR f)(ops:List Nat):HR (Lo f ops):=fun l e r h=>by
 unfold Lo at h
 cases q:f l with
 |none=>rw[q] at h;cases h
 |some x=>
  obtain⟨e2,r2⟩:=x
  rw[q] at h
  obtain⟨p,c,e3,k⟩:=hf l e2 r2 q
  rcases lA hf ops _ _ r2 e r h with rfl|⟨p2,c3,e4,k2⟩
  ·exact⟨p,c,e3,k⟩
  ·exact⟨p++c::p2,c3,by rw[e3,e4];simp,k2⟩
theorem jJ: ∀m,HR (aM m)
 |0=>fun l e r h=>by
  unfold aM at h
  split at h
  ·cases h
  ·exact mU l e r h
 |m+1=>fun l e r h=>by
  unfold aM at h
  split at h
  ·rename_i k
   cases l with
   |nil=>cases k
   |cons a l=>
    have h:bS (Lo (Lo (aM m) Lk) Ll) l=some (e,r):=h
    unfold bS at h
    split at h
    ·rename_i e2 r2 q
     cases h
     have s:=gI (gI (jJ m) Lk) Ll
     obtain⟨p,c,e3,_⟩:=s l e (41::r) q
     exact⟨a::p++[c],41,by rw[e3];simp,.inr rfl⟩
    ·cases h
  ·exact mU l e r h
theorem wE {z:Str}{e:Exp}(h:IT z=some e): ∃p c,z.cps.toList=p++[c]/\(JU c=true\/c=41):=by
 unfold IT at h
 split at h
 ·cases h
 ·split at h
  ·rename_i e2 q
   exact gI (gI (jJ 5) Lk) Ll _ _ _ q
  ·cases h
noncomputable def sg8:List Nat:=[43,42,40,33,46,61,60,45]
theorem my: ∀c∈sg8,JU c=false/\c≠41/\JY c=false/\JV c=false/\c≠32/\c≠10:=by decide+kernel
section
variable {c:Nat}(hc:c∈sg8){z:Str}
include hc
theorem o9:exB (z++⟨#[c]⟩)=false:=by
 unfold exB
 cases q:IT (z++⟨#[c]⟩) with
 |none=>rfl
 |some e=>
  obtain⟨p,d,e1,k⟩:=wE q
  rw[aO] at e1
  have e1:z.cps.toList++[c]=p++[d]:=e1
  obtain⟨_,e2⟩:=List.append_inj' e1 rfl
  cases e2
  obtain⟨k1,k2,_⟩:=my c hc
  rcases k with k|k
  ·rw[k1] at k;cases k
  ·exact absurd k k2
theorem jG:af (z++⟨#[c]⟩)=false:=by
 cases q:af (z++⟨#[c]⟩) with
 |false=>rfl
 |true=>
  unfold af at q
  simp only[Dx,DC] at q
  have:=q.2.1 c (by rw[aO];simp)
  rw[(my c hc).2.2.1] at this;cases this
theorem BJ:K1 (z++⟨#[c]⟩)=false:=by
 cases q:K1 (z++⟨#[c]⟩) with
 |false=>rfl
 |true=>
  unfold K1 at q
  simp only[Dx,DC] at q
  have:=q.2.2 c (by rw[aO];simp)
  rw[(my c hc).2.2.2.1] at this;cases this
theorem yX {k:Str}(hk:k.cps.toList.all JY=true):z++⟨#[c]⟩≠k:=fun e=>by
 have:=DC.mp hk c (by rw[<-e,aO];simp)
 rw[(my c hc).2.2.1] at this;cases this
end
def kw9:List Str:=["box", "block", "put", "say", "ask", "go", "if", "table", "stop"]
theorem oG {hd:Str}{r:List Str}(h:hd ∉ kw9):Ja hd r=false:=by
 unfold Ja
 have n: ∀k∈kw9,hd≠k:=fun k hk e=>h (e▸hk)
 have hk:("box":Str)∈kw9/\("block":Str)∈kw9/\("put":Str)∈kw9/\("say":Str)∈kw9/\("ask":Str)∈kw9/\("go":Str)∈kw9/\("if":Str)∈kw9/\("table":Str)∈kw9/\("stop":Str)∈kw9:=by decide+kernel
 obtain⟨a,b,c,d,e,f,g,i,j⟩:=hk
 rw[if_neg (n _ a),if_neg (n _ b),if_neg (n _ c),if_neg (n _ d),if_neg (n _ e),if_neg (n _ f),if_neg (n _ g),if_neg (n _ i),if_neg (n _ j)]
theorem yw: ∀k∈kw9,k.cps.toList.all JY=true:=by decide+kernel
theorem hdn {a b:Str}(h:decide (a=b)=false):a≠b:=of_decide_eq_false h
theorem wB (r:List Str):Ja "box" r=(match r with|[a,b]=>af a && K1 b|_=>false):=if_pos rfl
theorem p7 (r:List Str):Ja "block" r=(match r with|[a]=>af a|_=>false):=by
 unfold Ja;rw[if_neg (hdn hds.2.1.1),if_pos rfl]<;>rfl
theorem wA (r:List Str):Ja "put" r=(match r with|[a,b]=>af a && exB b|_=>false):=by
 have k:=hds.2.2.1
 unfold Ja;rw[if_neg (hdn k.1),if_neg (hdn k.2.1),if_pos rfl]<;>rfl
theorem wy (r:List Str):Ja "say" r=(match r with|[a]=>exB a|_=>false):=by
 have k:=hds.2.2.2.1
 unfold Ja;rw[if_neg (hdn k.1),if_neg (hdn k.2.1),if_neg (hdn k.2.2.1),if_pos rfl]<;>rfl
theorem wC (r:List Str):Ja "ask" r=(match r with|[a]=>af a|_=>false):=by
 have k:=hds.2.2.2.2.1
 unfold Ja;rw[if_neg (hdn k.1),if_neg (hdn k.2.1),if_neg (hdn k.2.2.1),if_neg (hdn k.2.2.2.1),if_pos rfl]<;>rfl
theorem zk (r:List Str):Ja "go" r=(match r with|[a]=>af a|_=>false):=by
 have k:=hds.2.2.2.2.2.1
 unfold Ja;rw[if_neg (hdn k.1),if_neg (hdn k.2.1),if_neg (hdn k.2.2.1),if_neg (hdn k.2.2.2.1),if_neg (hdn k.2.2.2.2.1),if_pos rfl]<;>rfl
theorem zj (r:List Str):Ja "if" r=(match r with|[a,s,b,x,w,y]=>JM a s b x w y|_=>false):=by
 have k:=hds.2.2.2.2.2.2.1
 unfold Ja;rw[if_neg (hdn k.1),if_neg (hdn k.2.1),if_neg (hdn k.2.2.1),if_neg (hdn k.2.2.2.1),if_neg (hdn k.2.2.2.2.1),if_neg (hdn k.2.2.2.2.2.1),if_pos rfl]<;>rfl
theorem p6 (r:List Str):Ja "table" r=(match r with|a::x::l=>decide (l.length<=5) && (exB a && (x::l).all af)|_=>false):=by
 have k:=hds.2.2.2.2.2.2.2.1
 unfold Ja;rw[if_neg (hdn k.1),if_neg (hdn k.2.1),if_neg (hdn k.2.2.1),if_neg (hdn k.2.2.2.1),if_neg (hdn k.2.2.2.2.1),if_neg (hdn k.2.2.2.2.2.1),if_neg (hdn k.2.2.2.2.2.2.1),if_pos rfl]<;>rfl
theorem yI (r:List Str):Ja "stop" r=r.isEmpty:=by
 have k:=hds.2.2.2.2.2.2.2.2
 unfold Ja;rw[if_neg (hdn k.1),if_neg (hdn k.2.1),if_neg (hdn k.2.2.1),if_neg (hdn k.2.2.2.1),if_neg (hdn k.2.2.2.2.1),if_neg (hdn k.2.2.2.2.2.1),if_neg (hdn k.2.2.2.2.2.2.1),if_neg (hdn k.2.2.2.2.2.2.2),if_pos rfl]
noncomputable def Rr.isT:Rr->Bool
 |.table _ _ _=>true
 |_=>false
def Rr.tlw (r:Rr):List Str:=r.ws.tail
theorem hU (r:Rr):r.ws=r.hd::r.tlw:=by cases r<;>rfl
theorem Cu (r:Rr):r.hd∈kw9:=by
 have hk:("box":Str)∈kw9/\("block":Str)∈kw9/\("put":Str)∈kw9/\("say":Str)∈kw9/\("ask":Str)∈kw9/\("go":Str)∈kw9/\("if":Str)∈kw9/\("table":Str)∈kw9/\("stop":Str)∈kw9:=by decide+kernel
 obtain⟨a,b,c,d,e,f,g,i,j⟩:=hk
 cases r<;>first|exact a|exact b|exact c|exact d|exact e|exact f|exact g|exact i|exact j
theorem i6 {r:Rr}{l:List Str}(nt:r.isT=false)(h:l.length≠r.tlw.length):Ja r.hd l=false:=by
 cases r with
 |box nm v=>
  show Ja "box" l=false
  rw[wB]
  match l,h with
  |[],_=>rfl
  |[a],_=>rfl
  |[a,b],h=>exact absurd rfl h
  |a::b::c::l,_=>rfl
 |block nm=>
  show Ja "block" l=false
  rw[p7]
  match l,h with
  |[],_=>rfl
  |[a],h=>exact absurd rfl h
  |a::b::l,_=>rfl
 |put nm z e=>
  show Ja "put" l=false
  rw[wA]
  match l,h with
  |[],_=>rfl
  |[a],_=>rfl
  |[a,b],h=>exact absurd rfl h
  |a::b::c::l,_=>rfl
 |say z e=>
  show Ja "say" l=false
  rw[wy]
  match l,h with
  |[],_=>rfl
  |[a],h=>exact absurd rfl h
  |a::b::l,_=>rfl
 |ask nm=>
  show Ja "ask" l=false
  rw[wC]
  match l,h with
  |[],_=>rfl
  |[a],h=>exact absurd rfl h
  |a::b::l,_=>rfl
 |go nm=>
  show Ja "go" l=false
  rw[zk]
  match l,h with
  |[],_=>rfl
  |[a],h=>exact absurd rfl h
  |a::b::l,_=>rfl
 |iff s z1 e1 z2 e2 x y=>
  show Ja "if" l=false
  rw[zj]
  match l,h with
  |[],_=>rfl
  |[_],_=>rfl
  |[_,_],_=>rfl
  |[_,_,_],_=>rfl
  |[_,_,_,_],_=>rfl
  |[_,_,_,_,_],_=>rfl
  |[_,_,_,_,_,_],h=>exact absurd rfl h
  |_::_::_::_::_::_::_::l,_=>rfl
 |table z e xs=>cases nt
 |stop=>
  show Ja "stop" l=false
  rw[yI]
  match l,h with
  |[],h=>exact absurd rfl h
  |a::l,_=>rfl
end
section
open Wd
noncomputable def JW (l:List Str):List Nat:=(Str.join ⟨#[32]⟩ l).cps.toList
theorem ox (x:Str):JW [x]=x.cps.toList:=rfl
theorem iB (x:Str){l:List Str}(h:l≠ []):JW (x::l)=x.cps.toList++32::JW l:=by
 cases l with
 |nil=>exact absurd rfl h
 |cons y r=>exact b9 32 x y r
theorem mO (x y:Str)(r:List Str):JW (x::y::r)=x.cps.toList++32::JW (y::r):=b9 32 x y r
theorem zd: ∀ {l:List Str}{i:Nat}{w:Str},l[i]?=some w->JW (l.set i (w++⟨#[32]⟩))=JW (l.take (i+1)++⟨#[]⟩::l.drop (i+1))
 |[],i,w,h=>by cases h
 |x::r,0,w,h=>by
  cases h
  show JW ((x++⟨#[32]⟩)::r)=JW (x::(⟨#[]⟩:Str)::r)
  rw[iB x (by simp)]
  cases r with
  |nil=>rw[ox,ox,aO]
  |cons y r=>rw[mO,mO,aO,DL];rfl
 |x::r,i+1,w,h=>by
  have h:r[i]?=some w:=h
  have ih:=zd h
  have ne:r≠ []:=fun z=>by rw[z] at h;cases h
  have n1:r.set i (w++⟨#[32]⟩)≠ []:=fun z=>ne (by have:=congrArg List.length z;rw[DN] at this;exact List.length_eq_zero_iff.mp this)
  show JW (x::r.set i (w++⟨#[32]⟩))=JW (x::(r.take (i+1)++(⟨#[]⟩:Str)::r.drop (i+1)))
  rw[iB x n1,iB x (by simp),ih]
theorem pS: ∀ {l:List Str},l≠ []-> ∀p,p<=(JW l).length-> ∃pre w1 w2 post,l=pre++(w1++w2)::post/\(JW l).take p++32::(JW l).drop p=JW (pre++w1::w2::post)
 |[],h,_,_=>absurd rfl h
 |[x],_,p,hp=>by
  refine⟨[],⟨(x.cps.toList.take p).toArray⟩,⟨(x.cps.toList.drop p).toArray⟩,[],?_,?_⟩
  ·show [x]=[_]
   congr 1
   exact dS (by rw[aO];show _=x.cps.toList.take p++x.cps.toList.drop p;rw[F4])
  ·show _=JW [_,_]
   rw[mO,ox,ox]
 |x::y::r,_,p,hp=>by
  rw[iB x (by simp)] at hp ⊢
  by_cases c:p<=x.cps.toList.length
  ·refine⟨[],⟨(x.cps.toList.take p).toArray⟩,⟨(x.cps.toList.drop p).toArray⟩,y::r,?_,?_⟩
   ·show x::y::r=_::y::r
    congr 1
    exact dS (by rw[aO];show _=x.cps.toList.take p++x.cps.toList.drop p;rw[F4])
   ·show _=JW (_::_::y::r)
    rw[mO (⟨(x.cps.toList.take p).toArray⟩:Str),mO (⟨(x.cps.toList.drop p).toArray⟩:Str),List.take_append_of_le_length c,List.drop_append_of_le_length c]
  ·obtain⟨q,hq⟩: ∃q,p=x.cps.toList.length+1+q:=⟨p - (x.cps.toList.length+1),by omega⟩
   rw[Dk,Di] at hp
   obtain⟨pre,w1,w2,post,e1,e2⟩:=pS (l:=y::r) (by simp) q (by omega)
   refine⟨x::pre,w1,w2,post,by rw[e1];rfl,?_⟩
   have ne:pre++w1::w2::post≠ []:=by simp
   show _=JW (x::(pre++w1::w2::post))
   rw[iB x ne,<-e2]
   have t1:(x.cps.toList++32::JW (y::r)).take p=x.cps.toList++32::(JW (y::r)).take q:=by
    rw[hq,Nat.add_assoc,List.take_length_add_append,FJ 1 q];rfl
   have t2:(x.cps.toList++32::JW (y::r)).drop p=(JW (y::r)).drop q:=by
    rw[hq,Nat.add_assoc,List.drop_length_add_append,FJ 1 q];rfl
   rw[t1,t2,DL];rfl
theorem nq {t hd:Str}{l:List Str}(e:t.cps.toList=JW (hd::l))(fr: ∀z∈hd::l,32 ∉ z.cps.toList)(nl:10 ∉ t.cps.toList)(len:t.length<=700)(cnt:l.length<=1000)(k:Ja hd l=false):HG t:=by
 have et:t=Str.join ⟨#[32]⟩ (hd::l):=dS e
 refine⟨fun h=>?_,nl,len⟩
 rw[et]
 exact wt fr (by rw[<-et];omega) cnt k
theorem nm0:af ⟨#[]⟩=false/\exB ⟨#[]⟩=false:=by decide+kernel
theorem nE {a:Str}{l:List Str}(h:exB a=false\/ ∃x∈l,af x=false):Ja "table" (a::l)=false:=by
 rw[p6]
 cases l with
 |nil=>rfl
 |cons x l=>
  show (decide (l.length<=5) && (exB a && (x::l).all af))=false
  rcases h with h|⟨y,hy,h⟩
  ·rw[h,EQ,DZ]
  ·have:(x::l).all af=false:=Gq.mpr ⟨y,hy,by rw[h];decide⟩
   rw[this,DZ,DZ]
theorem xf (a:Str):Ja "table" [a]=false:=by rw[p6]
section
variable {c:Nat}(hc:c∈sg8)
include hc
theorem zJ {s:Str}(h:s= "<"\/s= "="):decide (s++⟨#[c]⟩∈(["<", "="]:List Str))=false:=decide_eq_false fun m=>by
 have l1:("<":Str).length=1/\("=":Str).length=1:=by decide+kernel
 have ls:s.length=1:=by rcases h with rfl|rfl;exact l1.1;exact l1.2
 have l2:(s++⟨#[c]⟩:Str).length=s.length+1:=Mv s ⟨#[c]⟩
 simp only[Dp,DO,or_false] at m
 rcases m with m|m
 ·have:=congrArg Str.length m;omega
 ·have:=congrArg Str.length m;omega
theorem xt {r:Rr}(g:r.Ok){k:Nat}{w:Str}(hk:r.tlw[k]?=some w):Ja r.hd (r.tlw.set k (w++⟨#[c]⟩))=false:=by
 have ke:("else":Str).cps.toList.all JY=true:=by decide+kernel
 cases r with
 |box nm v=>
  show Ja "box" (([nm,v]:List Str).set k (w++⟨#[c]⟩))=false
  rw[wB]
  match k,hk with
  |0,hk=>cases hk;show (af (w++⟨#[c]⟩) && K1 v)=false;rw[jG hc];rfl
  |1,hk=>cases hk;show (af nm && K1 (w++⟨#[c]⟩))=false;rw[BJ hc,DZ]
 |block nm=>
  show Ja "block" (([nm]:List Str).set k (w++⟨#[c]⟩))=false
  rw[p7]
  match k,hk with
  |0,hk=>cases hk;exact jG hc
 |put nm z e=>
  show Ja "put" (([nm,z]:List Str).set k (w++⟨#[c]⟩))=false
  rw[wA]
  match k,hk with
  |0,hk=>cases hk;show (af (w++⟨#[c]⟩) && exB z)=false;rw[jG hc];rfl
  |1,hk=>cases hk;show (af nm && exB (w++⟨#[c]⟩))=false;rw[o9 hc,DZ]
 |say z e=>
  show Ja "say" (([z]:List Str).set k (w++⟨#[c]⟩))=false
  rw[wy]
  match k,hk with
  |0,hk=>cases hk;exact o9 hc
 |ask nm=>
  show Ja "ask" (([nm]:List Str).set k (w++⟨#[c]⟩))=false
  rw[wC]
  match k,hk with
  |0,hk=>cases hk;exact jG hc
 |go nm=>
  show Ja "go" (([nm]:List Str).set k (w++⟨#[c]⟩))=false
  rw[zk]
  match k,hk with
  |0,hk=>cases hk;exact jG hc
 |iff s z1 e1 z2 e2 x y=>
  show Ja "if" (([z1,s,z2,x, "else",y]:List Str).set k (w++⟨#[c]⟩))=false
  rw[zj]
  match k,hk with
  |0,hk=>cases hk;show JM (w++⟨#[c]⟩) s z2 x "else" y=false;unfold JM;rw[o9 hc,EQ,DZ]
  |1,hk=>cases hk;show JM z1 (w++⟨#[c]⟩) z2 x "else" y=false;unfold JM;rw[zJ hc g.1];rfl
  |2,hk=>cases hk;show JM z1 s (w++⟨#[c]⟩) x "else" y=false;unfold JM;rw[o9 hc,EQ,DZ,DZ]
  |3,hk=>cases hk;show JM z1 s z2 (w++⟨#[c]⟩) "else" y=false;unfold JM;rw[jG hc,EQ,DZ,DZ,DZ]
  |4,hk=>cases hk;show JM z1 s z2 x ("else"++⟨#[c]⟩) y=false;unfold JM;rw[decide_eq_false (yX hc ke),DZ];rfl
  |5,hk=>cases hk;show JM z1 s z2 x "else" (w++⟨#[c]⟩)=false;unfold JM;rw[jG hc,DZ,DZ,DZ,DZ]
 |table z e xs=>
  show Ja "table" ((z::xs).set k (w++⟨#[c]⟩))=false
  match k,hk with
  |0,hk=>cases hk;exact nE (.inl (o9 hc))
  |j+1,hk=>
   have hj:j<xs.length:=(DK.mp (show xs[j]?=some w from hk)).1
   exact nE (.inr ⟨w++⟨#[c]⟩,List.mem_iff_getElem?.mpr ⟨j,by rw[Eo hj]⟩,jG hc⟩)
 |stop=>cases hk
end
theorem xn {r:Rr}{k:Nat}:Ja r.hd (r.tlw.take k++(⟨#[]⟩:Str)::r.tlw.drop k)=false:=by
 cases hT:r.isT with
 |false=>
  refine i6 hT fun e=>?_
  rw[Dk,Di,DH,DT] at e
  omega
 |true=>
  cases r with
  |table z e xs=>
   show Ja "table" ((z::xs).take k++(⟨#[]⟩:Str)::(z::xs).drop k)=false
   cases k with
   |zero=>exact nE (.inl nm0.2)
   |succ k=>exact nE (.inr ⟨⟨#[]⟩,by simp,nm0.1⟩)
  |_=>cases hT
theorem Bb: ∀k∈kw9,∀n,n<k.cps.toList.length->(⟨(k.cps.toList.take n).toArray⟩:Str) ∉ kw9:=by
 have: ∀k∈kw9,∀n,n<5->n<k.cps.toList.length->(⟨(k.cps.toList.take n).toArray⟩:Str) ∉ kw9:=by decide+kernel
 have l5: ∀k∈kw9,k.cps.toList.length<=5:=by decide+kernel
 exact fun k hk n hn=>this k hk n (by have:=l5 k hk;omega) hn
theorem yT {r:Rr}(nt:r.isT=false){pre post:List Str}{w1 w2:Str}(e:r.ws=pre++(w1++w2)::post): ∃hd l,pre++w1::w2::post=hd::l/\Ja hd l=false/\l.length<=9+r.ws.length:=by
 have ln:=congrArg List.length e
 rw[hU,Di,Dk,Di] at ln
 cases pre with
 |nil=>
  refine⟨w1,w2::post,rfl,?_,by rw[hU,Di,Di];simp at ln;omega⟩
  have eh:r.hd=w1++w2:=by rw[hU] at e;exact (List.cons.inj e).1
  by_cases c:w2.cps.toList=[]
  ·have:w1=r.hd:=dS (by rw[eh,aO,c,DM])
   rw[this]
   exact i6 nt (by rw[Di];simp at ln;omega)
  ·refine oG fun m=>?_
   have lt:w1.cps.toList.length<r.hd.cps.toList.length:=by
    rw[eh,aO,Dk]
    have:=E8.mpr c
    omega
   refine Bb r.hd (Cu r) _ lt ?_
   have:(⟨(r.hd.cps.toList.take w1.cps.toList.length).toArray⟩:Str)=w1:=dS (by rw[eh,aO,List.take_left'];rfl)
   rw[this];exact m
 |cons a pre=>
  refine⟨a,pre++w1::w2::post,rfl,?_,by rw[hU,Di,Dk,Di,Di];simp at ln;omega⟩
  have eh:r.hd=a:=by rw[hU] at e;exact (List.cons.inj e).1
  rw[<-eh]
  exact i6 nt (by rw[Dk,Di,Di];simp at ln;omega)
end
section
open Wd
theorem nF {n:Nat}: ∀ {l:List Str},(∀z∈l,z.length<=n)->(l.map (·.length)).sum<=n * l.length
 |[],_=>by simp
 |z::l,h=>by
  have a:=h z Dt
  have b:=nF (l:=l) fun z hz=>h z (Dz _ hz)
  rw[Dj,Ey,Di,FY]
  omega
theorem rm {l:List Str}(h:∀z∈l,z.length<=100)(l4:l.length<=20):Kb (.str " ") [.tl (l.map W.str)]=pr (.str (Str.join ⟨#[32]⟩ l)):=by
 have k:(" ":Str).length=1:=by decide+kernel
 rw[iq (sz (by have:=nF h;rw[k];omega)),gR]
theorem sP {α β:Type}{m m':M α}{k:α->M β}{h h':List Ob}(e:m h=m' h'):bd m k h=bd m' k h':=by unfold bd;rw[e]
theorem v6 {h:List Ob}{j:Nat}{l:List W}{z:Str}{β:Type}{k:W->M β}{Q:β->List Ob->Prop}(e:h[j]?=some (.lst l))(q:Ok (bd (Kb (.str z) [.tl l]) k) h Q):Ok (bd (Kb (.str z) [.loc j]) k) h Q:=by
 obtain⟨b,h2,e2,r⟩:=q
 refine⟨b,h2,?_,r⟩
 rw[<-e2]
 refine sP ?_
 have e3:Kp (.loc j) h=.ok l h:=ip e
 unfold Kb
 dsimp only
 rw[cQ e3,Kq,aZ]
theorem uM {r:Rr}(g:r.Ok):MC (.str r.tx) [.str " "]=KY (r.ws.map W.str):=by
 rw[gR]
 have e:bX r.tx ⟨#[32]⟩=r.ws:=ko g.cln.2.1 fun z hz=>(g.cln.1 z hz).sp
 show gd _ (KY ((bX r.tx ⟨#[32]⟩).map W.str))=_
 rw[e]
 exact ai ⟨rfl,sz (by have:=g.len;omega),sz (by have:=g.cln.2.2;omega)⟩
theorem sg9 {v:Int}(h0:0<=v)(h1:v<9): ∃c:Nat,ixW (.str "+*(!. =<-") (.int v)=pr (.str ⟨#[c]⟩)/\(c∈sg8\/c=32):=by
 have l3:("+*(!. =<-":Str).length<=sizeLine:=sz (show 9<=_ by omega)
 have k: ∀n,n<9->("+*(!. =<-":Str).cps.toList[n]?=some (([43,42,40,33,46,32,61,60,45]:List Nat).getD n 0)/\((([43,42,40,33,46,32,61,60,45]:List Nat).getD n 0)∈sg8\/(([43,42,40,33,46,32,61,60,45]:List Nat).getD n 0)=32):=by decide+kernel
 obtain⟨k1,k2⟩:=k v.toNat (by omega)
 exact⟨_,fu l3 (aE h0 k1),k2⟩
theorem KP {l:List Str}{i:Nat}{w x:Str}(h:x∈l.set i w):x=w\/x∈l:=by
 rcases List.mem_or_eq_of_mem_set h with h|h
 ·exact .inr h
 ·exact .inl h
theorem zf {l:List Str}(h:∀z∈l,10 ∉ z.cps.toList):10 ∉ JW l:=sv h
theorem xp {r:Rr}(g:r.Ok){i c:Nat}{w:Str}(hi:r.ws[i]?=some w)(hc:c∈sg8\/c=32):HG (Str.join ⟨#[32]⟩ (r.ws.set i (w++⟨#[c]⟩))):=by
 obtain⟨cl,ne,l8⟩:=g.cln
 have cw:=cl w (Ea hi)
 have lw:(w++⟨#[c]⟩:Str).length=w.length+1:=Mv w ⟨#[c]⟩
 have jl:(Str.join ⟨#[32]⟩ (r.ws.set i (w++⟨#[c]⟩))).length<=700:=by
  have:=j3 (c:=32) (n:=61) (l:=r.ws.set i (w++⟨#[c]⟩)) fun z hz=>by
   rcases KP hz with rfl|hz
   ·have:=cw.len;omega
   ·have:=(cl z hz).len;omega
  rw[DN] at this
  omega
 have c10:c≠10:=by
  rcases hc with hc|hc
  ·exact (my c hc).2.2.2.2.2
  ·omega
 have nl:10 ∉ (Str.join ⟨#[32]⟩ (r.ws.set i (w++⟨#[c]⟩))).cps.toList:=zf fun z hz=>by
  rcases KP hz with rfl|hz
  ·rw[aO,DE]
   intro h
   rcases h with h|h
   ·exact cw.nl h
   ·exact c10 (DI.mp h).symm
  ·exact (cl z hz).nl
 have ew:=hU r
 rcases hc with hc|rfl
 ·have fr: ∀z∈r.ws.set i (w++⟨#[c]⟩),32 ∉ z.cps.toList:=fun z hz=>by
   rcases KP hz with rfl|hz
   ·rw[aO,DE]
    intro h
    rcases h with h|h
    ·exact cw.sp h
    ·exact (my c hc).2.2.2.2.1 (DI.mp h).symm
   ·exact (cl z hz).sp
  rw[ew] at fr nl jl hi l8 ⊢
  rw[Di] at l8
  cases i with
  |zero=>
   cases hi
   exact nq rfl fr nl jl (by omega) (oG fun m=>yX hc (yw _ m) rfl)
  |succ k=>
   exact nq rfl fr nl jl (by rw[DN];omega) (xt hc g hi)
 ·have e:=zd hi
  have et:(Str.join ⟨#[32]⟩ (r.ws.set i (w++⟨#[32]⟩))).cps.toList=JW (r.ws.take (i+1)++(⟨#[]⟩:Str)::r.ws.drop (i+1)):=e
  have fr: ∀z∈r.ws.take (i+1)++(⟨#[]⟩:Str)::r.ws.drop (i+1),32 ∉ z.cps.toList:=fun z hz=>by
   rcases DE.mp hz with hz|hz
   ·exact (cl z (Eb hz)).sp
   ·rcases Dp.mp hz with rfl|hz
    ·exact fun h=>by cases h
    ·exact (cl z (EA hz)).sp
  have ef:r.ws.take (i+1)++(⟨#[]⟩:Str)::r.ws.drop (i+1)=r.hd::(r.tlw.take i++(⟨#[]⟩:Str)::r.tlw.drop i):=by rw[ew];rfl
  rw[ef] at et fr
  refine nq et fr nl jl ?_ xn
  rw[ew,Di] at l8
  rw[Dk,Di,DH,DT]
  omega
theorem rY {r:Rr}(g:r.Ok){k:Nat}(k1:1<=k)(kf:Ja r.hd (r.tlw.take (k - 1))=false):HG (Str.join ⟨#[32]⟩ (r.ws.take k)):=by
 obtain⟨cl,ne,l8⟩:=g.cln
 have jl:(Str.join ⟨#[32]⟩ (r.ws.take k)).length<=700:=by
  have:=j3 (c:=32) (n:=60) (l:=r.ws.take k) fun z hz=>(cl z (Eb hz)).len
  rw[DH] at this
  omega
 have nl:10 ∉ (Str.join ⟨#[32]⟩ (r.ws.take k)).cps.toList:=zf fun z hz=>(cl z (Eb hz)).nl
 have fr: ∀z∈r.ws.take k,32 ∉ z.cps.toList:=fun z hz=>(cl z (Eb hz)).sp
 have e:r.ws.take k=r.hd::r.tlw.take (k - 1):=by
  obtain⟨q,rfl⟩: ∃q,k=q+1:=⟨k - 1,by omega⟩
  rw[hU];rfl
 rw[e] at jl nl fr ⊢
 rw[hU,Di] at l8
 exact nq rfl fr nl jl (by rw[DH];omega) kf
theorem app3 {a b:Str}{p:Nat}{z:Str}(ha:a.cps.toList=z.cps.toList.take p)(hb:b.cps.toList=z.cps.toList.drop p):(a++ " "++b).cps.toList=z.cps.toList.take p++32::z.cps.toList.drop p:=by
 rw[gR,aO,aO,ha,hb,DL];rfl
theorem xo {r:Rr}(g:r.Ok)(nt:r.isT=false){p:Nat}{t:Str}(hp:p<=r.tx.length)(et:t.cps.toList=r.tx.cps.toList.take p++32::r.tx.cps.toList.drop p):HG t:=by
 obtain⟨cl,ne,l8⟩:=g.cln
 have gl:=g.len
 have tl:t.length=r.tx.length+1:=by
  show t.cps.toList.length=r.tx.cps.toList.length+1
  rw[et,Dk,Di,DH,DT]
  have hp:p<=r.tx.cps.toList.length:=hp
  omega
 have nl:10 ∉ t.cps.toList:=fun m=>by
  rw[et] at m
  rcases DE.mp m with m|m
  ·exact g.nl (Eb m)
  ·rcases Dp.mp m with m|m
   ·exact absurd m (by decide)
   ·exact g.nl (EA m)
 obtain⟨pre,w1,w2,post,e1,e2⟩:=pS ne p hp
 have et:t.cps.toList=JW (pre++w1::w2::post):=et.trans e2
 have fr: ∀z∈pre++w1::w2::post,32 ∉ z.cps.toList:=fun z hz=>by
  have sub: ∀z∈pre++(w1++w2)::post,32 ∉ z.cps.toList:=fun z hz=>(cl z (by rw[e1];exact hz)).sp
  have m12:=sub (w1++w2) (by simp)
  rw[aO,DE,not_or] at m12
  rcases DE.mp hz with hz|hz
  ·exact sub z (Eu _ hz)
  ·rcases Dp.mp hz with rfl|hz
   ·exact m12.1
   ·rcases Dp.mp hz with rfl|hz
    ·exact m12.2
    ·exact sub z (DW _ (Dz _ hz))
 obtain⟨hd,l,e3,k,lc⟩:=yT nt e1
 rw[e3] at et fr
 exact nq et fr nl (by omega) (by omega) k
theorem xq {r:Rr}(g:r.Ok):HG (" "++r.tx):=by
 obtain⟨cl,ne,l8⟩:=g.cln
 have gl:=g.len
 have et:(" "++r.tx:Str).cps.toList=JW ((⟨#[]⟩:Str)::r.ws):=by
  rw[iB _ ne,gR,aO];rfl
 have nl:10 ∉ (" "++r.tx:Str).cps.toList:=by
  rw[gR,aO,DE]
  intro m
  rcases m with m|m
  ·exact absurd (DI.mp m) (by decide)
  ·exact g.nl m
 refine nq et (fun z hz=>?_) nl (by rw[gR];have:(⟨#[32]⟩++r.tx:Str).length=1+r.tx.length:=Mv ⟨#[32]⟩ r.tx;omega) (by omega) (oG (by decide+kernel))
 rcases Dp.mp hz with rfl|hz
 ·exact fun h=>by cases h
 ·exact (cl z hz).sp
theorem Mb:Im ("say "++(Txt.mul "(" 6++ "a"++Txt.mul ")" 6))=true/\Im ("say "++(Txt.mul "1+" 30++ "1"))=true:=by decide+kernel
theorem Kc:("say ":Str).length=4/\(Txt.mul "1+" 30).length=60/\(Txt.mul "(" 6).length=6/\(Txt.mul ")" 6).length=6/\("a":Str).length=1/\("1":Str).length=1/\(" ":Str).length=1:=by decide+kernel
theorem sX {h:List Ob}{r:Rr}{kd c:Int}(g:r.Ok)(hk:kd=3\/kd=4\/kd=5)(nt:kd=5->r.isT=false):Ok (cS [.str r.tx,.int kd,.int c]) h fun w h'=>(∃z,w=.str z/\HG z)/\Fo h.length h h':=by
 have e0:cS [.str r.tx,.int kd,.int c]=bd (eO [some (.str r.tx),some (.int kd),some (.int c),none,none]) IV:=rfl
 rw[e0]
 unfold eO
 obtain⟨cl,ne,l8⟩:=g.cln
 have sp:=uM g
 have gl:=g.len
 have wl: ∀z∈r.ws,z.length<=60:=fun z hz=>(cl z hz).len
 obtain⟨N,hN⟩: ∃N:Int,N=((r.ws.map W.str).length:Int):=⟨_,rfl⟩
 have hN':N=(r.ws.length:Int):=by rw[hN,Dh]
 have np:=E8.mpr ne
 have s71:ag [.int c,.int 71]=pr (.int (MJ c 71)):=bb (by decide)
 have s72:ag [.int c,.int 72]=pr (.int (MJ c 72)):=bb (by decide)
 have s73:ag [.int c,.int 73]=pr (.int (MJ c 73)):=bb (by decide)
 have s74:ag [.int c,.int 74]=pr (.int (MJ c 74)):=bb (by decide)
 have Fn: ∀b:Ob,Fo h.length h (h++[b]):=fun b=>⟨fun i hi=>by rw[DS hi],by rw[Dk];omega⟩
 have ej:(h++[Ob.lst (r.ws.map W.str)])[h.length]?=some (.lst (r.ws.map W.str)):=cH
 rcases hk with rfl|rfl|rfl
 ·have u0:=DG (MJ c 74) (show N≠0 by omega)
  have u1:=DJ (MJ c 74) (show 0<N by omega)
  have v0:=DG (MJ c 71) (show (9:Int)≠0 by decide)
  have v1:=DJ (MJ c 71) (show (0:Int)<9 by decide)
  obtain⟨d,ed,hd⟩:=sg9 v0 v1
  have hi:(MJ c 74 % N).toNat<r.ws.length:=by omega
  obtain⟨w,hw⟩: ∃w,r.ws[(MJ c 74 % N).toNat]?=some w:=⟨_,DR hi⟩
  have at_:atI (r.ws.map W.str) (MJ c 74 % N)=some (.str w):=aE u0 (by rw[DA,hw];rfl)
  have ix:ixN (r.ws.map W.str).length (MJ c 74 % N)=some (MJ c 74 % N).toNat:=by
   unfold ixN
   rw[if_pos u0,if_pos (by rw[<-hN];exact u1)]
  have b3:=xp g hw hd
  have wz:=wl w (Ea hw)
  have ad:=adS (a:=w) (b:=⟨#[d]⟩) (by show w.length+1<=_;omega)
  have es:(r.ws.map W.str).set (MJ c 74 % N).toNat (.str (w++⟨#[d]⟩))=(r.ws.set (MJ c 74 % N).toNat (w++⟨#[d]⟩)).map W.str:=by rw[List.map_set]
  have jn:=rm (l:=r.ws.set (MJ c 74 % N).toNat (w++⟨#[d]⟩)) (fun z hz=>by
   rcases KP hz with rfl|hz
   ·have:(w++⟨#[d]⟩:Str).length=w.length+1:=Mv w ⟨#[d]⟩
    omega
   ·have:=wl z hz;omega) (by rw[DN];omega)
  generalize r.tx=T at *
  simp! only[aa,sp]
  refine cE ?_
  simp! only[aa,s74]
  refine Lw.len_eq (.inr ⟨h.length,rfl,ej⟩) hN ?_
  simp! only[aa,ah (show 0<N by omega)]
  refine iG ej at_ ?_
  simp! only[aa,s71,ah (show (0:Int)<9 by decide),ed,ad]
  refine y8 ej ix ?_
  simp!
  rw[es]
  refine v6 (cn ej) ?_
  simp! only[aa,jn]
  exact ao ⟨⟨_,rfl,b3⟩,(Fn _).trans (Fo.set (Dl _))⟩
 ·have d43:decide ((4:Int)=3)=false:=by decide
  have hd0:atI (r.ws.map W.str) 0=some (.str r.hd):=by rw[hU];exact aE (by decide) rfl
  cases hT:r.isT with
  |true=>
   have eh:r.hd= "table":=by cases r<;>first|rfl|cases hT
   have c1:decide (1<N)=true:=decide_eq_true (by
    have:r.ws.length=r.tlw.length+1:=by rw[hU];rfl
    have:1<=r.tlw.length:=by
     cases r with
     |table z e xs=>show 1<=(z::xs).length;rw[Di];omega
     |_=>cases hT
    omega)
   have kf:Ja r.hd (r.tlw.take (2 - 1))=false:=by
    cases r with
    |table z e xs=>exact xf z
    |_=>cases hT
   have b4:=rY g (k:=2) (by decide) kf
   have ct:ID (r.ws.map W.str) none (some 2)=(r.ws.take 2).map W.str:=by rw[IF _ (by decide),Eh];rfl
   have jn:=rm (l:=r.ws.take 2) (fun z hz=>by have:=wl z (Eb hz);omega) (by rw[DH];omega)
   rw[eh] at hd0
   generalize r.tx=T at *
   simp! only[aa,sp]
   refine cE ?_
   simp! only[aa,d43]
   refine Lw.len_eq (.inr ⟨h.length,rfl,ej⟩) hN ?_
   simp! only[aa,c1]
   refine iG ej hd0 ?_
   simp!
   refine iG ej hd0 ?_
   simp!
   refine Lw.sl (.inr ⟨h.length,rfl,ej⟩) ?_
   simp! only[aa,ct,jn]
   exact ao ⟨⟨_,rfl,b4⟩,Fn _⟩
  |false=>
   have nh:decide (r.hd= "table")=false:=by
    cases r<;>first|(cases hT;done)|(unfold Rr.hd;simp only[hds])
   by_cases c1:1<N
   ·have u0:=DG (MJ c 72) (show N - 1≠0 by omega)
    have u1:=DJ (MJ c 72) (show 0<N - 1 by omega)
    have tl:r.ws.length=r.tlw.length+1:=by rw[hU];rfl
    have b4:=rY g (k:=(1+MJ c 72 % (N - 1)).toNat) (by omega) (i6 hT (by rw[DH];omega))
    have ct:ID (r.ws.map W.str) none (some (1+MJ c 72 % (N - 1)))=(r.ws.take (1+MJ c 72 % (N - 1)).toNat).map W.str:=by rw[IF _ (by omega),Eh]
    have jn:=rm (l:=r.ws.take (1+MJ c 72 % (N - 1)).toNat) (fun z hz=>by have:=wl z (Eb hz);omega) (by rw[DH];omega)
    generalize r.tx=T at *
    simp! only[aa,sp]
    refine cE ?_
    simp! only[aa,d43]
    refine Lw.len_eq (.inr ⟨h.length,rfl,ej⟩) hN ?_
    simp! only[aa,decide_eq_true c1]
    refine iG ej hd0 ?_
    simp! only[aa,nh,s72]
    refine Lw.len_eq (.inr ⟨h.length,rfl,ej⟩) hN ?_
    simp! only[aa,ah (show 0<N - 1 by omega)]
    refine Lw.sl (.inr ⟨h.length,rfl,ej⟩) ?_
    simp! only[aa,ct,jn]
    exact ao ⟨⟨_,rfl,b4⟩,Fn _⟩
   ·obtain⟨k1,k2,k3,k4,k5,k6,k7⟩:=Kc
    have m2:MJ c 72 % 2=0\/MJ c 72 % 2=1:=by omega
    have f1:=KS (z:= "(") (n:=6) (by decide)
    have f2:=KS (z:= ")") (n:=6) (by decide)
    have f3:=KS (z:= "1+") (n:=30) (by decide)
    have a1:=adS (a:=Txt.mul "(" 6) (b:= "a") (by omega)
    have a2:=adS (a:=Txt.mul "(" 6++ "a") (b:=Txt.mul ")" 6) (by rw[Mv];omega)
    have a3:=adS (a:=Txt.mul "1+" 30) (b:= "1") (by omega)
    have a4:=adS (a:= "say ") (b:=Txt.mul "(" 6++ "a"++Txt.mul ")" 6) (by rw[Mv,Mv];omega)
    have a5:=adS (a:= "say ") (b:=Txt.mul "1+" 30++ "1") (by rw[Mv];omega)
    generalize r.tx=T at *
    simp! only[aa,sp]
    refine cE ?_
    simp! only[aa,d43]
    refine Lw.len_eq (.inr ⟨h.length,rfl,ej⟩) hN ?_
    simp! only[aa,decide_eq_false c1]
    refine iG ej hd0 ?_
    rcases m2 with m|m
    ·simp! only[aa,nh,s72,ah (show (0:Int)<2 by decide),m,tx0,f1,f2,f3,a1,a2,a3,a4]
     exact ao ⟨⟨_,rfl,rJ Mb.1⟩,Fn _⟩
    ·simp! only[aa,nh,s72,ah (show (0:Int)<2 by decide),m,tx1,f1,f2,f3,a1,a2,a3,a5]
     exact ao ⟨⟨_,rfl,rJ Mb.2⟩,Fn _⟩
 ·have hT:=nt rfl
  have d53:decide ((5:Int)=3)=false/\decide ((5:Int)=4)=false:=by decide
  obtain⟨M,hM⟩: ∃M:Int,M=(r.tx.length:Int):=⟨_,rfl⟩
  have u0:=DG (MJ c 73) (show M+1≠0 by omega)
  have u1:=DJ (MJ c 73) (show 0<M+1 by omega)
  have lt:r.tx.cps.toList.length=r.tx.length:=rfl
  have s1:=StrLaws.sliceText_to (x:=r.tx) (j:=MJ c 73 % (M+1)) ⟨u0,by omega⟩
  have s2:=StrLaws.sliceText_from (x:=r.tx) (i:=MJ c 73 % (M+1)) ⟨u0,by omega⟩
  have zT:r.tx.length<=sizeLine:=sz (by omega)
  have w1:=gj (z:=r.tx) (lo:=none) (hi:=some (MJ c 73 % (M+1))) zT
  have w2:=gj (z:=r.tx) (lo:=some (MJ c 73 % (M+1))) (hi:=none) zT
  have c1:(StrLaws.sliceText r.tx none (some (MJ c 73 % (M+1)))).cps.toList=r.tx.cps.toList.take (MJ c 73 % (M+1)).toNat:=by
   rw[s1]
   show List.take (MJ c 73 % (M+1) - 0).toNat (List.drop 0 r.tx.cps.toList)=_
   rw[Int.sub_zero,Ek]
  have c2:(StrLaws.sliceText r.tx (some (MJ c 73 % (M+1))) none).cps.toList=r.tx.cps.toList.drop (MJ c 73 % (M+1)).toNat:=by
   rw[s2]
   show List.take _ (List.drop (MJ c 73 % (M+1)).toNat r.tx.cps.toList)=_
   rw[ED (by rw[DT];omega)]
  have b5:=xo g hT (p:=(MJ c 73 % (M+1)).toNat) (by omega) (app3 c1 c2)
  have l1:(StrLaws.sliceText r.tx none (some (MJ c 73 % (M+1)))).length<=600:=by
   show (StrLaws.sliceText r.tx none (some (MJ c 73 % (M+1)))).cps.toList.length<=600
   rw[c1,DH];omega
  have l2:(StrLaws.sliceText r.tx (some (MJ c 73 % (M+1))) none).length<=600:=by
   show (StrLaws.sliceText r.tx (some (MJ c 73 % (M+1))) none).cps.toList.length<=600
   rw[c2,DT];omega
  have k7:=Kc.2.2.2.2.2.2
  have le:Km [.str r.tx]=pr (.int M):=by rw[hM];exact pP zT
  generalize StrLaws.sliceText r.tx none (some (MJ c 73 % (M+1)))=A at *
  generalize StrLaws.sliceText r.tx (some (MJ c 73 % (M+1))) none=B at *
  have a1:=adS (a:=A) (b:= " ") (by omega)
  have a2:=adS (a:=A++ " ") (b:=B) (by rw[Mv];omega)
  generalize r.tx=T at *
  simp! only[aa,sp]
  refine cE ?_
  simp! only[aa,d53,s73,le,ah (show 0<M+1 by omega),w1,w2,a1,a2]
  exact ao ⟨⟨_,rfl,b5⟩,Fn _⟩
end
section
open Wd
theorem szM {n:Nat}(h:n<=10000000):n<=sizeLine:=Dy h (by decide)
theorem r9: ∀ {a b:List Rr}{s:RS},OkR (a++b) s->OkR a s
 |[],_,_,_=>trivial
 |r::a,b,s,h=>⟨h.1,r9 (a:=a) (b:=b) h.2⟩
theorem BN {bx:List (Str×Str)}{bl:List Bt}(G:PtxG bx bl):OkR (pgR bx bl) RS.nil/\(pgR bx bl).length<=104:=by
 have h1:=rQ bx [] G.b G.bn (by have:=G.b4;show 0+_<=4;omega)
 have ebx:(bxV bx).map (·.1)=bx.map (·.1):=by unfold bxV;rw[El];rfl
 obtain⟨h2,st,h3⟩:=pj bl ⟨bxV bx,[],[],[]⟩ (fun b hb=>G.g b hb) ebx rfl G.n (by have:=G.l;show 0+_<=10;omega)
 have e1:LL (bx.map fun b=>Rr.box b.1 b.2) RS.nil=⟨bxV bx,[],[],[]⟩:=h1.2
 have ll:=LJ fun b hb=>(G.g b hb).l
 have g1:=G.l
 have g3:=G.b4
 have lp:(pgR bx bl).length=bx.length+(bl.flatMap Bt.rows).length:=by unfold pgR;rw[Dk,Dh]
 exact⟨jY h1.1 (by rw[e1];exact h2),by omega⟩
theorem zQ {h:List Ob}{A:List Rr}{z:Str}{B:List Str}(k:OkR A RS.nil)(bz:HG z)(nl: ∀w∈B,10 ∉ w.cps.toList)(lz: ∀w∈B,w.length<=700)(l2:A.length+1+B.length<=120):Xc (lq [.str (Str.join ⟨#[10]⟩ (A.map Rr.tx++z::B))]) h "NoRow":=by
 have e0:lq [.str (Str.join ⟨#[10]⟩ (A.map Rr.tx++z::B))]=bd (oF [some (.str (Str.join ⟨#[10]⟩ (A.map Rr.tx++z::B))),none,none,none]) IV:=rfl
 rw[e0]
 unfold oF
 have Aok:=jZ k
 have hz: ∀w∈A.map Rr.tx++z::B,w.length<=700:=fun w hw=>by
  rcases DE.mp hw with hw|hw
  ·obtain⟨r,hr,rfl⟩:=DV.mp hw
   have:=(Aok r hr).len;omega
  ·rcases Dp.mp hw with rfl|hw
   ·exact bz.len
   ·exact lz w hw
 have hn: ∀w∈A.map Rr.tx++z::B,10 ∉ w.cps.toList:=fun w hw=>by
  rcases DE.mp hw with hw|hw
  ·obtain⟨r,hr,rfl⟩:=DV.mp hw
   exact (Aok r hr).nl
  ·rcases Dp.mp hw with rfl|hw
   ·exact bz.nl
   ·exact nl w hw
 have ln:(A.map Rr.tx++z::B).length=A.length+1+B.length:=by rw[Dk,Dh,Di];omega
 have sp:ME (.str (Str.join ⟨#[10]⟩ (A.map Rr.tx++z::B))) [.str "\n"]=pr (.tl ((A.map Rr.tx++z::B).map W.str)):=by
  rw[za]
  exact kq (by simp) hn (Dy (j3 hz) (by rw[ln];exact szM (by omega))) (sz (by rw[ln];omega))
 have gA: ∀i,i<A.length->(A.map Rr.tx++z::B)[i]?=(A[i]?).map Rr.tx:=fun i hi=>by rw[DS (by rw[Dh];exact hi),DA]
 have gz:(A.map Rr.tx++z::B)[A.length]?=some z:=by rw[Ei (by rw[Dh];exact Dl _),Dh,EV];rfl
 generalize Str.join ⟨#[10]⟩ (A.map Rr.tx++z::B)=T at *
 generalize A.map Rr.tx++z::B=RS' at *
 have d0:decide ((120:Int)<(((RS'.map W.str).length:Nat):Int))=false:=decide_eq_false (by rw[Dh,ln];omega)
 simp! only[aa,sp,d0,Kx]
 have mk:=xR (k:=pr) (Q:=fun w h1=>w=.loc h.length/\Ic h1 h.length (h.length+1) (h.length+2) (h.length+3) (h.length+4) RS.nil) (by rfl) (yE h) fun h1 ⟨A,F1⟩=>ao ⟨rfl,A⟩
 rw[wT] at mk
 refine zn mk fun w h1 qz=>?_
 obtain⟨ew,RA⟩:=qz
 subst ew
 simp! only[aa,dU]
 generalize h.length+1=jb at *
 generalize h.length+2=jn at *
 generalize h.length+3=je at *
 generalize h.length+4=js at *
 generalize ho:h.length=o at *
 have m8:=KR.2.2.2.2.2.2.2.1
 refine Bl (I:=fun i ρ h2=> ∃a js s,ρ=[some (.str T),some (.tl (RS'.map W.str)),some (.loc o),a]/\Ic h2 o jb jn je js s/\OkR (A.drop i) s) A.length (by rw[Dh,ln];omega) ⟨_,js,RS.nil,rfl,RA,k⟩ (fun _ _ _ _=>trivial) (fun i w ρ h2 hi hw I=>?_) fun w ρ h2 hw I=>?_
 ·obtain⟨a,js,s,rfl,A',er⟩:=I
  rw[DA,gA i hi,DR hi] at hw
  cases hw
  rw[EX hi] at er
  obtain⟨⟨g,p⟩,k'⟩:=er
  have fe:=yH g
  have tk:=xg g A' p
  refine⟨_,rfl,?_⟩
  generalize A[i]=r at *
  generalize r.form=F at *
  generalize r.tx=X at *
  simp!
  refine eV A'.ob m8 ?_
  simp! only[aa,fe]
  refine bP tk fun w h3 qq_=>?_
  obtain⟨ew,⟨js',A2⟩,F3⟩:=qq_
  subst ew
  simp!
  exact ao ⟨_,rfl,_,js',_,rfl,A2,k'⟩
 ·obtain⟨a,js,s,rfl,A',er⟩:=I
  rw[DA,gz] at hw
  cases hw
  have bx:=bz.x
  refine⟨_,rfl,?_⟩
  simp!
  refine Cw (eV A'.ob m8 (ao ⟨rfl,rfl⟩)) ?_
  simp!
  exact dI (bx _)
theorem isx {raised:List Str}{c d:Str}(hc:c∈raised)(hd:d∈IA):J2 raised [.exc c,.cls d]=pr (.bl (decide (c=d))):=ai ⟨hc,hd⟩
theorem isxv {raised:List Str}{c:Str}(hc:c∈raised):J2 raised [.exc c,.ty "ValueError"]=pr (.bl true):=ai hc
theorem xO {β:Type}{i m:Nat}{raised:List Str}{fn:List W->M W}{l:HU->M (List W)}{g:HU->M Fl}{ρ:HU}{ws:List W}{c:Str}{h:List Ob}{k:Fl->M β}{Q:β->List Ob->Prop}(e:l ρ h=.ok ws h)(hm:ws.length=m)(x:Xc (fn ws) h c)(hc:c∈raised)(q:∀h1,Ok (bd (bd (g (ρ.set i (some (.exc c)))) fun x=>pr (clr i x)) k) h1 Q):Ok (bd (L9 i raised m fn l g ρ) k) h Q:=by
 obtain⟨h1,x⟩:=x
 obtain⟨b,h2,e2,r⟩:=q h1
 refine⟨b,h2,?_,r⟩
 rw[<-e2]
 refine sP ?_
 unfold L9
 rw[cQ e,if_pos hm,x]
 dsimp only
 rw[if_pos hc]
noncomputable def M9 (c:Str):List W:=[.bl (decide (c= "TooLong")),.bl (decide (c= "NoRow")),.bl (decide (c= "NoPlace")),.bl (decide (c= "Twice")),.bl (decide (c= "Full")),.bl (decide (c= "NoBox")),.bl (decide (c= "Open")),.bl (decide (c= "NoBlock")),.bl (decide (c= "NoForm")),.bl (decide (c= "NoneYet")),.bl (decide (c= "NoOrder")),.bl (decide (c= "NoWay")),.bl false]
theorem c12:((("TooLong":Str)∈IA/\("NoRow":Str)∈IA/\("NoPlace":Str)∈IA/\("Twice":Str)∈IA)/\("Full":Str)∈IA/\("NoBox":Str)∈IA/\("Open":Str)∈IA/\("NoBlock":Str)∈IA)/\("NoForm":Str)∈IA/\("NoneYet":Str)∈IA/\("NoOrder":Str)∈IA/\("NoWay":Str)∈IA:=by decide+kernel
theorem tq {h:List Ob}{T c:Str}{j:Nat}{l:List W}(e:h[j]?=some (.lst l))(jn:Kb (.str "\n") [.tl l]=pr (.str T))(hc:c∈(["NoRow"]:List Str))(x:∀h,Xc (lq [.str T]) h c):Ok (cX [.loc j]) h fun w _=>w=.tl (M9 c):=by
 have e0:cX [.loc j]=bd (dX [some (.loc j),none,none]) IV:=rfl
 rw[e0]
 unfold dX M9
 obtain⟨⟨⟨d1,d2,d3,d4⟩,d5,d6,d7,d8⟩,d9,d10,d11,d12⟩:=c12
 simp!
 refine cE ?_
 simp!
 have ea: ∀t:Option W,(Kw (Kz isS Kb (mC (.str "\n")) (Kw (KL 0) KB)) KB) [some (.loc j),t,none] (h++[.lst []])=.ok [.str T] (h++[.lst []]):=fun t=>by
  have e1:(h++[Ob.lst []])[j]?=some (.lst l):=oE e
  have j1:Kb (.str "\n") [.loc j] (h++[.lst []])=.ok (.str T) (h++[.lst []]):=by
   have:Kb (.str "\n") [.loc j] (h++[.lst []])=Kb (.str "\n") [.tl l] (h++[.lst []]):=by
    unfold Kb
    dsimp only
    rw[cQ (ip e1),Kq,aZ]
   rw[this,jn];rfl
  simp!
  rw[cQ j1];rfl
 refine xO (ws:=[.str T]) (ea _) rfl (x _) hc fun h1=>?_
 simp! only[aa,isx hc d1,isx hc d2,isx hc d3,isx hc d4]
 refine cE ?_
 simp! only[aa,Iw,isx hc d5,isx hc d6,isx hc d7,isx hc d8,Kq]
 refine cF (ip cH) ?_
 simp! only[aa,DY,DU]
 refine cE ?_
 simp! only[aa,Iw,isx hc d9,isx hc d10,isx hc d11,isx hc d12,Kq]
 refine cF (ip cH) ?_
 simp! only[aa,DY,DU]
 refine cE ?_
 simp!
 refine dz cH ?_
 simp! only[aa,isxv hc]
 refine dB cH (show 12<_ by decide) ?_
 simp! only[aa,clr]
 refine oa (cn cH) ?_
 simp!
 exact ao rfl
theorem IE {α:Type}(l:List α){v:Int}(h0:0<=v):ID l (some v) none=l.drop v.toNat:=by
 unfold ID
 show List.take (l.length - (if v<0 then (v+(l.length:Int)).toNat else min v.toNat l.length)) (l.drop (if v<0 then (v+(l.length:Int)).toNat else min v.toNat l.length))=_
 rw[if_neg (by omega)]
 by_cases h:v.toNat<=l.length
 ·rw[Nat.min_eq_left h,ED (by rw[DT];exact Dl _)]
 ·rw[Nat.min_eq_right (by omega),EV,FQ,Gj (by omega)]
theorem Bg {l:List W}{i:Int}{w:W}(h:atI l i=some w):ixW (.cl l) (.int i)=pr w:=by
 funext hh
 unfold ixW
 have:ixO (.cl l) (.int i) hh=some w:=h
 rw[this];rfl
theorem oK (ns:List Int)(i:Int)(h0:0<=i): ∃c:Int,bp [.cl (ns.map W.int),.int i]=pr (.int c):=by
 have e0:bp [.cl (ns.map W.int),.int i]=bd (eg [some (.cl (ns.map W.int)),some (.int i)]) IV:=rfl
 rw[e0]
 unfold eg
 by_cases hc:i<((ns.map W.int).length:Int)
 ·have q:=kT W.int ns 0 h0 (by rw[Dh] at hc;exact hc)
  refine⟨ns.getD i.toNat 0,?_⟩
  simp! only[aa,sm,decide_eq_true hc,Bg q]
 ·refine⟨0,?_⟩
  simp! only[aa,sm,decide_eq_false hc]
theorem sD: ∀bs:List Bool,HD.eqvAll (bs.map HD.bool) (bs.map HD.bool)=true
 |[]=>by simp [HD.eqvAll]
 |a::b=>by
  have ih:=sD b
  simp [HD.eqvAll,HD.eqv,ih]
theorem Bm (bs:List Bool):eqW (.tl (bs.map W.bl)) (.tl (bs.map W.bl))=pr (.bl true):=Bn fun h=>by
 have c:HD.canLayAll0 (bs.map HD.bool)=true:=wL bs fun p hp=>by rw[HD.canLay0]
 have o:Lm (IH h 49) (bs.map W.bl)=some (bs.map HD.bool):=mH (f:=IH h 49) (g:=W.bl) (k:=HD.bool) (fun a=>rfl) bs
 rw[um o o c c,sD]
noncomputable def M8 (c:Str):List Bool:=[decide (c= "TooLong"),decide (c= "NoRow"),decide (c= "NoPlace"),decide (c= "Twice"),decide (c= "Full"),decide (c= "NoBox"),decide (c= "Open"),decide (c= "NoBlock"),decide (c= "NoForm"),decide (c= "NoneYet"),decide (c= "NoOrder"),decide (c= "NoWay"),false]
theorem tolX (c:Str):M9 c=(M8 c).map W.bl:=rfl
end
section
open Wd
def PB:HU->M Fl:=(sIf (mOr (mB (m2 ltW (KL 3) (mC (.int 2)))) (mB (m2 eqW (KL 2) (Ku Km (Kw (KL 1) KB))))) (L8 1 (KA (Iw (m2 Il (m3 slW (KL 1) aj (KF (KL 2))) (mTl (Kl (Kw (Ku (arW 1 dh) (Kw (KL 4) KB)) KB)))) (m3 slW (KL 1) (KF (KL 2)) aj)))) (sIf (mB (m2 eqW (KL 3) (mC (.int 2)))) (aP (KL 1) (KL 2) (Ku (arW 1 dh) (Kw (KL 4) KB))) (sIf (Ks (mB (m2 eqW (m3 slW (m2 ixW (KL 1) (KL 2)) aj (KF (mC (.int 5)))) (mC (.str "table")))) (mB (m2 eqW (KL 3) (mC (.int 5))))) (aP (KL 1) (KL 2) (m2 Il (mC (.str " ")) (m2 ixW (KL 1) (KL 2)))) (aP (KL 1) (KL 2) (Ku (arW 3 cS) (Kw (m2 ixW (KL 1) (KL 2)) (Kw (KL 3) (Kw (KL 4) KB))))))))
theorem tJ:sB=(L7 (L8 1 (m2 ixW (Ku (arW 1 cY) (Kw (m3 slW (KL 0) (KF (mC (.int 3))) aj) KB)) (mC (.int 0)))) (L7 (L8 2 (m2 KQ (Ku (arW 2 bp) (Kw (KL 0) (Kw (mC (.int 0)) KB))) (m2 Il (Ku Km (Kw (KL 1) KB)) (mC (.int 1))))) (L7 (L8 3 (m2 KQ (Ku (arW 2 bp) (Kw (KL 0) (Kw (mC (.int 1)) KB))) (mC (.int 6)))) (L7 (L8 4 (Ku (arW 2 bp) (Kw (KL 0) (Kw (mC (.int 2)) KB)))) (L7 PB (L3 (m2 eqW (Ku (arW 1 cX) (Kw (KL 1) KB)) (mTl (Kv [] (KI (Kw (mC (.int 13)) KB) LI) (tgN 0) KM (m2 eqW (KL 0) (mC (.int 1))) 2))))))))):=rfl
def IM (S:W)(j:Nat)(a k:Int)(c:Int):HU:=[some S,some (.loc j),some (.int a),some (.int k),some (.int c)]
structure Spt (h:List Ob)(j:Nat)(A:List Rr)(z:Str)(B:List Str):Prop where
 e:h[j]?=some (.lst ((A.map Rr.tx++z::B).map W.str))
 k:OkR A RS.nil
 b:HG z
 n: ∀w∈B,10 ∉ w.cps.toList
 l: ∀w∈B,w.length<=700
 z:A.length+1+B.length<=120
theorem uB {z:Str}{e:Exp}{xs:List Str}(g:(Rr.table z e xs).Ok):slW (.str (Rr.table z e xs).tx) none (some 5)=pr (.str "table"):=by
 have gl:=g.len
 have e5:("table":Str).cps.toList.length=5:=by decide+kernel
 have et:(Rr.table z e xs).tx.cps.toList=("table":Str).cps.toList++32::JW (z::xs):=mO "table" z xs
 have l5:5<=(Rr.table z e xs).tx.cps.toList.length:=by rw[et,Dk,e5];omega
 rw[gj (sz (by omega)),StrLaws.sliceText_to (x:=(Rr.table z e xs).tx) (j:=5) ⟨by decide,by omega⟩]
 congr 2
 refine dS ?_
 show List.take (5:Int).toNat (List.drop 0 (Rr.table z e xs).tx.cps.toList)=_
 rw[Ek,et]
 show List.take 5 _=_
 rw[<-e5,List.take_left']
 rfl
theorem BP {h:List Ob}{S:W}{j:Nat}{P:List Rr}{a kd c:Int}(e:h[j]?=some (.lst ((P.map Rr.tx).map W.str)))(k:OkR P RS.nil)(l:P.length<=104)(a0:0<=a)(a1:a<=P.length)(k0:0<=kd)(k6:kd<6):Ok (PB (IM S j a kd c)) h fun x h'=> ∃j' A z B,x=.nx (IM S j' a kd c)/\Spt h' j' A z B:=by
 unfold PB IM
 have Pok:=jZ k
 obtain⟨N,hN⟩: ∃N:Int,N=(((P.map Rr.tx).map W.str).length:Int):=⟨_,rfl⟩
 have hN':N=(P.length:Int):=by rw[hN,Dh,Dh]
 have ka:OkR (P.take a.toNat) RS.nil:=r9 (b:=P.drop a.toNat) (by rw[F4];exact k)
 have lt:(P.take a.toNat).length=a.toNat:=by rw[DH];omega
 have nB: ∀ {n:Nat},∀w∈(P.drop n).map Rr.tx,10 ∉ w.cps.toList:=fun{n} w hw=>by
  obtain⟨r,hr,rfl⟩:=DV.mp hw
  exact (Pok r (EA hr)).nl
 have lB: ∀ {n:Nat},∀w∈(P.drop n).map Rr.tx,w.length<=700:=fun{n} w hw=>by
  obtain⟨r,hr,rfl⟩:=DV.mp hw
  have:=(Pok r (EA hr)).len
  omega
 have ct:ID ((P.map Rr.tx).map W.str) none (some a)=((P.take a.toNat).map Rr.tx).map W.str:=by rw[IF _ a0,Eh,Eh]
 have cd:ID ((P.map Rr.tx).map W.str) (some a) none=((P.drop a.toNat).map Rr.tx).map W.str:=by rw[IE _ a0,E9,E9]
 have ins:Ok (L8 1 (KA (Iw (m2 Il (m3 slW (KL 1) aj (KF (KL 2))) (mTl (Kl (Kw (Ku (arW 1 dh) (Kw (KL 4) KB)) KB)))) (m3 slW (KL 1) (KF (KL 2)) aj))) [some S,some (.loc j),some (.int a),some (.int kd),some (.int c)]) h fun x h'=> ∃j' A z B,x=.nx [some S,some (.loc j'),some (.int a),some (.int kd),some (.int c)]/\Spt h' j' A z B:=by
  simp! only[aa,Iw]
  refine Lw.sl (.inr ⟨j,rfl,e⟩) ?_
  simp! only[aa,ct]
  refine bP (wU c) fun w h1 qq_=>?_
  obtain⟨⟨z,ew,bz⟩,F⟩:=qq_
  subst ew
  have e1:h1[j]?=some (.lst ((P.map Rr.tx).map W.str)):=by rw[F.eq _ (eJ e)];exact e
  have ad:Il (.tl (((P.take a.toNat).map Rr.tx).map W.str)) (.tl [.str z])=pr (.tl (((P.take a.toNat).map Rr.tx++[z]).map W.str)):=by
   rw[kb _ _ (by rw[Dh,Dh,lt];exact sz (show _+1<=_ by omega)),Dr];rfl
  have gl: ∀ {α:Type} (q:M α),gd ((((P.take a.toNat).map Rr.tx++[z]).map W.str).length+(((P.drop a.toNat).map Rr.tx).map W.str).length<=sizeLine) q=q:=fun q=>ai (by
   rw[Dh,Dk,Dh,Dh,Dh,DT,lt]
   exact sz (show a.toNat+1+_<=_ by omega))
  simp! only[aa,ad]
  refine Lw.sl (.inr ⟨j,rfl,e1⟩) ?_
  simp! only[aa,cd,Kq,gl]
  refine cE ?_
  simp!
  refine ao ⟨_,P.take a.toNat,z,(P.drop a.toNat).map Rr.tx,rfl,?_,ka,bz,nB,lB,by rw[lt,Dh,DT];omega⟩
  rw[cH,<-Dr,DL];rfl
 have fin: ∀ (h1:List Ob) (z:Str),a<P.length->HG z->h1[j]?=some (.lst ((P.map Rr.tx).map W.str))->Ok (bd (km (.loc j) (.int a) (.str z)) fun _=>pr (Fl.nx [some S,some (.loc j),some (.int a),some (.int kd),some (.int c)])) h1 fun x h'=> ∃j' A z B,x=.nx [some S,some (.loc j'),some (.int a),some (.int kd),some (.int c)]/\Spt h' j' A z B:=fun h1 z al bz e1=>by
  have ix:ixN ((P.map Rr.tx).map W.str).length a=some a.toNat:=by
   unfold ixN
   rw[if_pos a0,if_pos (by rw[<-hN,hN'];exact al)]
  refine y8 e1 ix ?_
  refine ao ⟨_,P.take a.toNat,z,(P.drop (a.toNat+1)).map Rr.tx,rfl,?_,ka,bz,nB,lB,by rw[lt,Dh,DT];omega⟩
  rw[cn e1,List.set_eq_take_append_cons_drop,if_pos (by rw[Dh,Dh];omega),<-Eh,<-Eh,<-E9,<-E9,Dr];rfl
 by_cases c2:kd<2
 ·simp! only[aa,decide_eq_true c2]
  try simp only[IV,aX,bD,bC,bG,bE,bu,ck,cm,LX,Ky,ar,LR,LS,LW,Nb,L3,L8,LY,sEx,LZ,bv,LU,Ma,aP,mB,L2.m2,L2.m1,L2.m3,KL,mC,Ku,Kw,KB,KJ,mTl,KA,Kl,Kn,KF,aj,Ks,mOr,KC,Kt,KE,KD,mIf,ba,Kz,isS,KH,KI,MF,MH,MG,tgN,tgT,Mn,KM,aZ,bd_no,asB_bl,addW_int,subW_int,ltW_int,leW_int,gtW_int,geW_int,eqW_int,eqW_str,neW_int,neW_str,neW_bl,slW_tl,slW_cl,lenW_tl,lenW_tup,KW,E2,E3,E4,Ez,Di,Ew,arW,if_true,if_false,E5,ite_true,ite_false,reduceIte,decide_true,decide_false,E6,E7,cj,Jf,Jg,Jr,Jx,Jy,Jz,JB,JC,JD,JG,Jh,Ji,Jj,Jk,Jl,Jm,Jn,Jo,Jp,Jq,Js,Jt,Ju,Jv,Jw,aa] at ins
  exact ins
 by_cases ce:a=N
 ·simp! only[aa,decide_eq_false c2]
  refine Lw.len_eq (.inr ⟨j,rfl,e⟩) hN ?_
  simp! only[aa,decide_eq_true ce]
  try simp only[IV,aX,bD,bC,bG,bE,bu,ck,cm,LX,Ky,ar,LR,LS,LW,Nb,L3,L8,LY,sEx,LZ,bv,LU,Ma,aP,mB,L2.m2,L2.m1,L2.m3,KL,mC,Ku,Kw,KB,KJ,mTl,KA,Kl,Kn,KF,aj,Ks,mOr,KC,Kt,KE,KD,mIf,ba,Kz,isS,KH,KI,MF,MH,MG,tgN,tgT,Mn,KM,aZ,bd_no,asB_bl,addW_int,subW_int,ltW_int,leW_int,gtW_int,geW_int,eqW_int,eqW_str,neW_int,neW_str,neW_bl,slW_tl,slW_cl,lenW_tl,lenW_tup,KW,E2,E3,E4,Ez,Di,Ew,arW,if_true,if_false,E5,ite_true,ite_false,reduceIte,decide_true,decide_false,E6,E7,cj,Jf,Jg,Jr,Jx,Jy,Jz,JB,JC,JD,JG,Jh,Ji,Jj,Jk,Jl,Jm,Jn,Jo,Jp,Jq,Js,Jt,Ju,Jv,Jw,aa] at ins
  exact ins
 have al:a<P.length:=by omega
 have hi:a.toNat<P.length:=by omega
 obtain⟨r,hr⟩: ∃r,P[a.toNat]?=some r:=⟨_,DR hi⟩
 have g:=Pok r (Ea hr)
 have at_:atI ((P.map Rr.tx).map W.str) a=some (.str r.tx):=aE a0 (by rw[DA,DA,hr];rfl)
 have gl:=g.len
 by_cases c3:kd=2
 ·simp! only[aa,decide_eq_false c2]
  refine Lw.len_eq (.inr ⟨j,rfl,e⟩) hN ?_
  simp! only[aa,decide_eq_false ce,decide_eq_true c3]
  refine bP (wU c) fun w h1 qq_=>?_
  obtain⟨⟨z,ew,bz⟩,F⟩:=qq_
  subst ew
  have e1:h1[j]?=some (.lst ((P.map Rr.tx).map W.str)):=by rw[F.eq _ (eJ e)];exact e
  simp!
  exact fin h1 z al bz e1
 have w5:=gj (z:=r.tx) (lo:=none) (hi:=some 5) (sz (by omega))
 have k1:(" ":Str).length=1:=Kc.2.2.2.2.2.2
 have ad:=adS (a:= " ") (b:=r.tx) (by omega)
 have b0:=xq g
 have tT:r.isT=true->StrLaws.sliceText r.tx none (some 5)= "table":=fun hT=>by
  cases r with
  |table z e xs=>
   have:=uB g
   rw[w5] at this
   have:=congrArg (fun m:M W=>match m [] with|.ok (.str x) _=>x|_=> "") this
   exact this
  |_=>cases hT
 have sp:=fun nt=>sX (h:=h) (c:=c) g (show kd=3\/kd=4\/kd=5 by omega) nt
 have tf:decide (StrLaws.sliceText r.tx none (some 5)= "table")=false->r.isT=false:=fun h=>by
  cases q:r.isT with
  |false=>rfl
  |true=>rw[decide_eq_true (tT q)] at h;cases h
 have LH:(kd=5->r.isT=false)->Ok (aP (KL 1) (KL 2) (Ku (arW 3 cS) (Kw (m2 ixW (KL 1) (KL 2)) (Kw (KL 3) (Kw (KL 4) KB)))) [some S,some (.loc j),some (.int a),some (.int kd),some (.int c)]) h fun x h'=> ∃j' A z B,x=.nx [some S,some (.loc j'),some (.int a),some (.int kd),some (.int c)]/\Spt h' j' A z B:=fun nt=>by
  have sp:=sp nt
  generalize r.tx=T at *
  simp!
  refine iG e at_ ?_
  simp!
  refine bP sp fun w h1 qq_=>?_
  obtain⟨⟨z,ew,bz⟩,F⟩:=qq_
  subst ew
  have e1:h1[j]?=some (.lst ((P.map Rr.tx).map W.str)):=by rw[F.eq _ (eJ e)];exact e
  simp!
  exact fin h1 z al bz e1
 simp! only[aa,decide_eq_false c2]
 refine Lw.len_eq (.inr ⟨j,rfl,e⟩) hN ?_
 simp! only[aa,decide_eq_false ce,decide_eq_false c3]
 refine iG e at_ ?_
 cases hb:decide (StrLaws.sliceText r.tx none (some 5)= "table") with
 |false=>
  have rs:=LH fun _=>tf hb
  generalize r.tx=T at *
  simp! only[aa,w5,hb]
  try simp only[IV,aX,bD,bC,bG,bE,bu,ck,cm,LX,Ky,ar,LR,LS,LW,Nb,L3,L8,LY,sEx,LZ,bv,LU,Ma,aP,mB,L2.m2,L2.m1,L2.m3,KL,mC,Ku,Kw,KB,KJ,mTl,KA,Kl,Kn,KF,aj,Ks,mOr,KC,Kt,KE,KD,mIf,ba,Kz,isS,KH,KI,MF,MH,MG,tgN,tgT,Mn,KM,aZ,bd_no,asB_bl,addW_int,subW_int,ltW_int,leW_int,gtW_int,geW_int,eqW_int,eqW_str,neW_int,neW_str,neW_bl,slW_tl,slW_cl,lenW_tl,lenW_tup,KW,E2,E3,E4,Ez,Di,Ew,arW,if_true,if_false,E5,ite_true,ite_false,reduceIte,decide_true,decide_false,E6,E7,cj,Jf,Jg,Jr,Jx,Jy,Jz,JB,JC,JD,JG,Jh,Ji,Jj,Jk,Jl,Jm,Jn,Jo,Jp,Jq,Js,Jt,Ju,Jv,Jw,aa] at rs
  exact rs
 |true=>
  by_cases c5:kd=5
  ·generalize r.tx=T at *
   simp! only[aa,w5,hb,decide_eq_true c5]
   refine iG e at_ ?_
   simp! only[aa,ad]
   exact fin h _ al b0 e
  ·have rs:=LH fun h5=>absurd h5 c5
   generalize r.tx=T at *
   simp! only[aa,w5,hb,decide_eq_false c5]
   try simp only[IV,aX,bD,bC,bG,bE,bu,ck,cm,LX,Ky,ar,LR,LS,LW,Nb,L3,L8,LY,sEx,LZ,bv,LU,Ma,aP,mB,L2.m2,L2.m1,L2.m3,KL,mC,Ku,Kw,KB,KJ,mTl,KA,Kl,Kn,KF,aj,Ks,mOr,KC,Kt,KE,KD,mIf,ba,Kz,isS,KH,KI,MF,MH,MG,tgN,tgT,Mn,KM,aZ,bd_no,asB_bl,addW_int,subW_int,ltW_int,leW_int,gtW_int,geW_int,eqW_int,eqW_str,neW_int,neW_str,neW_bl,slW_tl,slW_cl,lenW_tl,lenW_tup,KW,E2,E3,E4,Ez,Di,Ew,arW,if_true,if_false,E5,ite_true,ite_false,reduceIte,decide_true,decide_false,E6,E7,cj,Jf,Jg,Jr,Jx,Jy,Jz,JB,JC,JD,JG,Jh,Ji,Jj,Jk,Jl,Jm,Jn,Jo,Jp,Jq,Js,Jt,Ju,Jv,Jw,aa] at rs
   exact rs
theorem tol1:M8 "NoRow"=[false,true,false,false,false,false,false,false,false,false,false,false,false]:=by decide+kernel
theorem vA {ρ:HU}:IB (fun _=>True) (tgN 0) KM (m2 eqW (KL 0) (mC (.int 1))) 2 (JR 0 13) ρ=pr ((M8 "NoRow").map W.bl):=by
 have:=lC (t:=tgN 0) (f:=KM) (e:=m2 eqW (KL 0) (mC (.int 1))) (n:=2) (ρ:=ρ) (b:=fun _=>true) (v:=fun w=>match w with|.int k=>.bl (decide (k=1))|_=>.non) (l:=JR 0 13) fun w hw=>by
  have hw:w∈[W.int 0,.int 1,.int 2,.int 3,.int 4,.int 5,.int 6,.int 7,.int 8,.int 9,.int 10,.int 11,.int 12]:=hw
  have: ∃i:Int,w=.int i:=by
   simp only[Dp,DO,or_false] at hw
   rcases hw with h|h|h|h|h|h|h|h|h|h|h|h|h<;>exact⟨_,h⟩
  obtain⟨i,rfl⟩:=this
  refine⟨_,rfl,rfl,fun _=>?_⟩
  simp! only[List.replicate,DY,DU,aa]
 rw[this,tol1]
 rfl
theorem Ki (ns:List Int)(h:List Ob): ∃h',p9 [.cl (ns.map W.int)] h=.ok (.bl true) h':=by
 suffices H:Ok (p9 [.cl (ns.map W.int)]) h fun w _=>w=.bl true by
  obtain⟨a,h',e,rfl⟩:=H
  exact⟨h',e⟩
 have e0:p9 [.cl (ns.map W.int)]=bd (sB [some (.cl (ns.map W.int)),none,none,none,none]) IV:=rfl
 rw[e0,tJ]
 obtain⟨c0,e1⟩:=oK ns 0 (by decide)
 obtain⟨c1,e2⟩:=oK ns 1 (by decide)
 obtain⟨c2,e3⟩:=oK ns 2 (by decide)
 have cu:ID (ns.map W.int) (some 3) none=(ns.drop 3).map W.int:=by rw[IE _ (by decide),E9];rfl
 simp! only[aa,cu]
 refine bP (qU (ns.drop 3)) fun w h1 qq_=>?_
 obtain⟨⟨bq,nm,bl,jr,y,G,ew,ej⟩,F⟩:=qq_
 subst ew
 obtain⟨k,l⟩:=BN G.px
 generalize pgR (bxT bq) bl=P at *
 obtain⟨N,hN⟩: ∃N:Int,N=(((P.map Rr.tx).map W.str).length:Int):=⟨_,rfl⟩
 have hN':N=(P.length:Int):=by rw[hN,Dh,Dh]
 generalize hS:W.cl (ns.map W.int)=S at *
 simp! only[aa,tx0,e1]
 refine Lw.len_eq (.inr ⟨jr,rfl,ej⟩) hN ?_
 simp! only[aa,e2,e3,ah (show 0<N+1 by omega),ah (show (0:Int)<6 by decide)]
 have a0:=DG c0 (show N+1≠0 by omega)
 have a1:=DJ c0 (show 0<N+1 by omega)
 refine bP (BP (S:=S) (c:=c2) ej k l a0 (show c0 % (N+1)<=P.length by omega) (DG c1 (show (6:Int)≠0 by decide)) (DJ c1 (show (0:Int)<6 by decide))) fun x h2 qq_=>?_
 obtain⟨j',A,z,B,ex,sp⟩:=qq_
 subst ex
 unfold IM
 have ln:(A.map Rr.tx++z::B).length=A.length+1+B.length:=by rw[Dk,Dh,Di];omega
 have jn:Kb (.str "\n") [.tl ((A.map Rr.tx++z::B).map W.str)]=pr (.str (Str.join ⟨#[10]⟩ (A.map Rr.tx++z::B))):=by
  have k:("\n":Str).length=1:=by decide+kernel
  have Aok:=jZ sp.k
  have hz: ∀w∈A.map Rr.tx++z::B,w.length<=700:=fun w hw=>by
   rcases DE.mp hw with hw|hw
   ·obtain⟨r,hr,rfl⟩:=DV.mp hw
    have:=(Aok r hr).len;omega
   ·rcases Dp.mp hw with rfl|hw
    ·exact sp.b.len
    ·exact sp.l w hw
  rw[iq (szM (by have:=nF hz;have:=sp.z;rw[k,ln] at *;omega)),za]
 have rx:=tq (h:=h2) (c:= "NoRow") sp.e jn (by simp) fun h=>zQ sp.k sp.b sp.n sp.l sp.z
 have r13:LI [.int 13]=pr ⟨JR 0 13,fun _=>True⟩:=fW (by decide) (by decide)
 have g13: ∀ {α:Type} (q:M α),gd ((JR 0 13).length<=sizeLine) q=q:=fun q=>ai (by rw[dD];exact sz (by omega))
 simp!
 refine bP rx fun w h5 ew=>?_
 subst ew
 simp! only[aa,r13,g13,vA]
 rw[tolX,Bm]
 simp!
 exact ao rfl
end
end Q
namespace Q
open PySem L2 Wd
set_option hygiene false in
local macro_rules | `(tactic| and_intros) => `(tactic| repeat' first
 |(apply gNm;first|exact cq _|(apply Ci<;>first|assumption|rfl)|(apply Ch<;>first|assumption|rfl)|(apply Cf<;>first|assumption|rfl))
 |(apply gCo;first|exact A4|exact vT)
 |(apply gJA;first|exact b6|apply Dc)
 |(apply gJZ;first|exact yc|apply fZ|apply on)
 |(apply gJS;first|apply vQ|apply kQ hN|apply B9|apply se|apply Ca|apply vP hu|apply B7|apply Cb|apply B8 hX)
 |(apply gJT;first|apply C8|apply AF|apply B6|refine ze (vM ?_ ?_)|refine ze (zb ?_ ?_)|apply AE)
 |(apply gJW;first|apply vM|apply x5|apply zb|apply AD)
 |(apply gCl;first|apply pJ|apply iL|apply oo|apply A1|apply Da|apply mL|apply sf|apply vU|apply yl|apply ym|apply vS|apply yo|apply yk|apply AO|apply AY|apply Co|apply Cd|apply AZ|exact AX hP (by assumption) (by assumption) (by assumption) (by assumption) (by assumption) (hr.mono (by omega)))
 |(apply gBi;first|apply pJ|apply iL|apply oo|apply A8|apply AW|apply yp|apply AQ|apply AV|apply AT|apply AS)
 |(apply gSu;first|apply C9|apply AR|apply Cc)
 |(apply gJE;first|apply pJ|apply iL|apply oo|apply AN|apply Db|apply vV|apply AU|apply Ck|apply A5)
 |(apply gJF;first|apply kS|apply rg)
 |(apply gJI;first|apply yh|apply AL|apply AM|apply tW|apply yi)
 |(apply gJO;first|apply yd|exact ye)
 |apply jv
 |apply xI
 |apply dm
 |apply yf
 |exact iT
 |exact yg
 |exact sY rfl
 |exact xW rfl
 |exact hu
 |exact hu6
 |assumption
 |exact eW _
 |rfl
 |exact CO hu6
 |exact CD hu6
 |exact CH
 |exact CI
 |exact CK
 |exact CL
 |exact CJ hu
 |exact CC hu
 |exact cr (by assumption) (hr.mono (by omega))
 |exact cs (by assumption) (by assumption) (by assumption) (hr.mono (by omega))
 |exact⟨_,by assumption,by assumption,by assumption⟩
 |exact⟨99,_,dQ 99 _ (by decide),bo hN rfl (by first|exact Or.inl rfl|exact Or.inr rfl)⟩
 |exact⟨99,_,kj 99 _ (by decide),by and_intros⟩
 |exact crx hP (by assumption) (hr.mono (by omega))
 |exact crx qY (by assumption) (hr.mono (by omega))
 |exact crx Af (by assumption) (hr.mono (by omega))
 |exact csx hP (by assumption) (by assumption) (by assumption) (hr.mono (by omega))
 |exact⟨99,_,xc 99 _ (by decide),by and_intros⟩
 |exact bo hN rfl (by first|exact Or.inl rfl|exact Or.inr rfl)
 |exact Hd.never
 |exact Hd.leaving
 |exact PyProof.Rows.boot_int
 |exact PyProof.Rows.boot_bool
 |exact Or.inl rfl
 |exact Or.inr rfl
 |exact fun _=>rfl
 |exact⟨rfl,rfl,rfl,rfl⟩
 |with_unfolding_all rfl
 |decide)
set_option hygiene false in
local macro_rules | `(tactic| ac_rfl) => `(tactic| (intro _ _ _ _ _ _ _ hr hu hu6 hN; and_intros))
theorem zh {P:Prop} [Decidable P] {w:W}(h:List Ob)(y:Str)(h':List Ob):gd P (pr w) h≠.ex y h':=by
 unfold gd pr;split<;>(intro e;cases e)
theorem rC (ws:List W)(h:List Ob)(y:Str)(h':List Ob):fE ws h≠.ex y h':=by
 unfold fE;split
 ·exact zh h y h'
 ·intro e;cases e
theorem ul (ws:List W)(h:List Ob)(y:Str)(h':List Ob):ir ws h≠.ex y h':=by
 unfold ir;split
 ·exact zh h y h'
 ·intro e;cases e
def My (K:PySem.W.Frag):Sp:=fun vs H Q _=> ∃ (a:GH) (ns:List Int),vs=[.ref a]/\SqL K H a (ns.map V.int)/\ns.length<=63/\ ∀H',Q (.bl true) H'
theorem pf {K:PySem.W.Frag}{o:Wo}: ∀ns:List Int,Rvs K o (ns.map W.int) (ns.map V.int)
 |[]=>Rvs.nil
 |n::r=>Rvs.cons (LN.mpr rfl) (pf r)
theorem Kh {P:GE}{w:GF}{K:PySem.W.Frag}{mg:Str->Option GC}{base:GG}{f:GH}{fd:Hn}(C:CG P w K mg base 69 "law" f fd ["script"] 1 p9):FnOk P w K mg base CX0 69 f fd ["script"] (My K):=
 C.ok.imp fun vs H Q E h=>by
  obtain⟨a,ns,rfl,sq,hn,q⟩:=h
  have nl: ¬Lv ⟨fun _=>0,[],H⟩ a:=fun⟨k,b,hk,_⟩=>by simp at hk
  refine⟨⟨fun _=>0,[],H⟩,[.cl (ns.map W.int)],rfl,rfl,⟨fun k b hk=>by simp at hk,fun j k b c hj=>by simp at hj⟩,Rvs.cons ?_ Rvs.nil,?_⟩
  ·unfold Rv
   exact⟨a,_,rfl,sq.imp (fun r=>⟨r,nl⟩) id,pf ns⟩
  ·obtain⟨h',e⟩:=Ki ns []
   show Ps _ _ _ (p9 [.cl (ns.map W.int)] []) Q
   rw[e]
   intro p b _ _ _ rb
   rw[LM.mp rb]
   exact q _
structure Fa (K:PySem.W.Frag)(mg:Str->Option GC)(CS CN c_Reading:GH):Prop where
 n_Reading:GA K GW "Reading"=some (some (.ref c_Reading))
 D_names_in:Dq K mg "names_in" qG
 D_name_of:Dq K mg "name_of" tj
 D_number_of:Dq K mg "number_of" pb
 D_condition_of:Dq K mg "condition_of" kz
 D_form_of:Dq K mg "form_of" mz
 D_boxes_named:Dq K mg "boxes_named" lW
 D_place_of:Dq K mg "place_of" qF
 D_end_by_places:Dq K mg "end_by_places" gU
 D_Reading___init__:Dqm K "__init__" c_Reading "Reading.__init__" iK
 D_Reading_in_block:Dqm K "in_block" c_Reading "Reading.in_block" iJ
 D_Reading_box_names:Dqm K "box_names" c_Reading "Reading.box_names" eK
 D_Reading_check_place:Dqm K "check_place" c_Reading "Reading.check_place" g0
 D_Reading_check_twice:Dqm K "check_twice" c_Reading "Reading.check_twice" gZ
 D_Reading_check_room:Dqm K "check_room" c_Reading "Reading.check_room" ii
 D_Reading_check_boxes:Dqm K "check_boxes" c_Reading "Reading.check_boxes" g7
 D_Reading_put_down:Dqm K "put_down" c_Reading "Reading.put_down" iI
 D_Reading_take:Dqm K "take" c_Reading "Reading.take" kA
 D_Reading_told_program:Dqm K "told_program" c_Reading "Reading.told_program" gk
 D_read:Dq K mg "read" zN
 D_law_cell_at:Dq K mg "_law_cell_at" lV
 D_law_cell:Dq K mg "_law_cell" qL
 D_law_stir:Dq K mg "_law_stir" qI
 D_law_names:Dq K mg "_law_names" fk
 D_law_leaf:Dq K mg "_law_leaf" qJ
 D_law_tree:Dq K mg "_law_tree" qH
 D_law_worded:Dq K mg "_law_worded" nL
 D_law_deepest:Dq K mg "_law_deepest" lU
 D_law_expr:Dq K mg "_law_expr" qK
 D_law_statement:Dq K mg "_law_statement" jL
 D_law_end:Dq K mg "_law_end" jt
 D_law_built:Dq K mg "_law_built" ig
 D_law_program:Dq K mg "_law_program" fL
 D_law_bad:Dq K mg "_law_bad" tm
 D_law_refused:Dq K mg "_law_refused" lT
 D_law_spoilt:Dq K mg "_law_spoilt" nM
 D_law:Dq K mg "law" yZ
 cl_Reading:Cls K c_Reading
 mk_Reading:makesIn K c_Reading=true
 kc_Reading:Gz K (.ref c_Reading)=true
 na_Reading_block_names:PySem.W.findIn K (.ref c_Reading) "block_names"=some none
 na_Reading_boxes:PySem.W.findIn K (.ref c_Reading) "boxes"=some none
 na_Reading_ended_blocks:PySem.W.findIn K (.ref c_Reading) "ended_blocks"=some none
 na_Reading_statements:PySem.W.findIn K (.ref c_Reading) "statements"=some none
 g_CONDITION_SIGNS:Gt K mg "CONDITION_SIGNS" ["<", "="]
 g_STATEMENTS:Gt K mg "STATEMENTS" ["put", "say", "ask"]
 x_Full:Gx K mg "Full"
 x_NoBlock:Gx K mg "NoBlock"
 x_NoBox:Gx K mg "NoBox"
 x_NoPlace:Gx K mg "NoPlace"
 x_NoRow:Gx K mg "NoRow"
 x_Open:Gx K mg "Open"
 x_TooLong:Gx K mg "TooLong"
 x_Twice:Gx K mg "Twice"
 k_Full:Gc K mg "Full"
 k_NoBlock:Gc K mg "NoBlock"
 k_NoBox:Gc K mg "NoBox"
 k_NoForm:Gc K mg "NoForm"
 k_NoOrder:Gc K mg "NoOrder"
 k_NoPlace:Gc K mg "NoPlace"
 k_NoRow:Gc K mg "NoRow"
 k_NoWay:Gc K mg "NoWay"
 k_NoneYet:Gc K mg "NoneYet"
 k_Open:Gc K mg "Open"
 k_TooLong:Gc K mg "TooLong"
 k_Twice:Gc K mg "Twice"
 e_FallError:Ge K mg "FallError" ["NoRow"]
 h_MOST_BLOCKS:Gi mg "MOST_BLOCKS" 10
 h_MOST_BOXES:Gi mg "MOST_BOXES" 4
 h_MOST_IN_TABLE:Gi mg "MOST_IN_TABLE" 6
 h_MOST_ROWS:Gi mg "MOST_ROWS" 120
 h_MOST_STATEMENTS:Gi mg "MOST_STATEMENTS" 8
 aS:GA K GW "Signs"=some (some (.ref CS))
 aN:GA K GW "NoRow"=some (some (.ref CN))
 xN:excIn K CN Ip "ValueError.__new__"=true
 aL:Gs mg "LETTERS" "abcdefghijklmnopqrstuvwxyz"
 aF:Gs mg "FIGURES" "0123456789"
 aW:Gt K mg "TAKEN_WORDS" ["box", "block", "put", "say", "ask", "go", "if", "else", "table", "stop"]
 n0:Gi mg "LONGEST_NAME" 8
 n1:Gi mg "LONGEST_NUMBER" 3
 n2:Gi mg "LONGEST_EXPRESSION" 60
 n3:Gi mg "DEEPEST_BRACKET" 5
 W_Sinit:Dqm K "__init__" CS "Signs.__init__" qN
 W_Sis_done:Dqm K "is_done" CS "Signs.is_done" qO
 W_Sstands_one_of:Dqm K "stands_one_of" CS "Signs.stands_one_of" kB
 W_Stake_sign:Dqm K "take_sign" CS "Signs.take_sign" qM
 W_Srun_of:Dqm K "run_of" CS "Signs.run_of" L4
 W_is_name:Dq K mg "is_name" jT
 W_is_number:Dq K mg "is_number" nO
 W_expression:Dq K mg "expression" LV
 W_read_terms:Dq K mg "read_terms" nN
 W_read_factors:Dq K mg "read_factors" iR
 W_read_factor:Dq K mg "read_factor" jU
 W_read_bracket:Dq K mg "read_bracket" ij
 wc:Cls K CS
 wmk:makesIn K CS=true
 wkc:Gz K (.ref CS)=true
 nW:PySem.W.findIn K (.ref CS) "word"=some none
 nP:PySem.W.findIn K (.ref CS) "place"=some none
 y_ValueError:mg "ValueError"=none
 y_all:mg "all"=none
 y_enumerate:mg "enumerate"=none
 y_int:mg "int"=none
 y_isinstance:mg "isinstance"=none
 y_len:mg "len"=none
 y_max:mg "max"=none
 y_range:mg "range"=none
 y_str:mg "str"=none
 y_sum:mg "sum"=none
 y_tuple:mg "tuple"=none
 m_Reading:mg "Reading"=some (.ref c_Reading)
structure Wf (P:GE)(w:GF)(K:PySem.W.Frag)(mg:Str->Option GC)(base:GG):Prop where
 w1:Cq P w K mg base 1 "is_name" 1 fE
 w2:Cq P w K mg base 1 "is_number" 1 ir
 w3:Cq P w K mg base 28 "expression" 1 wD
 w4:Cqx P w K mg base 1 "is_name" 1 fE
 w5:Cqx P w K mg base 1 "is_number" 1 ir
 w6:Cqx P w K mg base 28 "expression" 1 fQ
section
variable {P:GE}{w:GF}{K:PySem.W.Frag}{mg:Str->Option GC}{base:GG}{CS CN c_Reading:GH}(S:Fa K mg CS CN c_Reading)(V:Wf P w K mg base)
include S V
theorem lI: ∀n:Nat,Cqx P w K mg base (1+n) "names_in" 1 (aV n)
 |0=>okqzx ["e"] 1 S.D_names_in fun _ _=>rfl
 |n+1=>by
  have:=lI n
  cases S;cases V
  exact K5 (k:=1+n) (g:=cO (aV n)) ["e"] 1 (by assumption) (by intro _ _ _ _ _ _ _ hr hu hu6 hN hB;obtain⟨hP,hX,hT,hst⟩:=hB;have hr:Room (1+n) _:=hr;and_intros)
theorem mY:Cqx P w K mg base 2 "name_of" 1 bh:=by
 cases S;cases V
 exact K5 (g:=eP) ["word"] 1 (by assumption) (by intro _ _ _ _ _ _ _ hr hu hu6 hN hB;obtain⟨hP,hX,hT,hst⟩:=hB;and_intros)
theorem qp:Cqx P w K mg base 2 "number_of" 1 dg:=by
 cases S;cases V
 exact K5 (g:=df) ["word"] 1 (by assumption) (by intro _ _ _ _ _ _ _ hr hu hu6 hN hB;obtain⟨hP,hX,hT,hst⟩:=hB;and_intros)
theorem lN:Cqx P w K mg base 29 "condition_of" 1 ci:=by
 have:=mY S V;cases S;cases V
 exact K5 (g:=cc) ["words", "sign", "left", "right"] 1 (by assumption) (by intro _ _ _ _ _ _ _ hr hu hu6 hN hB;obtain⟨hP,hX,hT,hst⟩:=hB;and_intros)
theorem uv:Cqx P w K mg base 30 "form_of" 1 di:=by
 have:=qp S V;have:=mY S V;have:=lN S V;cases S;cases V
 exact K5 (g:=eQ) ["row", "words", "head", "many"] 1 (by assumption) (by intro _ _ _ _ _ _ _ hr hu hu6 hN hB;obtain⟨hP,hX,hT,hst⟩:=hB;and_intros;(have nd:((["word", ".0"]:List Str)++(["row", "words", "head", "many"]:List Str).map (hid ["word", ".0"])).Nodup:=by decide+kernel);exact pI rfl (ls:=["word", ".0"]) (.of (ae mz)) (by and_intros) (fun _ _ _ _=>(bo (i:=0) nd rfl (Or.inl rfl) (.inr rfl))) (dQ 2 0 (by decide)) (fun _ _ _ _=>by and_intros) (fun _ _ _ _ _=>by and_intros) hT hst)
theorem mf:Cqx P w K mg base 64 "boxes_named" 1 aQ:=by
 have:=lI S V 62;cases S;cases V
 exact K5 (g:=am) ["form"] 1 (by assumption) (by intro _ _ _ _ _ _ _ hr hu hu6 hN hB;obtain⟨hP,hX,hT,hst⟩:=hB;and_intros)
theorem rG:Cqx P w K mg base 1 "place_of" 2 eY:=by
 cases S;cases V
 exact K5 (g:=lj) ["name", "block_names"] 2 (by assumption) (by intro _ _ _ _ _ _ _ hr hu hu6 hN hB;obtain⟨hP,hX,hT,hst⟩:=hB;and_intros)
theorem jR:Cqx P w K mg base 2 "end_by_places" 2 gY:=by
 have:=rG S V;cases S;cases V
 exact K5 (g:=gX) ["end", "block_names"] 2 (by assumption) (by intro _ _ _ _ _ _ _ hr hu hu6 hN hB;obtain⟨hP,hX,hT,hst⟩:=hB;and_intros;(have nd:((["name", ".0"]:List Str)++(["end", "block_names"]:List Str).map (hid ["name", ".0"])).Nodup:=by decide+kernel);exact pI rfl (ls:=["name", ".0"]) (.of (ae gU)) (by and_intros) (fun _ _ _ _=>(bo (i:=0) nd rfl (Or.inl rfl) (.inr rfl))) (dQ 2 0 (by decide)) (fun _ _ _ _=>by and_intros) (fun _ _ _ _ _=>by and_intros) hT hst)
theorem iP:HN P w K mg base 1 c_Reading "__init__" 1 cA:=by
 cases S;cases V
 exact K4 (g:=cz) ["self"] 1 (by assumption) (by intro _ _ _ _ _ _ _ hr hu hu6 hN hB;obtain⟨hP,hX,hT,hst⟩:=hB;and_intros)
theorem fg:HN P w K mg base 1 c_Reading "in_block" 1 bj:=by
 cases S;cases V
 exact K4 (g:=cy) ["self"] 1 (by assumption) (by intro _ _ _ _ _ _ _ hr hu hu6 hN hB;obtain⟨hP,hX,hT,hst⟩:=hB;and_intros)
theorem eN:HN P w K mg base 1 c_Reading "box_names" 1 bJ:=by
 cases S;cases V
 exact K4 (g:=b8) ["self"] 1 (by assumption) (by intro _ _ _ _ _ _ _ hr hu hu6 hN hB;obtain⟨hP,hX,hT,hst⟩:=hB;and_intros;(have nd:((["name", "first", ".0"]:List Str)++(["self"]:List Str).map (hid ["name", "first", ".0"])).Nodup:=by decide+kernel);exact gw rfl (ls:=["name", "first", ".0"]) (.of (ae eK)) (by and_intros) (fun _ _ _ _=>(jv rfl (dm (bo (i:=0) nd rfl (Or.inl rfl) (.inr rfl)) (dm (bo (i:=1) nd rfl (Or.inl rfl) (.inr rfl)) iT)))) (kj 3 [0,1] (by decide)) (fun _ _ _ _=>by and_intros) (fun _ _ _ _=>by and_intros) trivial)
theorem g9:HN P w K mg base 2 c_Reading "check_place" 2 aw:=by
 have:=fg S V;cases S;cases V
 exact K4 (g:=aB) ["self", "head"] 2 (by assumption) (by intro _ _ _ _ _ _ _ hr hu hu6 hN hB;obtain⟨hP,hX,hT,hst⟩:=hB;and_intros)
theorem g8:HN P w K mg base 2 c_Reading "check_twice" 2 av:=by
 have:=eN S V;cases S;cases V
 exact K4 (g:=aA) ["self", "form"] 2 (by assumption) (by intro _ _ _ _ _ _ _ hr hu hu6 hN hB;obtain⟨hP,hX,hT,hst⟩:=hB;and_intros)
theorem iu:HN P w K mg base 1 c_Reading "check_room" 2 ay:=by
 cases S;cases V
 exact K4 (g:=aD) ["self", "head"] 2 (by assumption) (by intro _ _ _ _ _ _ _ hr hu hu6 hN hB;obtain⟨hP,hX,hT,hst⟩:=hB;and_intros)
theorem hJ:HN P w K mg base 65 c_Reading "check_boxes" 2 bf:=by
 have:=eN S V;have:=mf S V;cases S;cases V
 exact K4 (g:=bU) ["self", "form", "known", "name"] 2 (by assumption) (by intro _ _ _ _ _ _ _ hr hu hu6 hN hB;obtain⟨hP,hX,hT,hst⟩:=hB;and_intros)
theorem iO:HN P w K mg base 1 c_Reading "put_down" 2 au:=by
 cases S;cases V
 exact K4 (g:=az) ["self", "form"] 2 (by assumption) (by intro _ _ _ _ _ _ _ hr hu hu6 hN hB;obtain⟨hP,hX,hT,hst⟩:=hB;and_intros)
theorem lO:HN P w K mg base 66 c_Reading "take" 2 dH:=by
 have:=g9 S V;have:=g8 S V;have:=iu S V;have:=hJ S V;have:=iO S V;cases S;cases V
 exact K4 (g:=dF) ["self", "form"] 2 (by assumption) (by intro _ _ _ _ _ _ _ hr hu hu6 hN hB;obtain⟨hP,hX,hT,hst⟩:=hB;and_intros)
theorem gO:HN P w K mg base 3 c_Reading "told_program" 1 dG:=by
 have:=fg S V;have:=jR S V;cases S;cases V
 exact K4 (g:=dE) ["self", "blocks", "name", "statements", "end"] 1 (by assumption) (by intro _ _ _ _ _ _ _ hr hu hu6 hN hB;obtain⟨hP,hX,hT,hst⟩:=hB;and_intros)
theorem Bw:Cqx P w K mg base 67 "read" 1 lq:=by
 have:=lO S V;have:=uv S V;have:=gO S V;have:=iP S V;cases S;cases V
 exact K5 (g:=oF) ["text", "rows", "reading", "row"] 1 (by assumption) (by intro _ _ _ _ _ _ _ hr hu hu6 hN hB;obtain⟨hP,hX,hT,hst⟩:=hB;and_intros)
theorem md:Cq P w K mg base 1 "_law_cell_at" 2 bp:=by
 cases S;cases V
 exact okq (g:=eg) ["script", "k"] 2 (by assumption) (by ac_rfl)
theorem lM:Cq P w K mg base 1 "_law_cell" 2 de:=by
 cases S;cases V
 exact okq (g:=gG) ["script", "k"] 2 (by assumption) (by ac_rfl)
theorem cB:Cq P w K mg base 1 "_law_stir" 2 ag:=by
 cases S;cases V
 exact okq (g:=gD) ["cell", "k", "number"] 2 (by assumption) (by ac_rfl)
theorem qq:Cq P w K mg base 2 "_law_names" 3 cP:=by
 have:=cB S V;cases S;cases V
 exact okq (g:=fw) ["head", "k", "many", "letters", "barred", "size", "stem", "found", "j", "number", "at", "word"] 3 (by assumption) (by ac_rfl;(have nd:((["j", ".0"]:List Str)++(["head", "k", "many", "letters", "barred", "size", "stem", "found", "j", "number", "at", "word"]:List Str).map (hid ["j", ".0"])).Nodup:=by decide+kernel);exact gw rfl (ls:=["j", ".0"]) (.of (ae fk)) (by and_intros) (fun _ _ _ _=>(bo (i:=0) nd rfl (Or.inl rfl) (.inr rfl))) (dQ 2 0 (by decide)) (fun _ _ _ _=>by and_intros) (fun _ _ _ _=>by and_intros) trivial;(have nd:((["one", ".0"]:List Str)++(["head", "k", "many", "letters", "barred", "size", "stem", "found", "j", "number", "at", "word"]:List Str).map (hid ["one", ".0"])).Nodup:=by decide+kernel);exact gw rfl (ls:=["one", ".0"]) (.of (ae fk)) (by and_intros;(have nd:((["n", ".0"]:List Str)++(["head", "k", "many", "letters", "barred", "size", "stem", "found", "j", "number", "at", "word"]:List Str).map (hid ["n", ".0"])).Nodup:=by decide+kernel);exact gw rfl (ls:=["n", ".0"]) (.of (ae fk)) (by and_intros) (fun _ _ _ _=>(bo (i:=0) nd rfl (Or.inl rfl) (.inr rfl))) (dQ 2 0 (by decide)) (fun _ _ _ _=>by and_intros) (fun _ _ _ _=>by and_intros) trivial) (fun _ _ _ _=>(bo (i:=0) nd rfl (Or.inl rfl) (.inr rfl))) (dQ 2 0 (by decide)) (fun _ _ _ _=>by and_intros) (fun _ _ _ _=>by and_intros) trivial)
theorem rH:Cq P w K mg base 1 "_law_leaf" 2 gH:=by
 cases S;cases V
 exact okq (g:=gE) ["number", "names"] 2 (by assumption) (by ac_rfl)
theorem lJ: ∀n:Nat,Cq P w K mg base (2+n) "_law_tree" 4 (da n)
 |0=>K6 ["cell", "k", "deep", "names", "number", "sign", "one"] 4 S.D_law_tree fun _ _=>rfl
 |n+1=>by
  have:=lJ n
  have:=cB S V;have:=rH S V;cases S;cases V
  exact okq (k:=2+n) (g:=gC (da n)) ["cell", "k", "deep", "names", "number", "sign", "one"] 4 (by assumption) (by intro _ _ _ _ _ _ _ hr hu hu6 hN;have hr:Room (2+n) _:=hr;and_intros)
theorem ja: ∀n:Nat,Cq P w K mg base (1+n) "_law_worded" 2 (aI n)
 |0=>K6 ["tree", "more", "left", "right"] 2 S.D_law_worded fun _ _=>rfl
 |n+1=>by
  have:=ja n
  cases S;cases V
  exact okq (k:=1+n) (g:=bW (aI n)) ["tree", "more", "left", "right"] 2 (by assumption) (by intro _ _ _ _ _ _ _ hr hu hu6 hN;have hr:Room (1+n) _:=hr;and_intros)
theorem l9:Cq P w K mg base 1 "_law_deepest" 1 eA:=by
 cases S;cases V
 exact okq (g:=dZ) ["word", "deep", "most", "sign"] 1 (by assumption) (by ac_rfl)
theorem lK:Cq P w K mg base 8 "_law_expr" 3 dP:=by
 have:=lJ S V 5;have:=cB S V;have:=ja S V 5;have:=l9 S V;cases S;cases V
 exact okq (g:=gF) ["cell", "k", "names", "tree", "more", "word"] 3 (by assumption) (by ac_rfl)
theorem jQ:Cq P w K mg base 9 "_law_statement" 2 cC:=by
 have:=cB S V;have:=lK S V;cases S;cases V
 exact okq (g:=c7) ["cell", "names", "number", "word", "e", "name"] 2 (by assumption) (by ac_rfl)
theorem ut:Cq P w K mg base 9 "_law_end" 3 eR:=by
 have:=cB S V;have:=lK S V;cases S;cases V
 exact okq (g:=iC) ["cell", "names", "blocks", "number", "kind", "goals", "one", "e", "other", "f", "sign", "words", "some"] 3 (by assumption) (by ac_rfl;(have nd:((["k", ".0"]:List Str)++(["cell", "names", "blocks", "number", "kind", "goals", "one", "e", "other", "f", "sign", "words", "some"]:List Str).map (hid ["k", ".0"])).Nodup:=by decide+kernel);exact kP (i:=5) hN rfl rfl rfl (ls:=["k", ".0"]) (.of (ae jt)) (by and_intros) (fun _ _ _ _=>(bo (i:=0) nd rfl (Or.inl rfl) (.inr rfl))) (dQ 2 0 (by decide)) (fun _ _ _ _=>by and_intros) (fun _ _ _ _=>by and_intros) trivial;(have nd:((["goal", ".0"]:List Str)++(["cell", "names", "blocks", "number", "kind", "goals", "one", "e", "other", "f", "sign", "words", "some"]:List Str).map (hid ["goal", ".0"])).Nodup:=by decide+kernel);exact gw rfl (ls:=["goal", ".0"]) (.of (ae jt)) (by and_intros) (fun _ _ _ _=>(bo (i:=0) nd rfl (Or.inl rfl) (.inr rfl))) (dQ 2 0 (by decide)) (fun _ _ _ _=>by and_intros) (fun _ _ _ _=>by and_intros) trivial)
theorem qr:Cq P w K mg base 10 "_law_built" 3 eE:=by
 have:=lM S V;have:=cB S V;have:=jQ S V;have:=ut S V;cases S;cases V
 exact okq (g:=fz) ["script", "boxes", "blocks", "rows", "names", "found", "k", "name", "cell", "statements", "j", "row", "told"] 3 (by assumption) (by ac_rfl;(have nd:((["name", "first", ".0"]:List Str)++(["script", "boxes", "blocks", "rows", "names", "found", "k", "name", "cell", "statements", "j", "row", "told"]:List Str).map (hid ["name", "first", ".0"])).Nodup:=by decide+kernel);exact tV (i:=3) hN rfl rfl rfl (ls:=["name", "first", ".0"]) (.of (ae ig)) (by and_intros) (fun _ _ _ _=>(jv rfl (dm (bo (i:=0) nd rfl (Or.inl rfl) (.inr rfl)) (dm (bo (i:=1) nd rfl (Or.inl rfl) (.inr rfl)) iT)))) (kj 3 [0,1] (by decide)) (fun _ _ _ _=>by and_intros) (fun _ _ _ _=>by and_intros) trivial;(have nd:((["name", "first", ".0"]:List Str)++(["script", "boxes", "blocks", "rows", "names", "found", "k", "name", "cell", "statements", "j", "row", "told"]:List Str).map (hid ["name", "first", ".0"])).Nodup:=by decide+kernel);exact kP (i:=4) hN rfl rfl rfl (ls:=["name", "first", ".0"]) (.of (ae ig)) (by and_intros) (fun _ _ _ _=>(jv rfl (dm (bo (i:=0) nd rfl (Or.inl rfl) (.inr rfl)) (dm (bo (i:=1) nd rfl (Or.inl rfl) (.inr rfl)) iT)))) (kj 3 [0,1] (by decide)) (fun _ _ _ _=>by and_intros) (fun _ _ _ _=>by and_intros) trivial)
theorem l7:Cq P w K mg base 11 "_law_program" 1 cY:=by
 have:=lM S V;have:=qq S V;have:=cB S V;have:=qr S V;cases S;cases V
 exact okq (g:=dY) ["script", "head", "some", "boxes", "blocks"] 1 (by assumption) (by ac_rfl;(have nd:((["k", "name", ".0"]:List Str)++(["script", "head", "some", "boxes", "blocks"]:List Str).map (hid ["k", "name", ".0"])).Nodup:=by decide+kernel);exact kP (i:=3) hN rfl rfl rfl (ls:=["k", "name", ".0"]) (.of (ae fL)) (by and_intros) (fun _ _ _ _=>(jv rfl (dm (bo (i:=0) nd rfl (Or.inl rfl) (.inr rfl)) (dm (bo (i:=1) nd rfl (Or.inl rfl) (.inr rfl)) iT)))) (kj 3 [0,1] (by decide)) (fun _ _ _ _=>by and_intros) (fun _ _ _ _=>by and_intros) trivial;(have nd:((["name", ".0"]:List Str)++(["script", "head", "some", "boxes", "blocks"]:List Str).map (hid ["name", ".0"])).Nodup:=by decide+kernel);exact gw rfl (ls:=["name", ".0"]) (.of (ae fL)) (by and_intros) (fun _ _ _ _=>(bo (i:=0) nd rfl (Or.inl rfl) (.inr rfl))) (dQ 2 0 (by decide)) (fun _ _ _ _=>by and_intros) (fun _ _ _ _=>by and_intros) trivial)
theorem uu:Cq P w K mg base 2 "_law_bad" 1 dh:=by
 have:=cB S V;cases S;cases V
 exact okq (g:=iD) ["cell", "some", "barred", "word"] 1 (by assumption) (by ac_rfl)
theorem lZ:Cq P w K mg base 68 "_law_refused" 1 cX:=by
 obtain⟨c_FallError,m_FallError,EF⟩:=S.e_FallError;obtain⟨_,_,_,C_read⟩:=Bw S V;obtain⟨_,n_Full,m_Full⟩:=S.k_Full;obtain⟨_,n_NoBlock,m_NoBlock⟩:=S.k_NoBlock;obtain⟨_,n_NoBox,m_NoBox⟩:=S.k_NoBox;obtain⟨_,n_NoForm,m_NoForm⟩:=S.k_NoForm;obtain⟨_,n_NoOrder,m_NoOrder⟩:=S.k_NoOrder;obtain⟨_,n_NoPlace,m_NoPlace⟩:=S.k_NoPlace;obtain⟨_,n_NoRow,m_NoRow⟩:=S.k_NoRow;obtain⟨_,n_NoWay,m_NoWay⟩:=S.k_NoWay;obtain⟨_,n_NoneYet,m_NoneYet⟩:=S.k_NoneYet;obtain⟨_,n_Open,m_Open⟩:=S.k_Open;obtain⟨_,n_TooLong,m_TooLong⟩:=S.k_TooLong;obtain⟨_,n_Twice,m_Twice⟩:=S.k_Twice;have y_ValueError:=S.y_ValueError;have y_isinstance:=S.y_isinstance
 exact okq (g:=dX) ["rows", "told", "e"] 1 S.D_law_refused (by intro _ _ _ _ _ _ _ hr hu hu6 hN;exact (fZ (kQ (i:=1) hN rfl (Or.inl rfl) (iL (kS b6)))
  (fZ (AI (i:=2) (raised:=["NoRow"]) ⟨rfl,rfl,rfl⟩ EF C_read (hr.mono (by omega)) m_FallError hN rfl rfl (fun _ _=>(aq (sf vT (aq (cq 0) b6 bt)) b6 jq)) (fun _=>(fZ (kQ (i:=1) hN rfl (Or.inl rfl) (iL (kS (aq (dO (raised:=["NoRow"]) EF y_isinstance (aq (cq 2) (aq (eI n_TooLong m_TooLong) b6 bt) bt) (he:=bt) (hpl:=(cG bt dC))) (aq (dO (raised:=["NoRow"]) EF y_isinstance (aq (cq 2) (aq (eI n_NoRow m_NoRow) b6 bt) bt) (he:=bt) (hpl:=(cG bt dC))) (aq (dO (raised:=["NoRow"]) EF y_isinstance (aq (cq 2) (aq (eI n_NoPlace m_NoPlace) b6 bt) bt) (he:=bt) (hpl:=(cG bt dC))) (aq (dO (raised:=["NoRow"]) EF y_isinstance (aq (cq 2) (aq (eI n_Twice m_Twice) b6 bt) bt) (he:=bt) (hpl:=(cG bt dC))) b6 jq) jq) jq) jq))))
  (fZ (kQ (i:=1) hN rfl (Or.inl rfl) (iL (rg (cq 1) (pJ (kS (aq (dO (raised:=["NoRow"]) EF y_isinstance (aq (cq 2) (aq (eI n_Full m_Full) b6 bt) bt) (he:=bt) (hpl:=(cG bt dC))) (aq (dO (raised:=["NoRow"]) EF y_isinstance (aq (cq 2) (aq (eI n_NoBox m_NoBox) b6 bt) bt) (he:=bt) (hpl:=(cG bt dC))) (aq (dO (raised:=["NoRow"]) EF y_isinstance (aq (cq 2) (aq (eI n_Open m_Open) b6 bt) bt) (he:=bt) (hpl:=(cG bt dC))) (aq (dO (raised:=["NoRow"]) EF y_isinstance (aq (cq 2) (aq (eI n_NoBlock m_NoBlock) b6 bt) bt) (he:=bt) (hpl:=(cG bt dC))) b6 jq) jq) jq) jq))))))
  (fZ (kQ (i:=1) hN rfl (Or.inl rfl) (iL (rg (cq 1) (pJ (kS (aq (dO (raised:=["NoRow"]) EF y_isinstance (aq (cq 2) (aq (eI n_NoForm m_NoForm) b6 bt) bt) (he:=bt) (hpl:=(cG bt dC))) (aq (dO (raised:=["NoRow"]) EF y_isinstance (aq (cq 2) (aq (eI n_NoneYet m_NoneYet) b6 bt) bt) (he:=bt) (hpl:=(cG bt dC))) (aq (dO (raised:=["NoRow"]) EF y_isinstance (aq (cq 2) (aq (eI n_NoOrder m_NoOrder) b6 bt) bt) (he:=bt) (hpl:=(cG bt dC))) (aq (dO (raised:=["NoRow"]) EF y_isinstance (aq (cq 2) (aq (eI n_NoWay m_NoWay) b6 bt) bt) (he:=bt) (hpl:=(cG bt dC))) b6 jq) jq) jq) jq))))))
  (on (se (mL (cq 1) (aq (vV (dO (raised:=["NoRow"]) EF y_isinstance (aq (cq 2) (aq (yj y_ValueError) b6 bt) bt) (he:=bt) (hpl:=(cG bt dC)))) b6 C4)))))))))
  (on (vQ (oo (cq 1)))))))
theorem oP:Cq P w K mg base 2 "_law_spoilt" 3 cS:=by
 have:=cB S V;cases S;cases V
 exact okq (g:=eO) ["row", "kind", "cell", "words", "at"] 3 (by assumption) (by ac_rfl)
end
theorem all_mk {l:PySem.W.OpenLaw}{w:GF}{K:PySem.W.Frag}{h:GG}{mg:Str->Option GC}{fa CS CN c_Reading:GH}(X:K.In h)(G:h.Ns GW mg)(hfa:mg "law"=some (.ref fa))(S:Fa K mg CS CN c_Reading):
  ∃fd:Hn,(∀ (s:GJ) (v:GC),BindsTo s fd ⟨[v],[]⟩ [("script",v)])/\ ∀base:GG,K.In base->base.Ns GW mg->FnOk l.prog w K mg base CX0 69 fa fd ["script"] (My K):=by
 obtain⟨_,d,FL,ML⟩:=S.D_law
 cases hfa.symm.trans ML
 have T:Txt K mg CS CN:=⟨S.wc,S.nW,S.nP,GB X G S.aS,GB X G S.aN,S.xN,S.y_len,S.y_all,S.y_int,S.aL,S.aF,S.aW,S.n0,S.n1,S.n2,S.n3⟩
 obtain⟨_,_,F_Sinit,M_Sinit⟩:=S.W_Sinit
 have B_Sinit:=F_Sinit.binds (ps:=["self", "word"]) fun _ _ _ _ _ _ us hl=>by obtain⟨_,_,rfl⟩:=ln2 hl;rfl
 obtain⟨_,_,F_Sis_done,M_Sis_done⟩:=S.W_Sis_done
 have B_Sis_done:=F_Sis_done.binds (ps:=["self"]) fun _ _ _ _ _ _ us hl=>by obtain⟨_,rfl⟩:=ln1 hl;rfl
 obtain⟨_,_,F_Sstands_one_of,M_Sstands_one_of⟩:=S.W_Sstands_one_of
 have B_Sstands_one_of:=F_Sstands_one_of.binds (ps:=["self", "wanted"]) fun _ _ _ _ _ _ us hl=>by obtain⟨_,_,rfl⟩:=ln2 hl;rfl
 obtain⟨_,_,F_Stake_sign,M_Stake_sign⟩:=S.W_Stake_sign
 have B_Stake_sign:=F_Stake_sign.binds (ps:=["self"]) fun _ _ _ _ _ _ us hl=>by obtain⟨_,rfl⟩:=ln1 hl;rfl
 obtain⟨_,_,F_Srun_of,M_Srun_of⟩:=S.W_Srun_of
 have B_Srun_of:=F_Srun_of.binds (ps:=["self", "wanted"]) fun _ _ _ _ _ _ us hl=>by obtain⟨_,_,rfl⟩:=ln2 hl;rfl
 obtain⟨_,_,F_is_name,M_is_name⟩:=S.W_is_name
 have B_is_name:=F_is_name.binds (ps:=["word"]) fun _ _ _ _ _ _ us hl=>by obtain⟨_,rfl⟩:=ln1 hl;rfl
 obtain⟨_,_,F_is_number,M_is_number⟩:=S.W_is_number
 have B_is_number:=F_is_number.binds (ps:=["word"]) fun _ _ _ _ _ _ us hl=>by obtain⟨_,rfl⟩:=ln1 hl;rfl
 obtain⟨_,_,F_expression,M_expression⟩:=S.W_expression
 have B_expression:=F_expression.binds (ps:=["word"]) fun _ _ _ _ _ _ us hl=>by obtain⟨_,rfl⟩:=ln1 hl;rfl
 obtain⟨_,_,F_read_terms,M_read_terms⟩:=S.W_read_terms
 have B_read_terms:=F_read_terms.binds (ps:=["signs", "depth"]) fun _ _ _ _ _ _ us hl=>by obtain⟨_,_,rfl⟩:=ln2 hl;rfl
 obtain⟨_,_,F_read_factors,M_read_factors⟩:=S.W_read_factors
 have B_read_factors:=F_read_factors.binds (ps:=["signs", "depth"]) fun _ _ _ _ _ _ us hl=>by obtain⟨_,_,rfl⟩:=ln2 hl;rfl
 obtain⟨_,_,F_read_factor,M_read_factor⟩:=S.W_read_factor
 have B_read_factor:=F_read_factor.binds (ps:=["signs", "depth"]) fun _ _ _ _ _ _ us hl=>by obtain⟨_,_,rfl⟩:=ln2 hl;rfl
 obtain⟨_,_,F_read_bracket,M_read_bracket⟩:=S.W_read_bracket
 have B_read_bracket:=F_read_bracket.binds (ps:=["signs", "depth"]) fun _ _ _ _ _ _ us hl=>by obtain⟨_,_,rfl⟩:=ln2 hl;rfl
 obtain⟨oc,od,kV,doc,pm,an,cdv,ct,osl,ed,lk,hcd⟩:=FL.ex
 refine⟨d,fun s v=>by rw[ed];exact .of_eq rfl,fun base _ _=>?_⟩
 have MD:CM l.prog w K mg base CX0 1 CS "is_done" _ _ ["self"] (nJ CS):=⟨xU F_Sis_done T,B_Sis_done,M_Sis_done⟩
 have MS:CM l.prog w K mg base CX0 2 CS "stands_one_of" _ _ ["self", "wanted"] (eB CS):=⟨tO F_Sstands_one_of T MD,B_Sstands_one_of,M_Sstands_one_of⟩
 have MT:CM l.prog w K mg base CX0 1 CS "take_sign" _ _ ["self"] (jm CS):=⟨xP F_Stake_sign T,B_Stake_sign,M_Stake_sign⟩
 have MR:CM l.prog w K mg base CX0 3 CS "run_of" _ _ ["self", "wanted"] (MB CS):=⟨Ax F_Srun_of T MS,B_Srun_of,M_Srun_of⟩
 have CNm:CF l.prog w K mg base CX0 1 "is_name" _ _ ["word"] kr:=⟨xQ F_is_name T,B_is_name,F_is_name.kp,M_is_name⟩
 have CNu:CF l.prog w K mg base CX0 1 "is_number" _ _ ["word"] MA:=⟨Ay F_is_number T,B_is_number,F_is_number.kp,M_is_number⟩
 have RT:=rR T F_read_terms B_read_terms M_read_terms F_read_factors B_read_factors M_read_factors F_read_factor B_read_factor M_read_factor F_read_bracket B_read_bracket M_read_bracket MS MT MR CNm CNu 5 (by decide)
 have CE:CF l.prog w K mg base (CXx l.prog w) 28 "expression" _ _ ["word"] (nI CN):=⟨xT (by decide) F_expression T RT ⟨S.wmk,M_Sinit.at_,M_Sinit.fn,S.wkc⟩ (vC F_Sinit T) B_Sinit MD,B_expression,F_expression.kp,M_expression⟩
 have V:Wf l.prog w K mg base:=⟨⟨_,_,_,mX CNm⟩,⟨_,_,_,qj CNu⟩,⟨_,_,_,yQ CE⟩,rE ⟨_,_,_,mX CNm⟩ rC,rE ⟨_,_,_,qj CNu⟩ ul,⟨_,_,_,yO (GB X G S.aN) CE⟩⟩
 clear T MD MS MT MR CNm CNu RT CE
 have:=l7 S V;have:=md S V;have:=uu S V;have:=oP S V;have:=lZ S V;cases S;cases V
 exact Kh (okf (g:=sB) ["script", "rows", "at", "kind", "cell"] 1 FL ML (by intro _ _ _ _ _ _ hr hu hu6 hN;and_intros;(have nd:((["k", ".0"]:List Str)++(["script", "rows", "at", "kind", "cell"]:List Str).map (hid ["k", ".0"])).Nodup:=by decide+kernel);exact gw rfl (ls:=["k", ".0"]) (.of (ae yZ)) (by and_intros) (fun _ _ _ _=>(bo (i:=0) nd rfl (Or.inl rfl) (.inr rfl))) (dQ 2 0 (by decide)) (fun _ _ _ _=>by and_intros) (fun _ _ _ _=>by and_intros) trivial))
theorem walk {l:PySem.W.OpenLaw}{q:GE}{loose:List Str}{XP:(Str->Option GC)->GG->Prop}{YP:GF->GG->Prop}{d:DefRec}{K:Params->PySem.W.Frag}(hn:l.most=some 63)(hdf:d.params.defaults=[])
  (hY: ∀ (w:GF) (h:GG),YP w h->(K w.params).In h)
  (F:∀ (w:GF) (mg:Str->Option GC) (fa:GH) (h:GG),(K w.params).In h->h.Ns GW mg->mg d.name=some (.ref fa)->
    ∃fd:Hn,(∀ (s:GJ) (u:GC),BindsTo s fd ⟨[u],[]⟩ [("script",u)])/\ ∀base:GG,(K w.params).In base->base.Ns GW mg->FnOk l.prog w (K w.params) mg base CX0 69 fa fd ["script"] (My (K w.params))):
  PySem.W.WalkO q loose XP YP l.row.toRowW d [] (fun f vs=>PySem.call f vs):=
 L2.walk_of (n:=63) (k:=69) (x:= "script") (CX:=fun _=>CX0) (sp:=fun w=>My (K w.params)) hn (by decide) hdf ⟨rfl,by decide,by decide⟩ hY F (fun _ _ a ns hl _ hS=>⟨a,ns,rfl,hS,hl,fun _=>rfl⟩) fun _ _ _ _ _ z=>z
theorem walk_x {q:GE}{loose:List Str}{XP:(Str->Option GC)->GG->Prop}{K:Params->PySem.W.Frag}{as:List GH}{n t:Nat}{r:PySem.W.RowW}{d:DefRec}{kwd:List (Str×Expr)}{run:GC->List GC->Sem GC}(e:∀P,as=(K P).map (·.1))
  (W:PySem.W.WalkO q loose XP (fun w h=>(K w.params).In h) r d kwd run):PySem.W.WalkX q loose XP (PySem.W.X.obsZ as) (PySem.W.X.valZ K n t) r d kwd run:=
 fun w s₀ s₁ mg mb G y a o pm cd doc dV kV ho hd hcd hD hmg hg args vals bs L hpre hlay hrd hwl hlo=>
  W w s₀ s₁ mg mb G (PySem.W.InK.keeps w _ _ (PySem.W.X.z_facts e y).2.1 L.keeps) a o pm cd doc dV kV ho hd hcd hD hmg hg args vals bs hpre hlay hrd hwl hlo
end Q
def PySem.W.Fast.tw14668554501117188578:=0
def PySem.W.Fast.tw14195299828417091199:=0
def PySem.W.Fast.tw9969411815449314184:=0
def PySem.W.Fast.tw17030958865040295670:=0
def PySem.W.Fast.tw2451041191411631520:=0
def PySem.W.Fast.tw13407416492237762309:=0
def PySem.W.Fast.tw11077739956066364948:=0
def PySem.W.Fast.tw12844395014833233214:=0
def PySem.W.Fast.tw16226220833478388002:=0
def PySem.W.Fast.tw8337999142923183861:=0
def PySem.W.Fast.tw16837615685619961324:=0
def PySem.W.Fast.tw5478138285665614673:=0
def PySem.W.Fast.tw5605313390059114930:=0
def PySem.W.Fast.tw10164586558293443826:=0
def PySem.W.Fast.tw11679446548006935815:=0
def PySem.W.Fast.tw4116443736981326474:=0
def PySem.W.Fast.tw5080961923830127594:=0
def PySem.W.Fast.tw12483064894564643600:=0
def PySem.W.Fast.tw7450794894860198247:=0
def PySem.W.Fast.tw1417161537539678199:=0
def PySem.W.Fast.tw1017155386656539420:=0
def PySem.W.Fast.tw15901540410016744286:=0
def PySem.W.Fast.tw10910215298455631963:=0
def PySem.W.Fast.tw3689053028026671352:=0
def PySem.W.Fast.tw1881566546834015806:=0
def PySem.W.Fast.tw16894535446425290458:=0
def PySem.W.Fast.tw14632137858795315445:=0
def PySem.W.Fast.tw9351025873177871438:=0
def PySem.W.Fast.tw8407733353382270967:=0
def PySem.W.Fast.tw15982227789161404025:=0
def PySem.W.Fast.tw17717805315352974722:=0
def PySem.W.Fast.tw1189891791960349825:=0
def PySem.W.Fast.tw11160671691593573241:=0
def PySem.W.Fast.tw5713421109535910549:=0
def PySem.W.Fast.tw16741566940523068159:=0
def PySem.W.Fast.tw1845776412755062931:=0
def PySem.W.Fast.tw5551377074198494311:=0
def PySem.W.Fast.tw15577515023709843364:=0
def PySem.W.Fast.tw2511306019804536294:=0
def PySem.W.Fast.tw2055973736175828360:=0
def PySem.W.Fast.tw10019259153878594156:=0
def PySem.W.Fast.tw4422616848993749264:=0
def PySem.W.Fast.tw17106798924623992372:=0
def PySem.W.Fast.tw17569083710987820318:=0
def PySem.W.Fast.tw2518893787632838275:=0
def PySem.W.Fast.tw5897492009224414495:=0
def PySem.W.Fast.tw10610744231081449018:=0
def PySem.W.Fast.tw12697285874109401846:=0
def PySem.W.Fast.tw2394287507161441867:=0
def PySem.W.Fast.tw213725097459002869:=0
def PySem.W.Fast.tw6070647610207178960:=0
def PySem.W.Fast.tw12691782110446342878:=0
def PySem.W.Fast.tw1830712071229040804:=0
def PySem.W.Fast.tw12141887254813143436:=0
def PySem.W.Fast.tw13286247042002304586:=0
def PySem.W.Fast.tw14972064957433243357:=0
def PySem.W.Fast.tw15792798280952715090:=0
def PySem.W.Fast.tw5634145687088962483:=0
def PySem.W.Fast.tw1441049855073138855:=0
def PySem.W.Fast.tw16939781415189851949:=0
def PySem.W.Fast.tw160935680119994020:=0
def PySem.W.Fast.tw8240043460117442924:=0
def PySem.W.Fast.tw17532872898101773385:=0
def PySem.W.Fast.tw9049036179371770926:=0
def PySem.W.Fast.tw14431776000547125494:=0
def PySem.W.Fast.tw14962662917261165681:=0
def PySem.W.Fast.tw4900049237107679960:=0
def PySem.W.Fast.tw4046935095148578771:=0
def PySem.W.Fast.tw3437088999132968726:=0
def PySem.W.Fast.tw9231557898279128559:=0
def PySem.W.Fast.tw1963409932445257649:=0
def PySem.W.Fast.tw270599746112900940:=0
def PySem.W.Fast.tw934092532408063745:=0
def PySem.W.Fast.tw12837556318037175732:=0
def PySem.W.Fast.tw2222470145774533467:=0
def PySem.W.Fast.tw18222205961571901740:=0
def PySem.W.Fast.tw3673252422575173448:=0
def PySem.W.Fast.tw7923480823953819540:=0
def PySem.W.Fast.tw6239221850145577669:=0
def PySem.W.Fast.tw15956847923552560809:=0
def PySem.W.Fast.tw12578010194635791039:=0
def PySem.W.Fast.tw12503426413909234415:=0
def PySem.W.Fast.tw11157704922959995764:=0
def PySem.W.Fast.tw5640079240854820724:=0
def PySem.W.Fast.tw6579136842187948356:=0
def PySem.W.Fast.tw9490989467095726718:=0
def PySem.W.Fast.tw15014800868209650021:=0
def PySem.W.Fast.tw9381445872526292647:=0
def PySem.W.Fast.tw12250739291377180873:=0
def PySem.W.Fast.tw4214920450118123930:=0
def PySem.W.Fast.tw601830282998811317:=0
def PySem.W.Fast.tw7621603815146822140:=0
def PySem.W.Fast.tw9043168955434698364:=0
def PySem.W.Fast.tw6217881777828829477:=0
def PySem.W.Fast.tw6666721214030841596:=0
def PySem.W.Fast.tw11654325325926139759:=0
def PySem.W.Fast.tw18304493269137180212:=0
def PySem.W.Fast.tw15757734866506127887:=0
def PySem.W.Fast.tw5920571665851865783:=0
def PySem.W.Fast.tw15749276069104552348:=0
def PySem.W.Fast.tw12171146772118251722:=0
def PySem.W.Fast.tw17337588007800028940:=0
def PySem.W.Fast.tw4760037311550351806:=0
def PySem.W.Fast.tw13895152235928226412:=0
def PySem.W.Fast.tw15992354140950320141:=0
def PySem.W.Fast.tw222622365522711433:=0
def PySem.W.Fast.tw2342205998791121374:=0
def PySem.W.Fast.tw5987190659975026707:=0
def PySem.W.Fast.tw11799427960971041323:=0
def PySem.W.Fast.tw9749934403209108709:=0
def PySem.W.Fast.tw3135779447142623936:=0
def PySem.W.Fast.tw6305270286942273491:=0
def PySem.W.Fast.tw8331267128598593179:=0
def PySem.W.Fast.tw11832395487396091233:=0
def PySem.W.Fast.tw10628335572924983999:=0
def PySem.W.Fast.tw3702721448613355729:=0
def PySem.W.Fast.tw1901600015136635529:=0
def PySem.W.Fast.tw13785580274140761299:=0
def PySem.W.Fast.tw7642427768940357590:=0
def PySem.W.Fast.tw16635442423651728642:=0
def PySem.W.Fast.tw3589297406154728910:=0
def PySem.W.Fast.tw3875161344951477535:=0
def PySem.W.Fast.tw12203322835354849456:=0
def PySem.W.Fast.tw6647058854880834704:=0
def PySem.W.Fast.tw10329972853256799256:=0
def PySem.W.Fast.tw338941088207609704:=0
def PySem.W.Fast.tw14610280043671359022:=0
def PySem.W.Fast.tw4818766845218147345:=0
def PySem.W.Fast.tw7409536925916028464:=0
def PySem.W.Fast.tw6533153132770137113:=0
def PySem.W.Fast.tw12251744749618280832:=0
def PySem.W.Fast.tw3205880850257339048:=0
def PySem.W.Fast.tw14717805101589162389:=0
def PySem.W.Fast.tw14254719493999713905:=0
def PySem.W.Fast.tw880591276444252224:=0
def PySem.W.Fast.tw3921462539486535860:=0
def PySem.W.Fast.tw17110454859472438092:=0
def PySem.W.Fast.tw5180932000138269832:=0
def PySem.W.Fast.tw1092024553161849124:=0
def PySem.W.Fast.tw13576303120599909256:=0
def PySem.W.Fast.tw5370247662834082683:=0
def PySem.W.Fast.tw10728236920222731127:=0
def PySem.W.Fast.tw2328425143700690523:=0
def PySem.W.Fast.tw12165973098441656577:=0
def PySem.W.Fast.tw3810448268399698404:=0
def PySem.W.Fast.tw4770451565391764835:=0
def PySem.W.Fast.tw17270389662951570018:=0
def PySem.W.Fast.tw14130176268884517917:=0
def PySem.W.Fast.tw6935819241739903636:=0
def PySem.W.Fast.tw1759323602173515117:=0
def PySem.W.Fast.tw5166160018750396843:=0
def PySem.W.Fast.tw11257839633075707903:=0
def PySem.W.Fast.tw2479722574311074814:=0
def PySem.W.Fast.tw16811924984340757070:=0
def PySem.W.Fast.tw808245844650573859:=0
def PySem.W.Fast.tw11997223504270107774:=0
def PySem.W.Fast.tw2691060558671466404:=0
def PySem.W.Fast.tw14363472956128220239:=0
def PySem.W.Fast.tw3015359616116407611:=0
def PySem.W.Fast.tw3536358974903793559:=0
def PySem.W.Fast.tw8208776230560418731:=0
def PySem.W.Fast.tw7782885212777162408:=0
def PySem.W.Fast.tw9954649954846240412:=0
def PySem.W.Fast.tw4637328566860590549:=0
def PySem.W.Fast.tw3424217988715324320:=0
def PySem.W.Fast.tw7832564880782346331:=0
def PySem.W.Fast.tw3792268510076073427:=0
def PySem.W.Fast.tw4014157966793961159:=0
def PySem.W.Fast.tw210811755492292684:=0
def PySem.W.Fast.tw17552853726328696350:=0
def PySem.W.Fast.tw7334459935586186645:=0
def PySem.W.Fast.tw3898104078432776304:=0
def PySem.W.Fast.tw10120875124906684062:=0
def PySem.W.Fast.tw5107742043891628715:=0
def PySem.W.Fast.tw6911008799732704712:=0
def PySem.W.Fast.tw15031444145884544112:=0
def PySem.W.Fast.tw24140594152174138:=0
def PySem.W.Fast.tw6703523421612018929:=0
def PySem.W.Fast.tw266973765222747740:=0
def PySem.W.Fast.tw1991375129050503061:=0
def PySem.W.Fast.tw13283924226265650977:=0
def PySem.W.Fast.tw1726598160213310002:=0
def PySem.W.Fast.tw7495815043713290305:=0
def PySem.W.Fast.tw1970184580949634787:=0
def PySem.W.Fast.tw1644366268799635858:=0
def PySem.W.Fast.tw9231125464199281714:=0
def PySem.W.Fast.tw18121255815726141886:=0
def PySem.W.Fast.tw5597177830377551944:=0
def PySem.W.Fast.tw7887867079673434230:=0
def PySem.W.Fast.tw15404829426509729031:=0
def PySem.W.Fast.tw5365208256969881724:=0
def PySem.W.Fast.tw10255226335191908040:=0
def PySem.W.Fast.tw7352278632321242933:=0
def PySem.W.Fast.tw2754558728697876780:=0
def PySem.W.Fast.tw2323985732124321579:=0
def PySem.W.Fast.tw14975680908426473474:=0
def PySem.W.Fast.tw2442109896187248380:=0
def PySem.W.Fast.tw2191223226424585040:=0
def PySem.W.Fast.tw11085697412683874649:=0
def PySem.W.Fast.tw15449922107752849353:=0
def PySem.W.Fast.tw5337663909437579640:=0
def PySem.W.Fast.tw13008768088424054319:=0
def PySem.W.Fast.tw15628682230016882701:=0
def PySem.W.Fast.tw9701509821638071204:=0
def PySem.W.Fast.tw272982845200963139:=0
def PySem.W.Fast.tw15478250278759670249:=0
def PySem.W.Fast.tw3802186816818165821:=0
def PySem.W.Fast.tw3956076993369728409:=0
def PySem.W.Fast.tw11940317710601905029:=0
def PySem.W.Fast.tw2480549422244588436:=0
def PySem.W.Fast.tw12532656176340106393:=0
def PySem.W.Fast.tw3641080230836285355:=0
def PySem.W.Fast.tw5067172911118101683:=0
def PySem.W.Fast.tw13587901734544921650:=0
def PySem.W.Fast.tw17310667943215967009:=0
def PySem.W.Fast.tw2371051471106038457:=0
def PySem.W.Fast.tw7640001778895677369:=0
def PySem.W.Fast.tw10692517300882993177:=0
def PySem.W.Fast.tw17532259828990083410:=0
def PySem.W.Fast.tw16856570744313527648:=0
def PySem.W.Fast.tw94908693195140892:=0
def PySem.W.Fast.tw15881539292163042021:=0
def PySem.W.Fast.tw13759071936065072494:=0
def PySem.W.Fast.tw15596958154972475186:=0
def PySem.W.Fast.tw2988493771771932269:=0
def PySem.W.Fast.tw5744389324252761:=0
def PySem.W.Fast.tw9856872589496716001:=0
def PySem.W.Fast.tw9674897033627033908:=0
def PySem.W.Fast.tw2196690591877215598:=0
def PySem.W.Fast.tw7977080674988287100:=0
def PySem.W.Fast.tw10323187802294541489:=0
def PySem.W.Fast.tw7014784095698251380:=0
def PySem.W.Fast.tw4484662582018041138:=0
def PySem.W.Fast.tw8685151329301737602:=0
def PySem.W.Fast.tw8747101514430446503:=0
def PySem.W.Fast.tw10066914669878476178:=0
def PySem.W.Fast.tw14137947749273492574:=0
def PySem.W.Fast.tw1091922769102624984:=0
def PySem.W.Fast.tw14464273754113423764:=0
def PySem.W.Fast.tw11897174192592612433:=0
def PySem.W.Fast.tw10205926319901926556:=0
def PySem.W.Fast.tw7200691222752283367:=0
def PySem.W.Fast.tw16992129439382834630:=0
def PySem.W.Fast.tw9893596386044177545:=0
def PySem.W.Fast.tw10343609390651944460:=0
def PySem.W.Fast.tw7055820605376358898:=0
def PySem.W.Fast.tw16751282841815443872:=0
def PySem.W.Fast.tw9682846798523714941:=0
def PySem.W.Fast.tw5053033714835681073:=0
def PySem.W.Fast.tw254764211540344280:=0
def PySem.W.Fast.tw172246365290160697:=0
def PySem.W.Fast.tw15732677680493345084:=0
def PySem.W.Fast.tw17403040673913717366:=0
def PySem.W.Fast.tw5686567583702214552:=0
def PySem.W.Fast.tw11097735740525558054:=0
def PySem.W.Fast.tw12368786495307014512:=0
def PySem.W.Fast.tw6231904876900814737:=0
def PySem.W.Fast.tw3039599907000742630:=0
def PySem.W.Fast.tw5374117817525921492:=0
def PySem.W.Fast.tw2308294341642831694:=0
def PySem.W.Fast.tw11232209976883111797:=0
def PySem.W.Fast.tw1422905415427985073:=0
def PySem.W.Fast.tw12964455542743500724:=0
def PySem.W.Fast.tw7090237420874586399:=0
def PySem.W.Fast.tw15042835611613493325:=0
def PySem.W.Fast.tw18251243643893278344:=0
def PySem.W.Fast.tw3452069738686503574:=0
def PySem.W.Fast.tw4744528746755236382:=0
def PySem.W.Fast.tw13941751382285299457:=0
def PySem.W.Fast.tw12286772258412642251:=0
def PySem.W.Fast.tw8943065202776156918:=0
def PySem.W.Fast.tw8212378672001585178:=0
def PySem.W.Fast.tw5607424848866445391:=0
def PySem.W.Fast.tw9096422036335216803:=0
def PySem.W.Fast.tw9826309772224786007:=0
def PySem.W.Fast.tw3666922558662485661:=0
def PySem.W.Fast.tw5347329319780315050:=0
def PySem.W.Fast.tw7002990508150980778:=0
def PySem.W.Fast.tw5339382858837922932:=0
def PySem.W.Fast.tw16864763942363649219:=0
def PySem.W.Fast.tw12879067365073018265:=0
def PySem.W.Fast.tw13120651855804244613:=0
def PySem.W.Fast.tw11145218389662041009:=0
def PySem.W.Fast.tw1250253383602496562:=0
def PySem.W.Fast.tw29293471740945935:=0
def PySem.W.Fast.tw10699210182170374778:=0
def PySem.W.Fast.tw15726627975511332535:=0
def PySem.W.Fast.tw7187406305587011280:=0
def PySem.W.Fast.tw16771766154718932289:=0
def PySem.W.Fast.tw1121535213319919131:=0
def PySem.W.Fast.tw9975029549713598683:=0
def PySem.W.Fast.tw6064601959362875422:=0
def PySem.W.Fast.tw7330424505416886520:=0
def PySem.W.Fast.tw890324943236624655:=0
def PySem.W.Fast.tw3708126095758785151:=0
def PySem.W.Fast.tw4228552132283138401:=0
def PySem.W.Fast.tw10252131784941853463:=0
def PySem.W.Fast.tw4029369247786076438:=0
def PySem.W.Fast.tw13995838606343152016:=0
def PySem.W.Fast.tw12969706788635498014:=0
def PySem.W.Fast.tw15312319491233020559:=0
def PySem.W.Fast.tw9724241778636578089:=0
def PySem.W.Fast.tw1008196188101606644:=0
def PySem.W.Fast.tw17288556699188742701:=0
def PySem.W.Fast.tw490753141553159781:=0
def PySem.W.Fast.tw17615467806843974793:=0
def PySem.W.Fast.tw14735084130944352414:=0
def PySem.W.Fast.tw11095967805159154047:=0
def PySem.W.Fast.tw8867217214077137823:=0
def PySem.W.Fast.tw18414235594208511798:=0
def PySem.W.Fast.tw12254278414702382240:=0
def PySem.W.Fast.tw13010242395888424536:=0
def PySem.W.Fast.tw13807125581293539126:=0
def PySem.W.Fast.tw17071731933684826229:=0
def PySem.W.Fast.tw11515097772121608667:=0
def PySem.W.Fast.tw13024838748330713565:=0
def PySem.W.Fast.tw1348408493866659978:=0
def PySem.W.Fast.tw6236343749880948505:=0
def PySem.W.Fast.tw5599545495023208016:=0
def PySem.W.Fast.tw16431762223686902976:=0
def PySem.W.Fast.tw13840347189463637289:=0
def PySem.W.Fast.tw7203086825390022764:=0
def PySem.W.Fast.tw18137159801357135644:=0
def PySem.W.Fast.tw7564890550200210444:=0
def PySem.W.Fast.tw14101235240564792366:=0
def PySem.W.Fast.tw2693319627169477568:=0
def PySem.W.Fast.tw16644797193664439064:=0
def PySem.W.Fast.tw3693627270779523102:=0
def PySem.W.Fast.tw6149966240024161367:=0
def PySem.W.Fast.tw17902341300725743465:=0
open PySem PySem.W PyProof.Rows
set_option maxRecDepth 100000 in
set_option maxHeartbeats 0 in
theorem PySem.Challenge.cw_blockfall_k07_rows_of_no_form_holds : PySem.Challenge.rw_blockfall_k07_rows_of_no_form.Holds := by
 w_on;o_law;z_head;(case hw=>w_witness2)
 k_fill
 refine Q.walk_x (fun _=>by kernel_rfl) (Q.walk (l:=PySem.Challenge.rw_blockfall_k07_rows_of_no_form) rfl rfl (fun w h Y=>Y) ?F)
 case F=>
  intro w mg fa h KX G hmg
  apply Q.all_mk KX G hmg
  constructor
  all_goals try first|(apply L2.dq KX G<;>k_is)|(apply L2.dqm<;>k_is)|(apply L2.gi KX G;k_is)|(apply L2.gs KX G;k_is)|(apply L2.gn KX G;k_is)|(apply L2.gx KX G<;>first|k_is|k_exc)|(apply L2.gcl KX G;k_is)|(apply L2.ge KX G;k_is;(repeat' (first|exact L2.fm_nil|refine L2.fm_cons ?_ ?_));all_goals (apply L2.exf KX G<;>first|k_is|kts_exm|kit_is|(show kitOne _ _ _=some false;kit_is)|(show kitOne _ _ _=some true;kit_is)|exact rfl|kernel_rfl|decide+kernel))|(apply L2.gt KX G<;>first|k_is|exact⟨rfl,rfl,by decide⟩)|(apply L2.Cls.mk<;>k_is)|(apply mg_of KX G;k_is)|k_is|k_exc|rfl|kernel_rfl|decide+kernel
#print axioms PySem.Challenge.cw_blockfall_k07_rows_of_no_form_holds
