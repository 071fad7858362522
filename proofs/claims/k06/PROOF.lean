import PyProof.Rows.All
import Wide.All
import OpenK.AllK
import Wide.FinOn
import Lean
import PyProof.EqAt
import PyProof.EqKinds
import PyProof.TupleCall
import PyProof.ZipIter
import PySem.Challenge.RW_blockfall_k06_whole_programs_read
set_option bootstrap.genMatcherCode false
set_option genSizeOf false
set_option genSizeOfSpec false
set_option Elab.async false
set_option linter.all false
set_option maxRecDepth 100000
set_option maxHeartbeats 4000000
noncomputable section
open PySem.W (makesIn kitOne fnOf codeIn mg_of)
open List renaming length_map->zr,getElem?_set_ne->zt,length_append->zv,map_append->zw,length_cons->zx,mem_cons->zA,mem_cons_self->zB,map_cons->zD,mem_map->zE,size_toArray->zF,getElem?_map->zG,mem_cons_of_mem->zK,getElem?_eq_some_iff->zO,not_mem_nil->zQ,all_eq_true->zR,mem_singleton->zT,length_singleton->zU,append_assoc->zV,length_set->zW,mem_append->zY,append_nil->zZ,nil_append->z0,length_take->z7,getElem?_append_left->Aa,take_length->Ab,cons_append->Ac,mem_of_getElem?->Ad,take_succ->Ae,map_nil->Ag,getElem?_eq_getElem->Ah,map_map->Aj,mem_append_right->Ak,length_drop->Al,lookup_cons->Am,filterMap_cons->An,lookup->Ap,nodup_cons->Ar,getElem?_append_right->As,length_replicate->At,replicate_succ->Au,sum_cons->Av,drop_zero->Aw,mem_of_mem_take->Ay,getElem?_set_self->Az,all_cons->AA,flatten_cons->AB,find?_cons->AC,mem_map_of_mem->AD,mem_filter->AE,drop_eq_getElem_cons->AJ,nodup_append->AL,of_mem_zip->AN,take_sublist->AO,filter_cons_of_pos->AR,filter_cons_of_neg->AS,drop_eq_nil_iff->AT,head?->AU,head?_drop->AV,head?_cons->AW,tail_drop->AX,mem_range'_1->AY,takeWhile_cons->AZ,foldl_append->A1,filter_eq_self->A2,filter_nil->A4,map_take->A5,map_congr_left->A6,getElem?_eq_none_iff->A7,mem_append_left->A8,mem_filterMap->A9,getElem?_replicate->Bd,foldl->Bf,foldl_cons->Bg,getElem?_drop->Bh,take_of_length_le->Bi,getElem?_cons_succ->Bm,drop_length->Bn,any_eq_true->Bo,findIdx?_eq_some_iff_getElem->Bp,all_map->Bq,suffix_refl->Br,flatMap_cons->Bv,all_append->Bw,mem_of_mem_drop->Bx,length_filterMap_le->BC,getElem?_toArray->BD,drop_set_of_lt->BF,getElem_toArray->BI,dropWhile_suffix->BJ,drop_eq_nil_of_le->BK,dropWhile_cons->BL,length_pos_iff->BM,map_eq_nil_iff->BN,filter_append->BO,getElem?_inj->BP,getD_eq_getElem?_getD->BR
open Nat renaming le_refl->zu,lt_of_lt_of_le->zH,le_trans->zJ,zero_le->zL,ne_of_lt->zN,lt_of_le_of_lt->Ai,lt_irrefl->Aq,le_of_eq->AH,not_lt_zero->AK,le_of_lt->AM,log2_lt->AQ,lt_succ_self->Bb,le_succ->Bc,sub_self->Bl,mul_succ->Bu,pow_le_pow_right->By
open PySem.Heap renaming lt_size->zy,get?_push_of_some->zP,get?_push_size->Af,SameBut->AF,size_push->Ba,MadeExcOf->Bj
open Bool renaming false_ne_true->zC,and_eq_true->zI,eq_iff_iff->Ao,eq_false_iff->Ax,or_eq_false_iff->AI,true_and->Bs
open Option renaming map_eq_some_iff->zM,getD_none->Be,getD_some->Bk,isSome_map->BB
open Int renaming emod_nonneg->zX,emod_lt_of_pos->z6,fdiv_eq_ediv_of_nonneg->BA,toNat_of_nonneg->BQ
open Array renaming length_toList->AG,append_assoc->Bz,size_append->BE,toList_append->BH
open PySem.W renaming instObj->BS,findIn->BU,emptyDict->BV,keepIn->BW,kia_one->BX,nsIn->BY
open PySem renaming Value->BZ,Builtin->B1,Program->B2,World->B3,Heap->B4,Addr->B5,Shared->B6,Obj->B7,Around->B8,cLine->B9,wpAny->Ca,model->Cb,wpAny_bind->Cc,wpAny_pure->Cd,wpAny_holding->Ce,wpAny_truthy_bool->Cf,sysModules->Ch,tupleKind->Ci,mainGlobals->Cj,bootBuiltins->Ck,Scope->Cn,eval->Cp,Pos->Ct,backTo->Cu,starEach->Cv,Stmt->Cw,wpAny_mono->Cy,compareOp->Cz,behindInMarks->CA,standAt->CB,holding->CC,wpAny_execs_nil->CD,assignEach->CH,PassesOwn->CI,wpAny_passesOwn->CJ,letOwnedTupleGo->CK,foldedSetIterable->CL,binaryOp->CO,getMethod->CP,attributeBase->CQ,backToKw->CU,keywordEach->CV,FuncData->CW,codeAny_mono->CY,wpAny_Call_Name_kw->CZ,Keyword->C0,NameKind->C1,wpAny_newObj_type->C3,typeIs_str->C4,sliceBounds->C5,call_meets->C6,tupleKind_room_in1->C7,relabel->C8,PyData->C9,strIterType->Da
open PyProof.Rows renaming AllBare->Co,envOfC->C2
namespace L2
open PySem
noncomputable abbrev PKy:=Int×List Int
noncomputable def zc (b:Bool)(v u:BZ):List BZ:=match b with
 |false=>[v,u]
 |true=>[u,v]
noncomputable def qO (ks:List Int):Int:=reduceHash (B1.Tuple.tupleHashOf (ks.map hashInt))
def wd (b:Bool)(k:PKy):Int:=match b with
 |false=>reduceHash (B1.Tuple.tupleHashOf [hashInt k.1,qO k.2])
 |true=>reduceHash (B1.Tuple.tupleHashOf [qO k.2,hashInt k.1])
section
variable {prog:B2}{w:B3}
variable {A:B8}{E:BZ->B6->Prop}{s:B6}
end
end L2
namespace L2
open PySem PySem.Spec PyProof.Rows
noncomputable abbrev Key:=Sum Int Str
def EF:Key->BZ->Bool
 |.inl k,v=>BZ.isInt k v
 |.inr x,v=>BZ.isStrOf x v
def keyH (w:B3):Key->Int
 |.inl k=>hashInt k
 |.inr x=>hashStr w x
theorem bC: ∀ {k:Key}{v:BZ},EF k v=true->(∃i t,k=Sum.inl i/\v=BZ.int i t)\/(∃x t,k=Sum.inr x/\v=BZ.str x t)
 |.inl i,v,h=>by
  obtain⟨t,e⟩:=BZ.isInt_shape (k:=i) (v:=v) h
  exact .inl ⟨i,t,rfl,e⟩
 |.inr x,v,h=>by
  obtain⟨t,e⟩:=BZ.isStrOf_shape (x:=x) (v:=v) h
  exact .inr ⟨x,t,rfl,e⟩
theorem qk (i:Int)(t:Tok):EF (.inl i) (.int i t)=true:=by simp [EF,BZ.isInt]
theorem qj (x:Str)(t:Tok):EF (.inr x) (.str x t)=true:=by simp [EF,BZ.isStrOf]
theorem xK (a b:Int):decide ((Sum.inl a:Key)=Sum.inl b)=(a==b):=by
 by_cases e:a=b
 ·subst e;simp
 ·have h: ¬(Sum.inl a:Key)=Sum.inl b:=fun q=>e (Sum.inl.inj q)
  rw[decide_eq_false h]
  exact (beq_eq_false_iff_ne.mpr e).symm
theorem xH (a b:Str):decide ((Sum.inr a:Key)=Sum.inr b)=decide (a=b):=by
 by_cases e:a=b
 ·subst e;simp
 ·have h: ¬(Sum.inr a:Key)=Sum.inr b:=fun q=>e (Sum.inr.inj q)
  rw[decide_eq_false h,decide_eq_false e]
theorem xJ (a:Int)(b:Str):decide ((Sum.inl a:Key)=Sum.inr b)=false:=decide_eq_false (fun q=>nomatch q)
theorem xI (a:Str)(b:Int):decide ((Sum.inr a:Key)=Sum.inl b)=false:=decide_eq_false (fun q=>nomatch q)
def de (prog:B2)(w:B3):PySem.KeyKind prog w Key where
 is:=EF
 hash:=keyH w
 inj:=fun v a b ha hb=>by
  rcases bC ha with⟨i,t,rfl,rfl⟩|⟨x,t,rfl,rfl⟩
  ·rcases bC hb with⟨j,u,rfl,e⟩|⟨y,u,rfl,e⟩
   ·injection e with e1 _;rw[e1]
   ·exact nomatch e
  ·rcases bC hb with⟨j,u,rfl,e⟩|⟨y,u,rfl,e⟩
   ·exact nomatch e
   ·injection e with e1 _;rw[e1]
 byValue:=fun k v h=>by
  rcases bC h with⟨i,t,rfl,rfl⟩|⟨x,t,rfl,rfl⟩<;>rfl
 pyHash:=fun hv h=>by
  rcases bC hv with⟨i,t,rfl,rfl⟩|⟨x,t,rfl,rfl⟩
  ·exact wpAny_pyHash_int h
  ·exact wpAny_pyHash_str h
 eqBool:=fun hu hv h=>by
  rcases bC hu with⟨i,t,rfl,rfl⟩|⟨x,t,rfl,rfl⟩
  ·rcases bC hv with⟨j,u,rfl,rfl⟩|⟨y,u,rfl,rfl⟩
   ·rw[xK] at h;exact wpAny_eqBool_int h
   ·rw[xJ] at h;exact SeqAt.EqAt.int_str i t y u _ _ _ _ h
  ·rcases bC hv with⟨j,u,rfl,rfl⟩|⟨y,u,rfl,rfl⟩
   ·rw[xI] at h;exact SeqAt.EqAt.str_int x t j u _ _ _ _ h
   ·rw[xH] at h;exact wpAny_eqBool_str h
 «strs»:=fun k x t v h=>by
  rcases bC h with⟨i,u,rfl,e⟩|⟨y,u,rfl,e⟩
  ·exact nomatch e
  ·injection e with e1 _
   subst e1
   cases v<;>rfl
theorem mI (prog:B2)(w:B3)(i:Int)(t:Tok):(de prog w).is (.inl i) (.int i t)=true:=qk i t
theorem mH (prog:B2)(w:B3)(x:Str)(t:Tok):(de prog w).is (.inr x) (.str x t)=true:=qj x t
section
inductive V where
 |non|bl (b:Bool)|int (i:Int)|str (x:Str)|byt (b:Array UInt8)|flt (b:UInt64)|ref (a:B5)|ty (n:String)
 deriving DecidableEq
noncomputable def RelV:V->BZ->Prop
 |.non,u=>u=BZ.none
 |.bl b,u=>u=BZ.bool b
 |.int i,u=> ∃t,u=BZ.int i t
 |.str x,u=> ∃t,u=BZ.str x t
 |.byt b,u=> ∃t,u=BZ.bytes b t
 |.flt b,u=> ∃t,u=BZ.float b t
 |.ref a,u=>u=BZ.ref a
 |.ty n,u=>u=BZ.type n
noncomputable abbrev Vals:List V->List BZ->Prop:=Paired RelV
theorem Vals.length {xs:List V}{us:List BZ}(r:Vals xs us):xs.length=us.length:=Paired.length r
theorem Vals.get: ∀ {xs:List V}{us:List BZ}{i:Nat}{x:V},Vals xs us->xs[i]?=some x-> ∃u,us[i]?=some u/\RelV x u
 |_,_,_,_,.nil,e=>by simp at e
 |_,_,0,_,.cons r _,e=>by simp at e;subst e;exact⟨_,rfl,r⟩
 |_,_,i+1,x,.cons _ t,e=>by
  obtain⟨u,h1,h2⟩:=Vals.get (i:=i) (x:=x) t (by simpa using e)
  exact⟨u,by simpa using h1,h2⟩
theorem Vals.append: ∀ {xs ys:List V}{us ws:List BZ},Vals xs us->Vals ys ws->Vals (xs++ys) (us++ws)
 |_,_,_,_,.nil,s=>s
 |_,_,_,_,.cons r t,s=>.cons r (Vals.append t s)
theorem Vals.take: ∀ {xs:List V}{us:List BZ} (n:Nat),Vals xs us->Vals (xs.take n) (us.take n)
 |_,_,0,_=>.nil
 |_,_,_+1,.nil=>.nil
 |_,_,n+1,.cons r t=>.cons r (Vals.take n t)
theorem Vals.drop: ∀ {xs:List V}{us:List BZ} (n:Nat),Vals xs us->Vals (xs.drop n) (us.drop n)
 |_,_,0,r=>r
 |_,_,_+1,.nil=>.nil
 |_,_,n+1,.cons _ t=>Vals.drop n t
theorem Vals.none_of: ∀ {xs:List V}{us:List BZ}{i:Nat},Vals xs us->xs[i]?=none->us[i]?=none:=fun{xs us i} r e=>by
 have h1:=r.length
 have h2:xs.length<=i:=A7.mp e
 exact A7.mpr (by omega)
def RelO:Option V->Option BZ->Prop
 |some v,some u=>RelV v u
 |none,none=>True
 |_,_=>False
def KV {κ:Type}:List (κ×V)->List (κ×BZ)->Prop:=Paired fun (p:κ×V) (q:κ×BZ)=>p.1=q.1/\RelV p.2 q.2
def kV:Key->V
 |.inl i=>.int i
 |.inr x=>.str x
inductive HO where
 |lst (xs:List V)
 |tup (xs:List V)
 |dK (kvs:List (Key×V))|dT (kvs:List (List Key×V))|dN (b:Bool)(xs:List (PKy×B5×V))(ep:Nat)
 |set (S:Int->Bool)(n:Nat)
 |ins (C dx:B5)(fs:List (Str×V))
 |own (x:B5)
 |xd (fs:List (Str×V))
 |met (f x:B5)
 |rng (lo hi:Int)
 |frz (o:B7)(u:HO)
 |tbl (ps:Array BZ)
 |ext (φ:B4->Prop)
noncomputable abbrev Hp:=B5->Option HO
def upd (H:Hp)(a:B5)(o:HO):Hp:=fun b=>if b=a then some o else H b
theorem aM {H:Hp}{a:B5}{o:HO}:upd H a o a=some o:=by unfold upd;rw[if_pos rfl]
theorem ar {H:Hp}{a b:B5}{o:HO}(h:b≠a):upd H a o b=H b:=by unfold upd;rw[if_neg h]
theorem aY {H:Hp}{a b:B5}{o:HO}(h:H a=some o)(h':H b=none):a≠b:=by
 intro e;subst e;rw[h] at h';cases h'
noncomputable def IsTupD (h:B4)(a:B5)(its:Array BZ):Prop:=IsTup h a its/\ ∃o,h.get? a=some o/\o.dict=none
theorem IsTupD.new (h:B4)(its:Array BZ):IsTupD (h.push {cls:=.type "tuple",data:=.seq its}) h.objs.size its:=⟨IsTup.new _ _,_,Af _ rfl,rfl⟩
section
variable (P:B2)(w:B3)
def ObjOk (H:Hp)(h:B4)(a:B5):HO->Prop
 |.lst xs=>xs.length<=sizeLine/\ ∃ (its:List BZ) (n:Nat),Vals xs its/\h.get? a=some {cls:=.type "list",data:=.seq its.toArray n}
 |.tup xs=>xs.length<=sizeLine/\ ∃its:List BZ,Vals xs its/\IsTupD h a its.toArray
 |.dK kvs=>kvs.length<=sizeLine/\(a==Ch)=false/\ ∃vs,KV kvs vs/\h.DictOf (de P w) a vs
 |.dT kvs=>kvs.length<=sizeLine/\(a==Ch)=false/\ ∃xs:List (List Key×B5×BZ),
  Paired (fun (p:List Key×V) (q:List Key×B5×BZ)=>p.1=q.1/\H q.2.1=some (.tup (p.1.map kV))/\RelV p.2 q.2.2) kvs xs/\
  ∃o es ep,h.get? a=some o/\o.ExactDict/\o.data=.dict es ep/\es.toList=xs.map (entryOfKey (Ci (de P w)))/\(xs.map (·.1)).Nodup
 |.dN b xs ep=>xs.length<=sizeLine/\(a==Ch)=false/\ ∃ys:List (PKy×B5×BZ),Paired (fun (p:PKy×B5×V) (q:PKy×B5×BZ)=>p.1=q.1/\p.2.1=q.2.1/\RelV p.2.2 q.2.2) xs ys/\
  ∃o es,h.get? a=some o/\o.ExactDict/\o.data=.dict es ep/\es.toList=ys.map (fun y=>(⟨wd b y.1,.ref y.2.1,y.2.2⟩:DictEntry))/\(ys.map (·.1)).Nodup
 |.set S n=>h.SetOf (intKind P w) a S n
 |.ins C dx fs=>H dx=some (.own a)/\fs.length<=1000/\dx≠a/\h.get? a=some (BS C dx)/\
  ∃mA,h.Ns1 dx mA/\(∀f,RelO (fs.lookup f) (mA f))/\PySem.Within mA (fs.map (·.1))
 |.own _=> ∃o,h.get? a=some o
 |.xd fs=> ∃mA,h.Ns1 a mA/\ ∀f,RelO (fs.lookup f) (mA f)
 |.rng lo hi=> ∃t u v,h.get? a=some {cls:=.type "range",data:=.fields #[.int lo t,.int hi u,.int 1 v]}
 |.frz o u=>h.get? a=some o/\ObjOk H h a u
 |.tbl ps=>h.get? a=some {cls:=.none,data:=.fields ps}
 |.met f x=>h.get? a=some (PySem.W.methodObj (.ref f) (.ref x))
 |.ext φ=>φ h/\(∃o,h.get? a=some o)/\ ∀h1 h2:B4,φ h1->(∀o,h1.get? a=some o->h2.get? a=some o)->φ h2
def HOk (H:Hp)(h:B4):Prop:= ∀a o,H a=some o->ObjOk P w H h a o
end
section
variable {P:B2}{w:B3}{H H':Hp}{h h':B4}{a:B5}{o:HO}
theorem ObjOk.lt (x:ObjOk P w H h a o):a<h.objs.size:=by
 cases o with
 |lst xs=>obtain⟨_,_,_,_,e⟩:=x;exact zy e
 |tup xs=>obtain⟨_,_,_,p⟩:=x;exact p.1.lt
 |dK kvs=>obtain⟨_,_,_,_,o,_,_,e,_⟩:=x;exact zy e
 |dT kvs=>obtain⟨_,_,_,_,o,_,_,e,_⟩:=x;exact zy e
 |dN b xs ep=>obtain⟨_,_,_,_,o,_,e,_⟩:=x;exact zy e
 |set S n=>obtain⟨o,_,_,_,e,_⟩:=x;exact zy e
 |ins C dx fs=>obtain⟨_,_,_,e,_⟩:=x;exact zy e
 |own y=>obtain⟨_,e⟩:=x;exact zy e
 |xd fs=>obtain⟨_,⟨_,_,_,e,_⟩,_⟩:=x;exact zy e
 |rng lo hi=>obtain⟨_,_,_,e⟩:=x;exact zy e
 |frz ob u=>obtain⟨e,_⟩:=x;exact zy e
 |tbl ps=>exact zy (show h.get? a=some _ from x)
 |met f y=>exact zy (show h.get? a=some _ from x)
 |ext φ=>obtain⟨_,⟨_,e⟩,_⟩:=x;exact zy e
theorem Paired.mapP {α β:Type}{F G:α->β->Prop}: ∀ {l₁:List α}{l₂:List β},Paired F l₁ l₂->(∀a b,F a b->G a b)->Paired G l₁ l₂
 |_,_,.nil,_=>.nil
 |_,_,.cons r t,f=>.cons (f _ _ r) (Paired.mapP t f)
theorem ObjOk.stay (x:ObjOk P w H h a o)(k:∀b u,(b=a\/H b=some (.own a))->h.get? b=some u->h'.get? b=some u)
  (ho: ∀b,H b=some (.own a)->H' b=some (.own a))(ht: ∀b xs,H b=some (.tup xs)->H' b=some (.tup xs)):ObjOk P w H' h' a o:=by
 induction o with
 |lst xs=>obtain⟨z,its,n,r,e⟩:=x;exact⟨z,its,n,r,k _ _ (.inl rfl) e⟩
 |tup xs=>obtain⟨z,its,r,⟨ob,e,c⟩,o2,e2,c2⟩:=x;exact⟨z,its,r,⟨ob,k _ _ (.inl rfl) e,c⟩,o2,k _ _ (.inl rfl) e2,c2⟩
 |dK kvs=>obtain⟨z,y,vs,r,ob,es,ep,e,c⟩:=x;exact⟨z,y,vs,r,ob,es,ep,k _ _ (.inl rfl) e,c⟩
 |dT kvs=>
  obtain⟨z,y,xs,r,ob,es,ep,e,c⟩:=x
  exact⟨z,y,xs,Paired.mapP r fun p q z=>⟨z.1,ht _ _ z.2.1,z.2.2⟩,ob,es,ep,k _ _ (.inl rfl) e,c⟩
 |dN b xs ep=>obtain⟨z,y,ys,r,ob,es,e,c⟩:=x;exact⟨z,y,ys,r,ob,es,k _ _ (.inl rfl) e,c⟩
 |set S n=>obtain⟨ob,es,ep,t,e,c⟩:=x;exact⟨ob,es,ep,t,k _ _ (.inl rfl) e,c⟩
 |ins C dx fs=>
  obtain⟨d,z,ne,e,mA,⟨od,es,ep,e2,c⟩,r⟩:=x
  exact⟨ho _ d,z,ne,k _ _ (.inl rfl) e,mA,⟨od,es,ep,k _ _ (.inr d) e2,c⟩,r⟩
 |own y=>obtain⟨ob,e⟩:=x;exact⟨ob,k _ _ (.inl rfl) e⟩
 |xd fs=>obtain⟨mA,⟨od,es,ep,e,c⟩,r⟩:=x;exact⟨mA,⟨od,es,ep,k _ _ (.inl rfl) e,c⟩,r⟩
 |rng lo hi=>obtain⟨t,u,v,e⟩:=x;exact⟨t,u,v,k _ _ (.inl rfl) e⟩
 |frz ob u ih=>obtain⟨e,q⟩:=x;exact⟨k _ _ (.inl rfl) e,ih q⟩
 |tbl ps=>
  have e:h.get? a=some {cls:=.none,data:=.fields ps}:=x
  show h'.get? a=some {cls:=.none,data:=.fields ps}
  exact k a _ (.inl rfl) e
 |met f y=>
  have e:h.get? a=some (PySem.W.methodObj (.ref f) (.ref y)):=x
  show h'.get? a=some (PySem.W.methodObj (.ref f) (.ref y))
  exact k a _ (.inl rfl) e
 |ext φ=>obtain⟨p,⟨o,e⟩,st⟩:=x;exact⟨st _ _ p fun o q=>k _ _ (.inl rfl) q,⟨o,k _ _ (.inl rfl) e⟩,st⟩
theorem HOk.lt (x:HOk P w H h)(e:H a=some o):a<h.objs.size:=(x a o e).lt
theorem HOk.fresh (x:HOk P w H h)(e:h.objs.size<=a):H a=none:=by
 cases q:H a with
 |none=>rfl
 |some u=>exact absurd (zH (x.lt q) e) (Aq _)
theorem HOk.kept (x:HOk P w H h)(k:∀b u,h.get? b=some u->h'.get? b=some u):HOk P w H h':=fun a o e=>
 (x a o e).stay (fun b u _ q=>k b u q) (fun _ q=>q) fun _ _ q=>q
theorem HOk.laid (x:HOk P w H h)(k:∀b u,h.get? b=some u->h'.get? b=some u)(hp:h.objs.size<=a)(new:ObjOk P w (upd H a o) h' a o):HOk P w (upd H a o) h':=fun b u e=>by
 have hn:=x.fresh hp
 by_cases hb:b=a
 ·subst hb;rw[aM] at e;cases e;exact new
 ·rw[ar hb] at e
  exact (x b u e).stay (fun c v _ q=>k c v q) (fun c q=>by rw[ar (aY q hn)];exact q) fun c xs q=>by rw[ar (aY q hn)];exact q
end
def Rd (H:Hp)(a:B5)(u:HO):Prop:=H a=some u\/ ∃o,H a=some (.frz o u)
theorem Rd.ok {P:B2}{w:B3}{H:Hp}{h:B4}{a:B5}{u:HO}(r:Rd H a u)(x:HOk P w H h):ObjOk P w H h a u:=by
 rcases r with r|⟨o,r⟩
 ·exact x a u r
 ·obtain⟨_,q⟩:=x a _ r
  exact q
noncomputable def Mut:Option HO->Prop
 |some (.lst _)=>True
 |some (.dK _)=>True
 |some (.dT _)=>True
 |some (.dN _ _ _)=>True
 |some (.set _ _)=>True
 |some (.ins _ _ _)=>True
 |some (.ext _)=>True
 |_=>False
section
variable {P:B2}{w:B3}{H:Hp}{h h':B4}{x e:B5}{o':HO}
theorem HOk.write (ok:HOk P w H h)(mu:Mut (H x))(he:e=x\/H e=some (.own x))(k:∀b u,b≠e->h.get? b=some u->h'.get? b=some u)(heo: ∃u,h'.get? e=some u)
  (new:ObjOk P w (upd H x o') h' x o'):HOk P w (upd H x o') h':=fun b u q=>by
 have nown: ∀c y,H c=some (.own y)->c≠x:=fun c y r z=>by subst z;rw[r] at mu;exact mu
 have ntup: ∀c xs,H c=some (.tup xs)->c≠x:=fun c xs r z=>by subst z;rw[r] at mu;exact mu
 by_cases hb:b=x
 ·subst hb;rw[aM] at q;cases q;exact new
 ·rw[ar hb] at q
  by_cases hbe:b=e
  ·have q':H b=some (.own x):=by
    rcases he with z|z
    ·exact absurd (hbe.trans z) hb
    ·rw[hbe];exact z
   rw[q] at q';cases q'
   obtain⟨v,hv⟩:=heo
   exact⟨v,by rw[hbe];exact hv⟩
  ·refine (ok b u q).stay (fun c v hc r=>k c v ?_ r) (fun c r=>by rw[ar (nown c b r)];exact r) fun c xs r=>by rw[ar (ntup c xs r)];exact r
   rcases hc with rfl|hc
   ·exact hbe
   ·rintro rfl
    rcases he with z|z
    ·exact nown c b hc z
    ·rw[hc] at z;cases z;exact hb rfl
end
structure Un (fs ex:List B5)(H H':Hp)(h h':B4):Prop where
 keep: ∀b o,h.get? b=some o->H b=none->b ∉ fs->b ∉ ex->h'.get? b=some o
 slot: ∀b o,h.get? b=some o->H b=none->b∈fs->b ∉ ex-> ∃sl,h'.get? b=some {o with slots:=sl}
 free: ∀b o,h.get? b=some o->H b=none->b ∉ ex->H' b=none
 there: ∀b o,h.get? b=some o->b ∉ ex-> ∃o',h'.get? b=some o'
 tups: ∀b xs,H b=some (.tup xs)->H' b=some (.tup xs)
 frzs: ∀b o u,H b=some (.frz o u)->H' b=some (.frz o u)
 tbls: ∀b ps,H b=some (.tbl ps)-> ∃more,H' b=some (.tbl (ps++more))
section
variable {fs fs' ex ex':List B5}{H H1 H2:Hp}{h h1 h2 h':B4}{a x e:B5}{o:HO}
theorem Un.any (u:Un fs ex H H1 h h1){b:B5}{ob:B7}(q:h.get? b=some ob)(n:H b=none)(hx:b ∉ ex): ∃sl,h1.get? b=some {ob with slots:=sl}:=by
 by_cases hb:b∈fs
 ·exact u.slot b ob q n hb hx
 ·exact⟨ob.slots,u.keep b ob q n hb hx⟩
theorem Un.kept (k:∀b u,h.get? b=some u->h'.get? b=some u):Un fs ex H H h h':=
 ⟨fun b ob q _ _ _=>k b ob q,fun b ob q _ _ _=>⟨ob.slots,k b ob q⟩,fun _ _ _ n _=>n,fun b ob q _=>⟨ob,k b ob q⟩,fun _ _ q=>q,fun _ _ _ q=>q,fun _ ps q=>⟨#[],by rw[q];simp⟩⟩
theorem Un.refl:Un fs ex H H h h:=Un.kept fun _ _ q=>q
theorem Un.laid (k:∀b u,h.get? b=some u->h'.get? b=some u)(hp:h.objs.size<=a)(hn:H a=none):Un fs ex H (upd H a o) h h' where
 keep:=fun b u q _ _ _=>k b u q
 slot:=fun b u q _ _ _=>⟨u.slots,k b u q⟩
 free:=fun b u q n _=>by rw[ar (zN (zH (zy q) hp))];exact n
 there:=fun b u q _=>⟨u,k b u q⟩
 tups:=fun b xs q=>by rw[ar (aY q hn)];exact q
 frzs:=fun b u xs q=>by rw[ar (aY q hn)];exact q
 tbls:=fun b ps q=>⟨#[],by rw[ar (aY q hn),q];simp⟩
theorem Un.write (mu:Mut (H x))(he:e=x\/H e=some (.own x))(k:∀b u,b≠e->h.get? b=some u->h'.get? b=some u)(heo: ∃u,h'.get? e=some u):Un fs ex H (upd H x o) h h':=by
 have hx: ∀b,H b=none->b≠x:=fun b n z=>by subst z;rw[n] at mu;exact mu
 have hb: ∀b,H b=none->b≠e:=fun b n z=>by
  subst z
  rcases he with r|r
  ·exact hx b n r
  ·rw[n] at r;cases r
 have hm: ∀b u,H b=some u-> ¬Mut (some u)->b≠x:=fun b u q nm z=>by subst z;rw[q] at mu;exact nm mu
 refine⟨fun b u q n _ _=>k b u (hb b n) q,fun b u q n _ _=>⟨u.slots,k b u (hb b n) q⟩,fun b u q n _=>by rw[ar (hx b n)];exact n,fun b u q _=>?_,
  fun b xs q=>by rw[ar (hm b _ q fun z=>z)];exact q,fun b u xs q=>by rw[ar (hm b _ q fun z=>z)];exact q,fun b ps q=>⟨#[],by rw[ar (hm b _ q fun z=>z),q];simp⟩⟩
 by_cases hbe:b=e
 ·subst hbe;exact heo
 ·exact⟨u,k b u hbe q⟩
end
def trk (h:B4)(H:Hp):List B5:=(List.range h.objs.size).filter fun a=>(H a).isSome
def Ef (h:B4)(H:Hp):B4:=PySem.W.hideAll h (trk h H)
theorem qx (h:B4)(H:Hp):(Ef h H).objs.size=h.objs.size:=PySem.W.hideAll_size _ _
theorem sx {h:B4}{H:Hp}{b:B5}{o:B7}(e:h.get? b=some o)(n:H b=none):(Ef h H).get? b=some o:=
 PySem.W.hideAll_get _ e fun hm=>by
  have q:(H b).isSome=true:=(AE.mp hm).2
  rw[n] at q;simp at q
theorem ug {h:B4}{H:Hp}{b:B5}{o:B7}(e:(Ef h H).get? b=some o):h.get? b=some o/\H b=none:=by
 have e':h.get? b=some o:=PySem.W.of_hideAll (trk h H) e
 refine⟨e',?_⟩
 cases q:H b with
 |none=>rfl
 |some x=>
  have hm:b∈trk h H:=AE.mpr ⟨List.mem_range.mpr (zy e'),by simp [q]⟩
  have z:(Ef h H).get? b=none:=PySem.W.hideAll_none (trk h H) hm
  rw[z] at e;cases e
noncomputable def vf (g h:B4)(L:B5):List (B5×B7):=(List.range h.objs.size).filterMap fun a=>if a=L\/(g.get? a).isSome=true then none else (h.get? a).map fun o=>(a,o)
def Gm (g h:B4)(L d:B5):List (B5×B7):=(vf g h L).filter fun p=>decide (p.1≠d)
end
section
structure Mod (K:PySem.W.Frag)(mg:Str->Option BZ)(base:B4):Prop where
 kin:K.In base
 glob:base.Ns Cj mg
 blt: ∃mb,base.Ns builtinsNs mb/\ ∀x:Str,x≠ "__name__"->mb x=Ck x
 nolimit:base.NoLimit
structure Cx where
 prog:B2
 w:B3
 K:PySem.W.Frag
 mg:Str->Option BZ
 base:B4
 A:B8
 N:List Str
 s₀:B6
 H₀:Hp
 env:Env
 outer:List Env
 stack:List Env
 ex:List B5
 fn:Str->Bool
 calm:Bool
 pn:List (B5×B7)
 xe:BZ->B6->Prop
noncomputable def frs (l:List Env):List B5:=l.filterMap (·.frame)
noncomputable abbrev Cx.fs (X:Cx):List B5:=frs X.outer
noncomputable def Vis (sc:Cn)(x:Str):Prop:=sc.names.lookup x=some .local \/sc.names.lookup x=some .cell\/sc.names.lookup x=some .free
noncomputable def Loc (sc:Cn)(x:Str):Prop:=sc.names.lookup x=some .local \/sc.names.lookup x=some .cell
noncomputable def Look (env:Env)(h:B4)(m:Str->Option BZ)(x:Str)(u:BZ):Prop:=
 (env.kindOf x=some .local /\m x=some u)\/((env.kindOf x=some .cell\/env.kindOf x=some .free)/\ ∃c,env.cells.lookup x=some c/\h.IsCell c (some u))
structure Cx.Ok (X:Cx):Prop where
 mod:Mod X.K X.mg X.base
 kind:X.env.scope.kind=.function
 glob:X.env.globals=Cj
 blt:X.env.builtins=builtinsNs
 above:X.s₀.heap.objs.size<=X.env.locals
 inj: ∀x y c,X.env.cells.lookup x=some c->X.env.cells.lookup y=some c->x=y
 has: ∀x,(X.env.kindOf x=some .cell\/X.env.kindOf x=some .free)-> ∃c,X.env.cells.lookup x=some c
 cab: ∀x c,X.fn x=true->X.env.cells.lookup x=some c->X.s₀.heap.objs.size<=c
 hd:X.calm=true->X.A.handled=none
 frames:X.A.frames=some X.stack
 stk:X.stack=X.outer\/(X.stack=X.env::X.outer/\X.env.frame=some X.env.locals)
 exf: ∀b∈X.ex,b≠X.env.locals/\ ∀x c,X.env.cells.lookup x=some c->c≠b
 bs: ∀b o,X.base.get? b=some o->X.s₀.heap.get? b=some o/\X.H₀ b=none
 bsz:X.base.objs.size<=X.s₀.heap.objs.size
 noex: ∀b o,X.base.get? b=some o->b ∉ X.ex
 exfs: ∀b∈X.ex,b ∉ X.fs
 funs:X.s₀.heap.FunFrames X.base X.outer
 frf: ∀b∈X.fs,X.H₀ b=none
structure Inv (X:Cx)(pins:List (B5×B7))(σ:List (Option V))(H:Hp)(s:B6):Prop where
 ok:X.Ok
 os:s.os=X.s₀.os
 bare:Co s.gens
 base:Un X.fs X.ex X.H₀ H X.s₀.heap s.heap
 loc: ∃m,s.heap.Ns X.env.locals m/\ ∀ (i:Nat) (x:Str) (v:V),X.N[i]?=some x->σ[i]?=some (some v)->Vis X.env.scope x-> ∃u,RelV v u/\Look X.env s.heap m x u
 cell: ∀x c,X.env.cells.lookup x=some c-> ∃v,s.heap.IsCell c v
 free:H X.env.locals=none
 freeC: ∀x c,X.env.cells.lookup x=some c->H c=none
 pin: ∀p∈X.pn++pins,s.heap.get? p.1=some p.2/\H p.1=none/\p.1≠X.env.locals/\p.1 ∉ X.fs/\ ∀v,p.2.data≠.cell v
 hok:HOk X.prog X.w H s.heap
 len:σ.length=X.N.length
section
variable {X:Cx}{pins:List (B5×B7)}{σ:List (Option V)}{H H':Hp}{s:B6}{h':B4}
theorem Cx.Ok.nofr (ok:X.Ok){b:B5}{o:B7}(e:X.base.get? b=some o):b ∉ X.fs:=fun hb=>by
 have:=(ok.funs.mem hb).1
 rw[e] at this;cases this
theorem Inv.bs (I:Inv X pins σ H s): ∀b o,X.base.get? b=some o->s.heap.get? b=some o/\H b=none:=fun b o e=>
 ⟨I.base.keep b o (I.ok.bs b o e).1 (I.ok.bs b o e).2 (I.ok.nofr e) (I.ok.noex b o e),I.base.free b o (I.ok.bs b o e).1 (I.ok.bs b o e).2 (I.ok.noex b o e)⟩
theorem Inv.bk (I:Inv X pins σ H s): ∀b o,X.base.get? b=some o->s.heap.get? b=some o:=fun b o e=>(I.bs b o e).1
theorem Inv.mod (I:Inv X pins σ H s):Mod X.K X.mg X.base:=I.ok.mod
theorem Inv.kIn (I:Inv X pins σ H s):X.K.In s.heap:=I.ok.mod.kin.keeps I.bk
theorem Inv.fr (I:Inv X pins σ H s): ∃m,Fr X.base X.env.locals s.heap m:=
 let ⟨m,hn,_⟩:=I.loc
 ⟨m,hn,I.bk,zJ I.ok.bsz I.ok.above⟩
theorem Inv.lt (I:Inv X pins σ H s):X.env.locals<s.heap.objs.size:=let ⟨_,hn,_⟩:=I.loc;hn.lt
theorem Inv.sz (I:Inv X pins σ H s):X.s₀.heap.objs.size<=s.heap.objs.size:=zJ I.ok.above (AM I.lt)
theorem Inv.nofs (I:Inv X pins σ H s){a:B5}(h:s.heap.objs.size<=a):a ∉ X.fs:=fun hb=>by
 obtain⟨_,o,ho,_⟩:=I.ok.funs.mem hb
 exact absurd (zH (zy ho) (zJ I.sz h)) (Aq _)
theorem Inv.cne (I:Inv X pins σ H s): ∀x c,X.env.cells.lookup x=some c->c≠X.env.locals:=fun x c e z=>by
 obtain⟨v,o,ho,hd⟩:=I.cell x c e
 obtain⟨m,⟨o',es,ep,ho',hd',_⟩,_⟩:=I.loc
 rw[z,ho'] at ho;cases ho;rw[hd'] at hd;cases hd
theorem Inv.funs (I:Inv X pins σ H s):s.heap.FunFrames X.base X.outer:=by
 have all: ∀ (l:List Env),(∀b∈frs l,b∈X.fs)->X.s₀.heap.FunFrames X.base l->s.heap.FunFrames X.base l:=by
  intro l
  induction l with
  |nil=>intro _ _;trivial
  |cons env r ih=>
   intro hs hl
   obtain⟨hk,⟨L,o,hf,hn,ho,hd⟩,hr⟩:=hl
   have hL:L∈X.fs:=hs L (by unfold frs;rw[An,hf];exact zB)
   obtain⟨sl,e⟩:=I.base.slot L o ho (I.ok.frf L hL) hL fun z=>I.ok.exfs L z hL
   exact⟨hk,⟨L,_,hf,hn,e,hd⟩,ih (fun b hb=>hs b (by unfold frs;rw[An,hf];exact zK _ hb)) hr⟩
 exact all X.outer (fun _ hb=>hb) I.ok.funs
theorem Inv.stack (I:Inv X pins σ H s):s.heap.FunFrames X.base X.stack:=by
 rcases I.ok.stk with e|⟨e,hf⟩
 ·rw[e];exact I.funs
 ·rw[e]
  obtain⟨m,hn,_⟩:=I.loc
  refine .cons (by rw[I.ok.kind];decide) hf hn ?_ I.funs
  exact B4.get?_none_of_le (zJ I.ok.bsz I.ok.above)
theorem Inv.stkSub (I:Inv X pins σ H s): ∀b∈frs X.stack,b∈X.env.locals::X.fs:=fun b hb=>by
 rcases I.ok.stk with e|⟨e,hf⟩
 ·rw[e] at hb;exact zK _ hb
 ·rw[e] at hb
  unfold frs at hb
  rw[An,hf] at hb
  exact hb
theorem Inv.stkFree (I:Inv X pins σ H s): ∀b∈frs X.stack,H b=none:=fun b hb=>by
 rcases zA.mp (I.stkSub b hb) with e|hb
 ·rw[e];exact I.free
 ·obtain⟨_,o,ho,_⟩:=I.ok.funs.mem hb
  exact I.base.free b o ho (I.ok.frf b hb) fun z=>I.ok.exfs b z hb
theorem Inv.step {g':Array GenState}{t':Nat}{d':Drawn}{ch:List B5}(I:Inv X pins σ H s)
  (hch: ∀b∈ch,(b∈X.ex\/X.s₀.heap.objs.size<=b)/\b≠X.env.locals/\(∀x c,X.env.cells.lookup x=some c->c≠b)/\ ∀p∈X.pn++pins,p.1≠b)
  (keep: ∀b o,b≠X.env.locals->b ∉ X.fs->b ∉ ch->s.heap.get? b=some o->H b=none->h'.get? b=some o)
  (slot: ∀b o,b≠X.env.locals->b∈X.fs->b ∉ ch->s.heap.get? b=some o->H b=none-> ∃sl,h'.get? b=some {o with slots:=sl})(free: ∀b o,b ∉ ch->s.heap.get? b=some o->H b=none->H' b=none)
  (there: ∀b o,b ∉ ch->s.heap.get? b=some o-> ∃o',h'.get? b=some o')
  (tups: ∀b xs,H b=some (.tup xs)->H' b=some (.tup xs))(frzs: ∀b o u,H b=some (.frz o u)->H' b=some (.frz o u))(tbls: ∀b ps,H b=some (.tbl ps)-> ∃more,H' b=some (.tbl (ps++more)))
  (ns: ∀m,s.heap.Ns X.env.locals m->h'.Ns X.env.locals m)(hok:HOk X.prog X.w H' h')(hg:Co g'):
  Inv X pins σ H' {s with heap:=h',gens:=g',drawn:=d',toks:=t'}:=by
 have neL: ∀b o,X.s₀.heap.get? b=some o->b≠X.env.locals:=fun b o e=>zN (zH (zy e) I.ok.above)
 have neC: ∀b o,X.s₀.heap.get? b=some o->b ∉ X.ex->b ∉ ch:=fun b o e hx hb=>by
  rcases (hch b hb).1 with z|z
  ·exact hx z
  ·exact absurd (zH (zy e) z) (Aq _)
 have cellK: ∀x c,X.env.cells.lookup x=some c-> ∀v,s.heap.IsCell c v->h'.IsCell c v:=fun x c e v ⟨o,ho,hd⟩=>by
  have nch:c ∉ ch:=fun z=>(hch c z).2.2.1 x c e rfl
  by_cases hc:c∈X.fs
  ·obtain⟨sl,q⟩:=slot c o (I.cne x c e) hc nch ho (I.freeC x c e)
   exact⟨_,q,hd⟩
  ·exact⟨o,keep c o (I.cne x c e) hc nch ho (I.freeC x c e),hd⟩
 refine⟨I.ok,I.os,hg,⟨fun b o e n hb hx=>?_,fun b o e n hb hx=>?_,fun b o e n hx=>?_,fun b o e hx=>?_,fun b xs e=>tups b xs (I.base.tups b xs e),fun b o xs e=>frzs b o xs (I.base.frzs b o xs e),fun b ps e=>?_⟩,?_,fun x c e=>?_,?_,fun x c e=>?_,fun p hp=>?_,hok,I.len⟩
 ·exact keep b o (neL b o e) hb (neC b o e hx) (I.base.keep b o e n hb hx) (I.base.free b o e n hx)
 ·obtain⟨sl,e1⟩:=I.base.slot b o e n hb hx
  obtain⟨sl',e2⟩:=slot b _ (neL b o e) hb (neC b o e hx) e1 (I.base.free b o e n hx)
  exact⟨sl',e2⟩
 ·obtain⟨o',e1⟩:=I.base.there b o e hx
  exact free b o' (neC b o e hx) e1 (I.base.free b o e n hx)
 ·obtain⟨o',e1⟩:=I.base.there b o e hx
  exact there b o' (neC b o e hx) e1
 ·obtain⟨m1,e1⟩:=I.base.tbls b ps e
  obtain⟨m2,e2⟩:=tbls b _ e1
  exact⟨m1++m2,by rw[e2,Bz]⟩
 ·obtain⟨m,hn,hl⟩:=I.loc
  refine⟨m,ns m hn,fun i x v e1 e2 e3=>?_⟩
  obtain⟨u,r,l⟩:=hl i x v e1 e2 e3
  refine⟨u,r,?_⟩
  rcases l with l|⟨k,c,e,z⟩
  ·exact .inl l
  ·exact .inr ⟨k,c,e,cellK x c e _ z⟩
 ·obtain⟨v,z⟩:=I.cell x c e
  exact⟨v,cellK x c e v z⟩
 ·obtain⟨m,⟨o,_,_,ho,_⟩,_⟩:=I.loc
  exact free _ o (fun z=>(hch _ z).2.1 rfl) ho I.free
 ·obtain⟨v,o,ho,hd⟩:=I.cell x c e
  exact free c o (fun z=>(hch c z).2.2.1 x c e rfl) ho (I.freeC x c e)
 ·obtain⟨e,n,ne,nf,d⟩:=I.pin p hp
  have nch:p.1 ∉ ch:=fun z=>(hch p.1 z).2.2.2 p hp rfl
  exact⟨keep p.1 p.2 ne nf nch e n,free p.1 p.2 nch e n,ne,nf,d⟩
theorem Inv.un {t':Nat}(I:Inv X pins σ H s)(u:Un X.fs [] H H' s.heap h')(hok:HOk X.prog X.w H' h'):Inv X pins σ H' {s with heap:=h',toks:=t'}:=by
 obtain⟨m,⟨o,es,ep,ho,r⟩,_⟩:=id I.loc
 obtain⟨sl,hL⟩:=u.any ho I.free (by simp)
 exact I.step (g':=s.gens) (d':=s.drawn) (ch:=[]) (fun _ z=>nomatch z) (fun b o _ hb _ e n=>u.keep b o e n hb (by simp)) (fun b o _ hb _ e n=>u.slot b o e n hb (by simp)) (fun b o _ e n=>u.free b o e n (by simp)) (fun b o _ e=>u.there b o e (by simp)) u.tups u.frzs u.tbls (fun m' hm=>by
  obtain⟨o',es',ep',ho',r'⟩:=hm
  rw[ho] at ho';cases ho'
  exact⟨_,es',ep',hL,r'⟩) hok I.bare
theorem Inv.call {g':Array GenState}{t':Nat}{d':Drawn}{ch:List B5}(I:Inv X pins σ H s)(u:Un (frs X.stack) ch H H' s.heap h')(hok:HOk X.prog X.w H' h')(hg:Co g')
  (hch: ∀b∈ch,(b∈X.ex\/X.s₀.heap.objs.size<=b)/\b≠X.env.locals/\(∀x c,X.env.cells.lookup x=some c->c≠b)/\ ∀p∈X.pn++pins,p.1≠b):
  Inv X pins σ H' {s with heap:=h',gens:=g',drawn:=d',toks:=t'}:=by
 obtain⟨m,⟨o,es,ep,ho,r⟩,_⟩:=id I.loc
 obtain⟨sl,hL⟩:=u.any ho I.free fun z=>(hch _ z).2.1 rfl
 exact I.step (ch:=ch) hch (fun b o hL hb hc e n=>u.keep b o e n (fun z=>(zA.mp (I.stkSub b z)).elim hL hb) hc) (fun b o _ _ hc e n=>u.any e n hc) (fun b o hc e n=>u.free b o e n hc) (fun b o hc e=>u.there b o e hc) u.tups u.frzs u.tbls (fun m' hm=>by
  obtain⟨o',es',ep',ho',r'⟩:=hm
  rw[ho] at ho';cases ho'
  exact⟨_,es',ep',hL,r'⟩) hok hg
theorem Inv.turned {t':Nat}{it:B5}(I:Inv X pins σ H s)(k:∀b o,b≠it->s.heap.get? b=some o->h'.get? b=some o)(hn:H it=none)(hL:it≠X.env.locals)
  (h1:it∈X.ex\/X.s₀.heap.objs.size<=it)(h2: ∀x c,X.env.cells.lookup x=some c->c≠it)(h3: ∀p∈X.pn++pins,p.1≠it):Inv X pins σ H {s with heap:=h',toks:=t'}:=by
 have nit: ∀b u,H b=some u->b≠it:=fun b u e z=>by rw[z,hn] at e;cases e
 refine I.step (g':=s.gens) (d':=s.drawn) (ch:=[it]) (fun b hb=>?_) (fun b o _ _ hc e _=>k b o (fun z=>hc (by simp [z])) e) (fun b o _ _ hc e _=>⟨o.slots,k b o (fun z=>hc (by simp [z])) e⟩) (fun _ _ _ _ n=>n)
  (fun b o hc e=>⟨o,k b o (fun z=>hc (by simp [z])) e⟩) (fun _ _ e=>e) (fun _ _ _ e=>e) (fun b ps e=>⟨#[],by rw[e];simp⟩) (fun m hm=>?_) (fun b u e=>?_) I.bare
 ·have e:b=it:=by simpa using hb
  subst e
  exact⟨h1,hL,h2,h3⟩
 ·obtain⟨o,es,ep,ho,r⟩:=hm
  exact⟨o,es,ep,k _ o (Ne.symm hL) ho,r⟩
 ·refine (I.hok b u e).stay (fun c v hc q=>k c v ?_ q) (fun _ q=>q) fun _ _ q=>q
  rcases hc with z|z
  ·rw[z];exact nit b u e
  ·exact nit c _ z
theorem Inv.tok (I:Inv X pins σ H s)(t:Nat):Inv X pins σ H {s with toks:=t}:=I.un (h':=s.heap) (t':=t) Un.refl I.hok
theorem Inv.kept {t':Nat}(I:Inv X pins σ H s)(k:∀b u,s.heap.get? b=some u->h'.get? b=some u):Inv X pins σ H {s with heap:=h',toks:=t'}:=I.un (Un.kept k) (I.hok.kept k)
theorem Inv.laid {a:B5}{o:HO}{t':Nat}(I:Inv X pins σ H s)(k:∀b u,s.heap.get? b=some u->h'.get? b=some u)(hp:s.heap.objs.size<=a)(new:ObjOk X.prog X.w (upd H a o) h' a o):
 Inv X pins σ (upd H a o) {s with heap:=h',toks:=t'}:=I.un (Un.laid k hp (I.hok.fresh hp)) (I.hok.laid k hp new)
theorem Inv.write {x e:B5}{o:HO}{t':Nat}(I:Inv X pins σ H s)(mu:Mut (H x))(he:e=x\/H e=some (.own x))(k:∀b u,b≠e->s.heap.get? b=some u->h'.get? b=some u)(heo: ∃u,h'.get? e=some u)
 (new:ObjOk X.prog X.w (upd H x o) h' x o):Inv X pins σ (upd H x o) {s with heap:=h',toks:=t'}:=I.un (Un.write mu he k heo) (I.hok.write mu he k heo new)
theorem Inv.weak {σ':List (Option V)}(I:Inv X pins σ H s)(hl:σ'.length=σ.length)(w:∀ (i:Nat) v,σ'[i]?=some (some v)->σ[i]?=some (some v)):Inv X pins σ' H s:=
 ⟨I.ok,I.os,I.bare,I.base,let ⟨m,hn,hl'⟩:=I.loc;⟨m,hn,fun i x v e1 e2 e3=>hl' i x v e1 (w i v e2) e3⟩,I.cell,I.free,I.freeC,I.pin,I.hok,hl.trans I.len⟩
theorem Inv.pins_of {pins':List (B5×B7)}(I:Inv X pins σ H s)(h:∀p∈pins',s.heap.get? p.1=some p.2/\H p.1=none/\p.1≠X.env.locals/\p.1 ∉ X.fs/\ ∀v,p.2.data≠.cell v):Inv X pins' σ H s:=
 ⟨I.ok,I.os,I.bare,I.base,I.loc,I.cell,I.free,I.freeC,fun p hp=>(zY.mp hp).elim (fun z=>I.pin p (A8 _ z)) (h p),I.hok,I.len⟩
theorem mG {N:List Str}(hN:N.Nodup){i j:Nat}{x:Str}(a:N[i]?=some x)(b:N[j]?=some x):i=j:=by
 obtain⟨h1,e1⟩:=zO.mp a
 obtain⟨h2,e2⟩:=zO.mp b
 exact (List.getElem_inj hN).mp (e1.trans e2.symm)
theorem ka {M:Model}{A:B8}{E:BZ->B6->Prop}{i:Nat}{x:Str}{v:V}{u:BZ}{Q:Unit->B6->Prop}(I:Inv X pins σ H s)(hN:X.N.Nodup)(hi:X.N[i]?=some x)(hx:Loc X.env.scope x)(r:RelV v u)
  (h:∀s',Inv X pins (σ.set i (some v)) H s'->(∃a,AF a s.heap s'.heap/\(a=X.env.locals\/X.env.cells.lookup x=some a))->Q () s')(hf:X.fn x=true\/X.env.scope.names.lookup x=some .local :=by first|exact .inl rfl|exact .inr rfl|assumption):Ca M A (storeName X.env x u) Q E s:=by
 obtain⟨m,hn,hl⟩:=id I.loc
 have hcls:(X.env.scope.kind==.class||(X.env.scope.kind==.module && X.env.locals !=X.env.globals))=false:=by rw[I.ok.kind];rfl
 have hiσ:i<σ.length:=by rw[I.len];exact (zO.mp hi).1
 have cne:=I.cne
 have tracked: ∀ {a:B5}{h':B4},(∃o,s.heap.get? a=some o/\H a=none)->AF a s.heap h'->HOk X.prog X.w H h':=fun{a h'} ha hs b ob e=>by
  obtain⟨_,_,hfree⟩:=ha
  refine (I.hok b ob e).stay (fun c w' hc q=>(hs.2 c ?_).trans q) (fun _ q=>q) fun _ _ q=>q
  rintro rfl
  rcases hc with rfl|hc
  ·rw[hfree] at e;cases e
  ·rw[hfree] at hc;cases hc
 rcases hx with hk|hk
 ·refine wpAny_storeName_local hk hn (fun h' hn' hs=>?_) hcls
  obtain⟨oL,_,_,hoL,_⟩:=id hn
  refine h _ ⟨I.ok,I.os,I.bare,⟨fun b o e n hb hx=>?_,fun b o e n hb hx=>?_,I.base.free,fun b o e hx=>?_,I.base.tups,I.base.frzs,I.base.tbls⟩,⟨_,hn',fun j y v' e1 e2 e3=>?_⟩,fun y c e=>?_,I.free,I.freeC,fun p hp=>?_,tracked ⟨oL,hoL,I.free⟩ hs,by simpa using I.len⟩ ⟨_,hs,.inl rfl⟩
  ·exact (hs.2 b (zN (zH (zy e) I.ok.above))).trans (I.base.keep b o e n hb hx)
  ·obtain⟨sl,e1⟩:=I.base.slot b o e n hb hx
   exact⟨sl,(hs.2 b (zN (zH (zy e) I.ok.above))).trans e1⟩
  ·obtain⟨o',e1⟩:=I.base.there b o e hx
   exact⟨o',(hs.2 b (zN (zH (zy e) I.ok.above))).trans e1⟩
  ·by_cases hj:j=i
   ·subst hj
    rw[hi] at e1;cases e1
    rw[Az hiσ] at e2
    cases e2
    exact⟨u,r,.inl ⟨hk,by simp⟩⟩
   ·rw[zt (Ne.symm hj)] at e2
    obtain⟨u',r',q⟩:=hl j y v' e1 e2 e3
    refine⟨u',r',?_⟩
    rcases q with⟨k,e⟩|⟨k,c,e,z⟩
    ·refine .inl ⟨k,?_⟩
     have:y≠x:=fun e=>hj (mG hN e1 (e▸hi))
     simp [this,e]
    ·exact .inr ⟨k,c,e,z.sameBut hs (cne y c e)⟩
  ·obtain⟨w',z⟩:=I.cell y c e
   exact⟨w',z.sameBut hs (cne y c e)⟩
  ·obtain⟨e,n,ne,nf,d⟩:=I.pin p hp
   exact⟨(hs.2 p.1 ne).trans e,n,ne,nf,d⟩
 ·have hfn:X.fn x=true:=by
   rcases hf with z|z
   ·exact z
   ·rw[z] at hk;cases hk
  obtain⟨c,hc⟩:=I.ok.has x (.inl hk)
  obtain⟨w',z⟩:=I.cell x c hc
  refine wpAny_storeName_cell I.ok.kind hk hc z (fun h' hc' hs=>?_)
  obtain⟨oc,hoc,hocd⟩:=id z
  refine h {s with heap:=h'} ⟨I.ok,I.os,I.bare,⟨fun b o e n hb hx=>?_,fun b o e n hb hx=>?_,I.base.free,fun b o e hx=>?_,I.base.tups,I.base.frzs,I.base.tbls⟩,⟨m,hn.sameBut hs (Ne.symm (cne x c hc)),fun j y v' e1 e2 e3=>?_⟩,fun y c' e=>?_,I.free,I.freeC,fun p hp=>?_,tracked ⟨oc,hoc,I.freeC x c hc⟩ hs,by simpa using I.len⟩ ⟨c,hs,.inr hc⟩
  ·exact (hs.2 b (zN (zH (zy e) (I.ok.cab x c hfn hc)))).trans (I.base.keep b o e n hb hx)
  ·obtain⟨sl,e1⟩:=I.base.slot b o e n hb hx
   exact⟨sl,(hs.2 b (zN (zH (zy e) (I.ok.cab x c hfn hc)))).trans e1⟩
  ·obtain⟨o',e1⟩:=I.base.there b o e hx
   exact⟨o',(hs.2 b (zN (zH (zy e) (I.ok.cab x c hfn hc)))).trans e1⟩
  ·by_cases hj:j=i
   ·subst hj
    rw[hi] at e1;cases e1
    rw[Az hiσ] at e2
    cases e2
    exact⟨u,r,.inr ⟨.inl hk,c,hc,hc'⟩⟩
   ·rw[zt (Ne.symm hj)] at e2
    obtain⟨u',r',q⟩:=hl j y v' e1 e2 e3
    refine⟨u',r',?_⟩
    rcases q with q|⟨k,c',e,z'⟩
    ·exact .inl q
    ·refine .inr ⟨k,c',e,z'.sameBut hs ?_⟩
     rintro rfl
     exact hj (mG hN e1 (I.ok.inj _ _ _ e hc▸hi))
  ·by_cases hcc:c'=c
   ·subst hcc;exact⟨_,hc'⟩
   ·obtain⟨w2,z2⟩:=I.cell y c' e
    exact⟨w2,z2.sameBut hs hcc⟩
  ·obtain⟨e,n,ne,nf,d⟩:=I.pin p hp
   refine⟨(hs.2 p.1 ?_).trans e,n,ne,nf,d⟩
   intro q
   rw[q,hoc] at e
   have q':oc=p.2:=Option.some.inj e
   exact d w' (by rw[<-q'];exact hocd)
theorem md {M:Model}{A:B8}{E:BZ->B6->Prop}{i:Nat}{x:Str}{v:V}{u:BZ}{Q:Unit->B6->Prop}(I:Inv X pins σ H s)(hN:X.N.Nodup)(hi:X.N[i]?=some x)(hx:Loc X.env.scope x)(r:RelV v u)
  (h:∀s',Inv X pins (σ.set i (some v)) H s'->Q () s')(hf:X.fn x=true\/X.env.scope.names.lookup x=some .local :=by first|exact .inl rfl|exact .inr rfl|assumption):Ca M A (storeName X.env x u) Q E s:=
 ka I hN hi hx r (fun s' I' _=>h s' I') hf
theorem Inv.call' {s':B6}{ch:List B5}(I:Inv X pins σ H s)(ho:s'.os=s.os)(u:Un (frs X.stack) ch H H' s.heap s'.heap)(hok:HOk X.prog X.w H' s'.heap)(hg:Co s'.gens)
  (hch: ∀b∈ch,(b∈X.ex\/X.s₀.heap.objs.size<=b)/\b≠X.env.locals/\(∀x c,X.env.cells.lookup x=some c->c≠b)/\ ∀p∈X.pn++pins,p.1≠b):Inv X pins σ H' s':=by
 obtain⟨h',g',d',t',o'⟩:=s'
 have e:o'=s.os:=ho
 subst e
 exact I.call (g':=g') (t':=t') (d':=d') u hok hg hch
end
noncomputable abbrev XK:=BZ->Option B5->Hp->Prop
noncomputable abbrev St:=List (Option V)
noncomputable abbrev VK:=V->Hp->Prop
noncomputable abbrev TE:=St->Hp->VK->Prop
noncomputable abbrev TT:=St->Hp->(Bool->Hp->Prop)->Prop
noncomputable abbrev TA:=St->Hp->(List V->Hp->Prop)->Prop
structure Dj where
 nx:St->Hp->Prop
 rt:VK
 bk:St->Hp->Prop:=fun _ _=>False
 ct:St->Hp->Prop:=fun _ _=>False
noncomputable abbrev TS:=Dj->St->Hp->Prop
def EP (X:Cx)(pins:List (B5×B7))(σ:St)(Q:VK)(u:BZ)(s':B6):Prop:= ∃v H',Inv X pins σ H' s'/\RelV v u/\Q v H'
def TP (X:Cx)(pins:List (B5×B7))(σ:St)(Q:Bool->Hp->Prop)(b:Bool)(s':B6):Prop:= ∃H',Inv X pins σ H' s'/\Q b H'
def AP (X:Cx)(pins:List (B5×B7))(σ:St)(Q:List V->Hp->Prop)(us:List BZ)(s':B6):Prop:= ∃vs H',Inv X pins σ H' s'/\Vals vs us/\Q vs H'
def SP (X:Cx)(pins:List (B5×B7))(D:Dj)(f:Flow)(s':B6):Prop:=
 match f with
 |.next=> ∃σ' H',Inv X pins σ' H' s'/\D.nx σ' H'
 |.brk=> ∃σ' H',Inv X pins σ' H' s'/\D.bk σ' H'
 |.cont=> ∃σ' H',Inv X pins σ' H' s'/\D.ct σ' H'
 |.ret u=> ∃v σ' H',Inv X pins σ' H' s'/\RelV v u/\D.rt v H'
def PE (X:Cx)(e:Expr)(t:TE):Prop:=
 ∀ (pins:List (B5×B7)) (s:B6) (σ:St) (H:Hp) (Q:VK),Inv X pins σ H s->t σ H Q->Ca (Cb X.prog X.w) X.A (Cp e X.env) (EP X pins σ Q) X.xe s
def PT (X:Cx)(e:Expr)(t:TT):Prop:=
 ∀ (pins:List (B5×B7)) (s:B6) (σ:St) (H:Hp) (Q:Bool->Hp->Prop),Inv X pins σ H s->t σ H Q->Ca (Cb X.prog X.w) X.A (isTrue e X.env (Cp e X.env)) (TP X pins σ Q) X.xe s
def PW (X:Cx)(e:Expr)(t:TT):Prop:=
 ∀ (whole:Sem BZ) (pins:List (B5×B7)) (s:B6) (σ:St) (H:Hp) (Q:Bool->Hp->Prop),Inv X pins σ H s->t σ H Q->Ca (Cb X.prog X.w) X.A (isTrue e X.env whole) (TP X pins σ Q) X.xe s
theorem PW.pt {X:Cx}{e:Expr}{t:TT}(h:PW X e t):PT X e t:=h _
def PA (X:Cx)(es:List Expr)(t:TA):Prop:=
 ∀ (pos:Ct) (pins:List (B5×B7)) (s:B6) (σ:St) (H:Hp) (Q:List V->Hp->Prop),Inv X pins σ H s->t σ H Q->Ca (Cb X.prog X.w) X.A (spliced (Cu pos (Cv es X.env))) (AP X pins σ Q) X.xe s
def PS (X:Cx)(st:Cw)(t:TS):Prop:=
 ∀ (pins:List (B5×B7)) (s:B6) (σ:St) (H:Hp) (D:Dj),Inv X pins σ H s->t D σ H->Ca (Cb X.prog X.w) X.A (exec st X.env) (SP X pins D) X.xe s
def PSs (X:Cx)(st:List Cw)(t:TS):Prop:=
 ∀ (pins:List (B5×B7)) (s:B6) (σ:St) (H:Hp) (D:Dj),Inv X pins σ H s->t D σ H->Ca (Cb X.prog X.w) X.A (execs st X.env) (SP X pins D) X.xe s
theorem thn {α:Type}{t:Sem α}{Q Q':α->B6->Prop}{M:Model}{A:B8}{E:BZ->B6->Prop}{s:B6}(h:Ca M A t Q E s)(hQ: ∀a s,Q a s->Q' a s):Ca M A t Q' E s:=Cy h hQ fun _ _ x=>x
end
section
section
variable {X:Cx}
theorem bin {a b:Expr}{ta tb:TE}(ha:PE X a ta)(hb:PE X b tb){pins:List (B5×B7)}{s:B6}{σ:St}{H:Hp}{R:V->V->Hp->Prop}(I:Inv X pins σ H s)(h:ta σ H fun x H1=>tb σ H1 fun y H2=>R x y H2)
  {α:Type}{Q:α->B6->Prop}{f:BZ->BZ->Sem α}
  (hf: ∀v u s2 x y H2,Inv X pins σ H2 s2->RelV x v->RelV y u->R x y H2->Ca (Cb X.prog X.w) X.A (f v u) Q X.xe s2):
  Ca (Cb X.prog X.w) X.A (Cp a X.env) (fun v s₁=>Ca (Cb X.prog X.w) X.A (Cp b X.env) (fun u s₂=>Ca (Cb X.prog X.w) X.A (f v u) Q X.xe s₂) X.xe s₁) X.xe s:=by
 refine thn (ha pins s σ H _ I h) fun v s1 qz=>?_
 obtain⟨x,H1,I1,r1,q1⟩:=qz
 refine thn (hb pins s1 σ H1 _ I1 q1) fun u s2 qz=>?_
 obtain⟨y,H2,I2,r2,q2⟩:=qz
 exact hf v u s2 x y H2 I2 r1 r2 q2
def Hs (i:Nat):TE:=fun σ H Q=> ∃v,σ[i]?=some (some v)/\Q v H
def tC (v:V):TE:=fun _ H Q=>Q v H
theorem wg {i:Nat}{x:Str}{pos:Ct}(hN:X.N[i]?=some x)(hv:Vis X.env.scope x)(hd:(x==("__debug__":Str))=false:=by decide)(hcd:(x==("__classdict__":Str))=false:=by decide):PE X (.Name x pos) (Hs i):=by
 intro pins s σ H Q I h
 obtain⟨v,e,h⟩:=h
 obtain⟨m,hn,hl⟩:=I.loc
 obtain⟨u,r,l⟩:=hl i x v hN e hv
 have fin:EP X pins σ Q u s:=⟨v,H,I,r,h⟩
 rcases l with⟨hk,hm⟩|⟨hk,c,hc,hcell⟩
 ·exact wpAny_Name (wpAny_loadName_local I.ok.kind hk hn hm fin) hd
 ·rcases hk with hk|hk
  ·exact wpAny_Name (wpAny_loadName_cell I.ok.kind hk hc hcell fin) hd
  ·exact wpAny_Name (wpAny_loadName_free I.ok.kind hk hc hcell fin hcd) hd
theorem F7 {i j pos}:PE X (.Constant (.int i) j pos) (tC (.int i)):=fun _ _ _ H _ I h=>wpAny_Constant_int ⟨.int i,H,I.tok _,⟨_,rfl⟩,h⟩
theorem F4 {b j pos}:PE X (.Constant (.bool b) j pos) (tC (.bl b)):=fun _ _ _ H _ I h=>Constant_bool ⟨.bl b,H,I,rfl,h⟩
theorem F8 {x j pos}:PE X (.Constant (.str x) j pos) (tC (.str x)):=fun _ _ _ H _ I h=>Calls.Constant_str ⟨.str x,H,I.tok _,⟨_,rfl⟩,h⟩
noncomputable def Gl (X:Cx)(x:Str):Prop:=X.env.kindOf x=some .globalImplicit
theorem gZ {E:BZ->B6->Prop}{pins:List (B5×B7)}{s:B6}{σ:St}{H:Hp}{x:Str}{u:BZ}{pos:Ct}{Q:BZ->B6->Prop}(I:Inv X pins σ H s)(hg:Gl X x)(hm:X.mg x=some u)(h:Q u s)
  (hd:(x==("__debug__":Str))=false:=by decide):Ca (Cb X.prog X.w) X.A (Cp (.Name x pos) X.env) Q E s:=
 Calls.Name_function_global I.ok.kind hg (Calls.loadGlobal_global (by rw[I.ok.glob];exact I.mod.glob.keeps I.bk) hm h) hd
theorem jB {E:BZ->B6->Prop}{pins:List (B5×B7)}{s:B6}{σ:St}{H:Hp}{x:Str}{u:BZ}{pos:Ct}{Q:BZ->B6->Prop}(I:Inv X pins σ H s)(hg:Gl X x)(hm:X.mg x=none)(hv:Ck x=some u)(h:Q u s)
  (hn:x≠ "__name__":=by decide)(hd:(x==("__debug__":Str))=false:=by decide):Ca (Cb X.prog X.w) X.A (Cp (.Name x pos) X.env) Q E s:=by
 obtain⟨mb,h1,h2⟩:=I.mod.blt
 exact Calls.Name_function_global I.ok.kind hg (Calls.loadGlobal_builtin (by rw[I.ok.glob];exact I.mod.glob.keeps I.bk) hm (by rw[I.ok.blt];exact h1.keeps I.bk) ((h2 x hn).trans hv) h) hd
theorem cO {x:Str}{v:V}{u:BZ}{pos:Ct}(hg:Gl X x)(hm:X.mg x=some u)(r:RelV v u)(hd:(x==("__debug__":Str))=false:=by decide):PE X (.Name x pos) (tC v):=
 fun _ _ _ H _ I h=>gZ I hg hm ⟨v,H,I,r,h⟩ hd
theorem t6 {x:Str}{v:V}{u:BZ}{pos:Ct}(hg:Gl X x)(hm:X.mg x=none)(hv:Ck x=some u)(r:RelV v u)(hn:x≠ "__name__":=by decide)(hd:(x==("__debug__":Str))=false:=by decide):PE X (.Name x pos) (tC v):=
 fun _ _ _ H _ I h=>jB I hg hm hv ⟨v,H,I,r,h⟩ hn hd
variable {a b:Expr}{ta tb:TE}{pos:Ct}
def PC (X:Cx)(op:CmpOp)(a b:Expr)(t:TE):Prop:=
 ∀ (pins:List (B5×B7)) (s:B6) (σ:St) (H:Hp) (Q:VK),Inv X pins σ H s->t σ H Q->
   Ca (Cb X.prog X.w) X.A (Cp a X.env) (fun v s₁=>Ca (Cb X.prog X.w) X.A (Cp b X.env) (fun u s₂=>Ca (Cb X.prog X.w) X.A (Cz op v u) (EP X pins σ Q) X.xe s₂) X.xe s₁) X.xe s
def tB (t:TE):TT:=fun σ H Q=>t σ H fun x H1=> ∃c,x=.bl c/\Q c H1
theorem zg {op:CmpOp}{t:TE}(h:PC X op a b t)(h1:CA op b=false:=by first|exact nobehind _ (by decide) (by decide)|rfl):PT X (.Compare a [op] [b] pos) (tB t):=by
 intro pins s σ H Q I hw
 refine wpAny_isTrue_Compare1 (thn (h pins s σ H _ I hw) fun v s1 h1=>thn h1 fun u s2 h2=>thn h2 fun c s3 qz=>?_) h1
 obtain⟨x,H1,I1,r1,q1⟩:=qz
 obtain⟨d,rfl,q⟩:=q1
 cases r1
 exact Cf ⟨H1,I1,q⟩
theorem eN {e:Expr}{t:TE}(h:PE X e t)(he: ∀whole,isTrue e X.env whole=(do let v<-whole;CB e.pos;CC [v] (truthy v)):=by intro _;rfl):PT X e (tB t):=by
 intro pins s σ H Q I hw
 refine isTrue_plain (thn (h pins s σ H _ I hw) fun v s1 qz=>?_) (he _)
 obtain⟨x,H1,I1,r1,q1⟩:=qz
 obtain⟨d,rfl,q⟩:=q1
 cases r1
 exact Cf ⟨H1,I1,q⟩
variable {tA tB':TT}{Gm:List Expr}
def tAnd (t u:TT):TT:=fun σ H Q=>t σ H fun c H1=>if c=true then u σ H1 Q else Q false H1
def tOr (t u:TT):TT:=fun σ H Q=>t σ H fun c H1=>if c=true then Q true H1 else u σ H1 Q
def tNot (t:TT):TT:=fun σ H Q=>t σ H fun c H1=>Q (!c) H1
theorem oZ (ha:PT X a tA):PW X (.BoolOp .And [a] pos) tA:=by
 intro wh pins s σ H Q I h
 refine isTrue_and (thn (ha pins s σ H Q I h) fun c s1 e=>?_)
 cases c with
 |true=>exact isTrue_and_nil e
 |false=>exact e
theorem oj (ha:PT X a tA):PW X (.BoolOp .Or [a] pos) tA:=by
 intro wh pins s σ H Q I h
 refine isTrue_or (thn (ha pins s σ H Q I h) fun c s1 e=>?_)
 cases c with
 |false=>exact isTrue_or_nil e
 |true=>exact e
theorem rk (ha:PT X a tA)(hb:PW X (.BoolOp .And (b::Gm) pos) tB'):PW X (.BoolOp .And (a::b::Gm) pos) (tAnd tA tB'):=by
 intro wh pins s σ H Q I h
 refine isTrue_and (thn (ha pins s σ H _ I h) fun c s1 qz=>?_)
 obtain⟨H1,I1,q1⟩:=qz
 cases c with
 |true=>exact hb wh pins s1 σ H1 Q I1 q1
 |false=>exact⟨H1,I1,q1⟩
theorem rj (ha:PT X a tA)(hb:PW X (.BoolOp .Or (b::Gm) pos) tB'):PW X (.BoolOp .Or (a::b::Gm) pos) (tOr tA tB'):=by
 intro wh pins s σ H Q I h
 refine isTrue_or (thn (ha pins s σ H _ I h) fun c s1 qz=>?_)
 obtain⟨H1,I1,q1⟩:=qz
 cases c with
 |true=>exact⟨H1,I1,q1⟩
 |false=>exact hb wh pins s1 σ H1 Q I1 q1
theorem ol (ha:PT X a tA):PT X (.UnaryOp .Not a pos) (tNot tA):=by
 intro pins s σ H Q I h
 exact isTrue_not (ha pins s σ H (fun c H1=>Q (!c) H1) I h)
def tAndV (ta tb:TE):TE:=fun σ H Q=>ta σ H fun x H1=> ∃c,x=.bl c/\if c=true then tb σ H1 Q else Q (.bl false) H1
def tNotV (ta:TE):TE:=fun σ H Q=>ta σ H fun x H1=> ∃c,x=.bl c/\Q (.bl (!c)) H1
theorem ot {op}{t:TE}(h:PE X a t):PE X (.BoolOp op [a] pos) t:=fun pins s σ H Q I hw=>BoolOp_one (h pins s σ H Q I hw)
theorem ou (ha:PE X a ta)(hb:PE X (.BoolOp .And (b::Gm) pos) tb):PE X (.BoolOp .And (a::b::Gm) pos) (tAndV ta tb):=by
 intro pins s σ H Q I h
 refine BoolOp_and (thn (ha pins s σ H _ I h) fun v s1 qz=>?_)
 obtain⟨x,H1,I1,r1,q1⟩:=qz
 obtain⟨c,rfl,q1⟩:=q1
 cases r1
 refine Cf ?_
 cases c with
 |true=>exact hb pins s1 σ H1 Q I1 q1
 |false=>exact⟨.bl false,H1,I1,rfl,q1⟩
theorem rC (ha:PE X a ta):PE X (.UnaryOp .Not a pos) (tNotV ta):=by
 intro pins s σ H Q I h
 refine UnaryOp_ (thn (ha pins s σ H _ I h) fun v s1 qz=>?_)
 obtain⟨x,H1,I1,r1,q1⟩:=qz
 obtain⟨c,rfl,q1⟩:=q1
 cases r1
 exact not_of (Cf ⟨.bl (!c),H1,I1,rfl,q1⟩)
end
end
section
def SqL (K:PySem.W.Frag)(H:Hp)(a:B5)(xs:List V):Prop:=
 Rd H a (.lst xs)\/
  ∃ (o:B7) (its:Array BZ) (n:Nat),K.lookup a=some o/\o.cls=.type "list"/\o.dict=none/\o.data=.seq its n/\its.size<=sizeLine/\Vals xs its.toList
def SqT (K:PySem.W.Frag)(H:Hp)(a:B5)(xs:List V):Prop:=
 Rd H a (.tup xs)\/
  ∃ (o:B7) (its:Array BZ) (n:Nat),K.lookup a=some o/\o.cls=.type "tuple"/\o.data=.seq its n/\its.size<=sizeLine/\Vals xs its.toList
noncomputable def absV:BZ->Option V
 |.none=>some .non
 |.bool b=>some (.bl b)
 |.int i _=>some (.int i)
 |.str x _=>some (.str x)
 |.bytes b _=>some (.byt b)
 |.float b _=>some (.flt b)
 |.ref a=>some (.ref a)
 |.type n=>some (.ty n)
 |_=>none
theorem RelV.abs {x:V}{u:BZ}(r:RelV x u):absV u=some x:=by
 cases x with
 |non=>cases r;rfl
 |bl _=>cases r;rfl
 |int _=>obtain⟨t,rfl⟩:=r;rfl
 |str _=>obtain⟨t,rfl⟩:=r;rfl
 |byt _=>obtain⟨t,rfl⟩:=r;rfl
 |flt _=>obtain⟨t,rfl⟩:=r;rfl
 |ref _=>cases r;rfl
 |ty _=>cases r;rfl
theorem RelV.inj {x y:V}{u:BZ}(r:RelV x u)(q:RelV y u):x=y:=Option.some.inj (r.abs.symm.trans q.abs)
theorem Vals.inj: ∀ {xs ys:List V}{us:List BZ},Vals xs us->Vals ys us->xs=ys
 :=by
 intro xs ys us h
 induction h generalizing ys with
 |nil=>intro g;cases g;rfl
 |cons r t ih=>
  intro g
  cases g with
  |cons r' t'=>rw[r.inj r',ih t']
section
variable {X:Cx}{pins:List (B5×B7)}{σ:St}{H:Hp}{s:B6}{a:B5}{xs ys:List V}
theorem SqL.of {K:PySem.W.Frag}(h:H a=some (.lst xs)):SqL K H a xs:=.inl (.inl h)
theorem SqT.of {K:PySem.W.Frag}(h:H a=some (.tup xs)):SqT K H a xs:=.inl (.inl h)
theorem Inv.list (I:Inv X pins σ H s)(h:SqL X.K H a xs): ∃its:List BZ,Vals xs its/\PlainL s.heap a its.toArray/\xs.length<=sizeLine:=by
 rcases h with h|⟨o,its,n,hk,hc,hd,hs,hz,r⟩
 ·obtain⟨z,its,n,r,e⟩:=h.ok I.hok
  exact⟨its,r,⟨_,n,e,rfl,rfl,rfl⟩,z⟩
 ·refine⟨its.toList,r,⟨o,n,I.kIn a o hk,hc,hd,by simpa using hs⟩,?_⟩
  have e:=r.length
  simp only[AG] at e
  omega
theorem Inv.tuple (I:Inv X pins σ H s)(h:SqT X.K H a xs): ∃its:List BZ,Vals xs its/\IsTup s.heap a its.toArray/\xs.length<=sizeLine:=by
 rcases h with h|⟨o,its,n,hk,hc,hs,hz,r⟩
 ·obtain⟨z,its,r,p⟩:=h.ok I.hok
  exact⟨its,r,p.1,z⟩
 ·refine⟨its.toList,r,⟨o,I.kIn a o hk,hc,n,by simpa using hs⟩,?_⟩
  have e:=r.length
  simp only[AG] at e
  omega
theorem Inv.list_inj (I:Inv X pins σ H s)(h:SqL X.K H a xs)(h':SqL X.K H a ys):xs=ys:=by
 obtain⟨its,r,⟨o,n,e,_,_,d⟩,_⟩:=I.list h
 obtain⟨its',r',⟨o',n',e',_,_,d'⟩,_⟩:=I.list h'
 rw[e] at e';cases e'
 rw[d] at d'
 injection d' with d1 _
 have:its=its':=by simpa using congrArg Array.toList d1
 subst this
 exact r.inj r'
theorem Inv.tuple_inj (I:Inv X pins σ H s)(h:SqT X.K H a xs)(h':SqT X.K H a ys):xs=ys:=by
 obtain⟨its,r,⟨o,e,_,n,d⟩,_⟩:=I.tuple h
 obtain⟨its',r',⟨o',e',_,n',d'⟩,_⟩:=I.tuple h'
 rw[e] at e';cases e'
 rw[d] at d'
 injection d' with d1 _
 have:its=its':=by simpa using congrArg Array.toList d1
 subst this
 exact r.inj r'
end
noncomputable abbrev Cx.wish (X:Cx)(E:BZ->B6->Prop):Cx:={X with xe:=E}
noncomputable abbrev Cx.nox (X:Cx):Cx:=X.wish fun _ _=>False
theorem Cx.Ok.wish {X:Cx}(ok:X.Ok)(E:BZ->B6->Prop):(X.wish E).Ok:=
 ⟨ok.mod,ok.kind,ok.glob,ok.blt,ok.above,ok.inj,ok.has,ok.cab,ok.hd,ok.frames,ok.stk,ok.exf,ok.bs,ok.bsz,ok.noex,ok.exfs,ok.funs,ok.frf⟩
theorem Cx.Ok.unwish {X:Cx}{E:BZ->B6->Prop}(ok:(X.wish E).Ok):X.Ok:=
 ⟨ok.mod,ok.kind,ok.glob,ok.blt,ok.above,ok.inj,ok.has,ok.cab,ok.hd,ok.frames,ok.stk,ok.exf,ok.bs,ok.bsz,ok.noex,ok.exfs,ok.funs,ok.frf⟩
section
variable {X:Cx}{pins:List (B5×B7)}{σ:St}{H:Hp}{s:B6}{E:BZ->B6->Prop}
theorem Inv.wish (I:Inv X pins σ H s)(E:BZ->B6->Prop):Inv (X.wish E) pins σ H s:=⟨I.ok.wish E,I.os,I.bare,I.base,I.loc,I.cell,I.free,I.freeC,I.pin,I.hok,I.len⟩
theorem Inv.unwish (I:Inv (X.wish E) pins σ H s):Inv X pins σ H s:=⟨I.ok.unwish,I.os,I.bare,I.base,I.loc,I.cell,I.free,I.freeC,I.pin,I.hok,I.len⟩
theorem SP.unwish {D:Dj}{f:Flow}{s':B6}(h:SP (X.wish E) pins D f s'):SP X pins D f s':=by
 cases f with
 |next=>obtain⟨σ',H',I,q⟩:=h;exact⟨σ',H',I.unwish,q⟩
 |brk=>obtain⟨σ',H',I,q⟩:=h;exact⟨σ',H',I.unwish,q⟩
 |cont=>obtain⟨σ',H',I,q⟩:=h;exact⟨σ',H',I.unwish,q⟩
 |ret u=>obtain⟨v,σ',H',I,r,q⟩:=h;exact⟨v,σ',H',I.unwish,r,q⟩
theorem PSs.nox {st:List Cw}{t:TS}(h:PSs X.nox st t):PSs X st t:=fun pins s σ H D I hw=>
 Cy (h pins s σ H D (I.wish _) hw) (fun _ _ q=>q.unwish) fun _ _ z=>False.elim z
end
section
variable {X:Cx}{st:Cw}{Gm:List Cw}{t u:TS}{e:Expr}{te:TE}{pos:Ct}
def tNext:TS:=fun D σ H=>D.nx σ H
def tSeq (t u:TS):TS:=fun D σ H=>t {D with nx:=u D} σ H
theorem Gd:PSs X [] tNext:=fun _ _ σ H _ I h=>CD ⟨σ,H,I,h⟩
theorem au (h1:PS X st t)(h2:PSs X Gm u):PSs X (st::Gm) (tSeq t u):=by
 intro pins s σ H D I h
 refine wpAny_execs_cons (thn (h1 pins s σ H {D with nx:=u D} I h) fun f s1 q=>?_)
 cases f with
 |next=>
  obtain⟨σ',H',I',q⟩:=q
  exact h2 pins s1 σ' H' D I' q
 |ret v=>exact q
 |brk=>exact q
 |cont=>exact q
theorem aI (h1:PS X st t):PSs X [st] t:=by
 intro pins s σ H D I h
 refine wpAny_execs_cons (thn (h1 pins s σ H D I h) fun f s1 q=>?_)
 cases f with
 |next=>exact CD q
 |ret v=>exact q
 |brk=>exact q
 |cont=>exact q
theorem Inv.quiet {pins:List (B5×B7)}{σ:St}{H:Hp}{s:B6}(I:Inv X pins σ H s):interactive X.env=false:=by simp [interactive,I.ok.kind]
def tDrop (te:TE):TS:=fun D σ H=>te σ H fun _ H1=>D.nx σ H1
theorem kU (he:PE X e te)(hs:swapsWith e none pos.line X.env=pure false:=by rfl):PS X (.Expr e pos) (tDrop te):=by
 intro pins s σ H D I h
 exact wpAny_Expr_any (thn (he pins s σ H _ I h) fun v s1 ⟨x,H1,I1,r1,q1⟩=>⟨σ,H1,I1,q1⟩) I.quiet hs
def tRet (te:TE):TS:=fun D σ H=>te σ H D.rt
theorem b5 (he:PE X e te):PS X (.Return (some e) pos) (tRet te):=by
 intro pins s σ H D I h
 exact wpAny_Return_some (thn (he pins s σ H _ I h) fun v s1 ⟨x,H1,I1,r1,q1⟩=>⟨x,σ,H1,I1,r1,q1⟩)
def tIfS (c:TT)(t u:TS):TS:=fun D σ H=>c σ H fun b H1=>if b=true then t D σ H1 else u D σ H1
theorem fu {c:Expr}{a b:List Cw}{tc:TT}(hc:PT X c tc)(ha:PSs X a t)(hb:PSs X b u):PS X (.If c a b pos) (tIfS tc t u):=by
 intro pins s σ H D I h
 refine wpAny_If (thn (hc pins s σ H _ I h) fun d s1 qz=>?_)
 obtain⟨H1,I1,q1⟩:=qz
 cases d with
 |true=>exact ha pins s1 σ H1 D I1 q1
 |false=>exact hb pins s1 σ H1 D I1 q1
def vO:TS:=fun _ _ _=>False
theorem pX {sts:List Cw}:PSs X sts vO:=fun _ _ _ _ _ _ h=>h.elim
end
noncomputable abbrev TG:=V->St->Hp->(St->Hp->Prop)->Prop
noncomputable abbrev TGs:=List V->St->Hp->(St->Hp->Prop)->Prop
def PG (X:Cx)(target:Expr)(t:TG):Prop:=
 ∀ (pins:List (B5×B7)) (s:B6) (σ:St) (H:Hp) (v:V) (u:BZ) (Q:St->Hp->Prop),Inv X pins σ H s->RelV v u->t v σ H Q->
   Ca (Cb X.prog X.w) X.A (assign target X.env u) (fun _ s'=> ∃σ' H',Inv X pins σ' H' s'/\Q σ' H') X.xe s
def PGs (X:Cx)(ts:List Expr)(t:TGs):Prop:=
 ∀ (pins:List (B5×B7)) (s:B6) (σ:St) (H:Hp) (vs:List V) (us:List BZ) (Q:St->Hp->Prop),Inv X pins σ H s->Vals vs us->t vs σ H Q->
   Ca (Cb X.prog X.w) X.A (assignInOrder ((CH ts X.env).map (·.2)) us) (fun _ s'=> ∃σ' H',Inv X pins σ' H' s'/\Q σ' H') X.xe s
section
variable {X:Cx}{pos:Ct}
def Ed (i:Nat):TG:=fun v σ H Q=>Q (σ.set i (some v)) H
theorem aJ {i:Nat}{x:Str}(hN:X.N.Nodup)(hi:X.N[i]?=some x)(hx:Loc X.env.scope x)(hf:X.fn x=true\/X.env.scope.names.lookup x=some .local :=by first|exact .inl rfl|exact .inr rfl|assumption):PG X (.Name x pos) (Ed i):=by
 intro pins s σ H v u Q I r h
 exact wpAny_assign_Name (md I hN hi hx r (fun s' I'=>⟨_,H,I',h⟩) hf)
def gNil:TGs:=fun vs σ H Q=>vs=[]/\Q σ H
def Ec (t:TG)(u:TGs):TGs:=fun vs σ H Q=> ∃v r,vs=v::r/\t v σ H fun σ' H'=>u r σ' H' Q
theorem ga:PGs X [] gNil:=by
 intro pins s σ H vs us Q I r h
 obtain⟨e,h⟩:=h
 subst e
 cases r
 exact assignInOrder_nil ⟨σ,H,I,h⟩
theorem bS {e:Expr}{es:List Expr}{t:TG}{u:TGs}(h1:PG X e t)(h2:PGs X es u)
  (hs:(CH (e::es) X.env).map (·.2)=assign e X.env::(CH es X.env).map (·.2):=by rfl):PGs X (e::es) (Ec t u):=by
 intro pins s σ H vs us Q I r h
 obtain⟨v,vr,e1,h⟩:=h
 subst e1
 cases r with
 |cons r rr=>
  rw[hs]
  refine assignInOrder_cons (thn (h1 pins s σ H _ _ _ I r h) fun _ s1 qz=>?_)
  obtain⟨σ1,H1,I1,q1⟩:=qz
  exact h2 pins s1 σ1 H1 _ _ Q I1 rr q1
def gTup (K:PySem.W.Frag)(n:Nat)(t:TGs):TG:=fun v σ H Q=> ∃a xs,v=.ref a/\SqT K H a xs/\xs.length=n/\t xs σ H Q
theorem gB {es:List Expr}{k:Nat}{t:TGs}{n:Nat}(hc:X.calm=true)(h:PGs X es t)
  (hn:(CH es X.env).length=n:=by rfl)(hst:(CH es X.env).findIdx? (·.1)=none:=by rfl):PG X (.Tuple es k pos) (gTup X.K n t):=by
 intro pins s σ H v u Q I r hw
 obtain⟨a,xs,e1,hq,hl,hw⟩:=hw
 subst e1
 cases r
 obtain⟨its,rv,ht,hz⟩:=I.tuple hq
 refine assign_Tuple_tuple (I.ok.hd hc) ht (by simp [hn,<-hl,rv.length]) hst fun h' hx=>?_
 have I1:Inv X pins σ H {s with heap:=h'}:=I.kept (t':=s.toks) fun b o e=>hx b o (zN (zy e)) e
 exact h pins _ σ H xs _ Q I1 (by simpa using rv) hw
def Hk (te:TE)(g:TG):TS:=fun D σ H=>te σ H fun x H1=>g x σ H1 D.nx
theorem v7 {tg e:Expr}{te:TE}{g:TG}(he:PE X e te)(hg:PG X tg g)(hs:swapsWithSole [tg] e pos.line X.env=pure false:=by rfl)(hw:swappedStores [tg] e X.env=pure none:=by rfl)
  (h1:(CH [tg] X.env).map (·.2)=[assign tg X.env]:=by rfl):PS X (.Assign [tg] e pos) (Hk te g):=by
 intro pins s σ H D I h
 refine wpAny_Assign_stores (thn (he pins s σ H _ I h) fun v s1 qz=>?_) hs hw
 obtain⟨x,H1,I1,r1,q1⟩:=qz
 rw[h1]
 exact thn (hg pins s1 σ H1 x v _ I1 r1 q1) fun _ s2 q=>q
theorem c7 {i:Nat}{x:Str}{e:Expr}{te:TE}{pos':Ct}(hN:X.N.Nodup)(hi:X.N[i]?=some x)(hx:Loc X.env.scope x)(he:PE X e te)(hs:swapsWith e (some (.Name x pos')) pos.line X.env=pure false:=by rfl)(hf:X.fn x=true\/X.env.scope.names.lookup x=some .local :=by first|exact .inl rfl|exact .inr rfl|assumption):
  PS X (.Assign [.Name x pos'] e pos) (Hk te (Ed i)):=by
 intro pins s σ H D I h
 refine wpAny_Assign_Name (thn (he pins s σ H _ I h) fun v s1 qz=>?_) hs
 obtain⟨y,H1,I1,r1,q1⟩:=qz
 exact md I1 hN hi hx r1 (fun s2 I2=>⟨_,H1,I2,q1⟩) hf
end
section
variable {X:Cx}{pos:Ct}
def vK (c:TT)(tb:TS):TS:=fun D σ H=> ∃W:Nat->St->Hp->Prop,(∃m,W m σ H)/\ ∀m σ H,W m σ H->
 c σ H fun b H1=>if b=true then∃N:St->Hp->Prop,(∀σ' H',N σ' H'-> ∃m',m'<m/\W m' σ' H')/\tb {D with nx:=N,ct:=N,bk:=D.nx} σ H1 else D.nx σ H1
theorem jj {c:Expr}{body:List Cw}{tc:TT}{tb:TS}(hp:CI (Cb X.prog X.w) X.A X.env X.xe)(hc:PT X c tc)(hb:PSs X body tb):PS X (.While c body [] pos) (vK tc tb):=by
 intro pins s σ H D I h
 obtain⟨W,⟨m0,w0⟩,turn⟩:=h
 refine wpAny_While (codeAny_whileLoop (fun n s'=> ∃σ' H',Inv X pins σ' H' s'/\W n σ' H') ?_ m0 ⟨σ,H,I,w0⟩)
 rintro n s1 ⟨σ1,H1,I1,w1⟩
 refine CJ hp (thn (hc pins s1 σ1 H1 _ I1 (turn n σ1 H1 w1)) fun b s2 qz=>?_)
 obtain⟨H2,I2,q2⟩:=qz
 cases b with
 |true=>
  obtain⟨N,hN,q2⟩:=q2
  rw[if_pos rfl]
  refine CJ hp (thn (hb pins s2 σ1 H2 _ I2 q2) fun f s3 q3=>?_)
  cases f with
  |next=>
   obtain⟨σ3,H3,I3,n3⟩:=q3
   obtain⟨m',hm,w3⟩:=hN σ3 H3 n3
   exact⟨m',hm,σ3,H3,I3,w3⟩
  |cont=>
   obtain⟨σ3,H3,I3,n3⟩:=q3
   obtain⟨m',hm,w3⟩:=hN σ3 H3 n3
   exact⟨m',hm,σ3,H3,I3,w3⟩
  |brk=>exact q3
  |ret v=>exact q3
 |false=>
  rw[if_neg zC]
  exact CD ⟨σ1,H2,I2,q2⟩
end
structure It where
 go:Nat->Hp->Prop
 yld:Nat->Hp->V->Hp->Prop
 stop:Nat->Hp->Prop
def Dn (X:Cx)(pins:List (B5×B7))(H:Hp)(b:B5):Prop:=
 H b=none/\b≠X.env.locals/\b ∉ X.fs/\(b∈X.ex\/X.s₀.heap.objs.size<=b)/\(∀x c,X.env.cells.lookup x=some c->c≠b)/\ ∀p∈X.pn++pins,p.1≠b
theorem Inv.fpOk {X:Cx}{pins:List (B5×B7)}{σ:St}{H H':Hp}{s:B6}{b:B5}(I:Inv X pins σ H s)(hb:s.heap.objs.size<=b)(hn:H' b=none):Dn X pins H' b:=by
 refine⟨hn,Nat.ne_of_gt (zH I.lt hb),I.nofs hb,.inr (zJ I.sz hb),fun x c e z=>?_,fun p hp z=>?_⟩
 ·obtain⟨v,q⟩:=I.cell x c e
  exact absurd (zH q.lt (by rw[z];exact hb)) (Aq _)
 ·exact absurd (zH (zy (I.pin p hp).1) (by rw[z];exact hb)) (Aq _)
structure Dz (P:B2)(w:B3)(K:PySem.W.Frag)(tg:Expr)(J:It)(fp:List B5)(it:B5)(tn:Nat->B4->Prop):Prop where
 mem:it∈fp
 obj: ∀i h,tn i h-> ∀b∈fp,∃o,h.get? b=some o/\ ∀v,o.data≠.cell v
 keep: ∀i h h',tn i h->(∀b∈fp,∀o,h.get? b=some o->h'.get? b=some o)->tn i h'
 item: ∀ (X:Cx),X.prog=P->X.w=w->X.K=K->X.calm=true-> ∀ (i:Nat) (pins:List (B5×B7)) (s:B6) (σ:St) (H:Hp) (E:BZ->B6->Prop),Inv X pins σ H s->(∀b∈fp,Dn X pins H b)->tn i s.heap->J.go i H->
  Ca (Cb P w) X.A (pyNext (.ref it)) (fun r s1=> ∃u,r=some u/\
   Ca (Cb P w) X.A (CK tg (.ref it) u) (fun _ s2=> ∃x H',Inv X pins σ H' s2/\RelV x u/\J.yld i H x H'/\tn (i+1) s2.heap/\ ∀b∈fp,H' b=none) E s1) E s
 done: ∀ (X:Cx),X.prog=P->X.w=w->X.K=K->X.calm=true-> ∀ (i:Nat) (pins:List (B5×B7)) (s:B6) (σ:St) (H:Hp) (E:BZ->B6->Prop),Inv X pins σ H s->(∀b∈fp,Dn X pins H b)->tn i s.heap->J.stop i H->
  Ca (Cb P w) X.A (pyNext (.ref it)) (fun r s1=>r=none/\Inv X pins σ H s1) E s
 self: ∀ (A:B8) (i:Nat) (s:B6) (Q:BZ->B6->Prop) (E:BZ->B6->Prop),tn i s.heap->Q (.ref it) s->Ca (Cb P w) A (pyIter (.ref it)) Q E s
noncomputable abbrev TI:=St->Hp->(It->Hp->Prop)->Prop
def PIE (X:Cx)(pins:List (B5×B7))(σ:St)(tg:Expr)(R:It->Hp->Prop)(itv:BZ)(s2:B6):Prop:=
 ∃ (it:B5) (fp:List B5) (tn:Nat->B4->Prop) (J:It) (H':Hp),itv=.ref it/\Inv X pins σ H' s2/\Dz X.prog X.w X.K tg J fp it tn/\tn 0 s2.heap/\(∀b∈fp,Dn X pins H' b)/\R J H'
def PI (X:Cx)(tg iter:Expr)(wi:TI):Prop:=
 ∀ (pins:List (B5×B7)) (s:B6) (σ:St) (H:Hp) (R:It->Hp->Prop),Inv X pins σ H s->wi σ H R->
   Ca (Cb X.prog X.w) X.A (Cp iter X.env) (fun v s1=>Ca (Cb X.prog X.w) X.A (pyIter v) (PIE X pins σ tg R) X.xe s1) X.xe s
theorem py {M:Model}{A:B8}{E:BZ->B6->Prop}{s:B6}{tg:Expr}{it:B5}{u:BZ}{o:B7}{n:String}{vs:Array BZ}{Q:Unit->B6->Prop}(ho:s.heap.get? it=some o)(hc:o.cls=.type n)(hd:o.data=.fields vs)
  (hn:["enumerate", "zip", "dict_itemiterator", "dict_reverseitemiterator", "odict_iterator", "itertools.zip_longest", "itertools.pairwise"].contains n=false)(hQ:Q () s):Ca M A (CK tg (.ref it) u) Q E s:=by
 unfold CK
 cases tg<;>first
  |exact Cd hQ
  |(cases u<;>first
   |exact Cd hQ
   |(refine Cc (wpAny_load ho ?_)
     rw[hc,hd]
     show Ca M A (if (["enumerate", "zip", "dict_itemiterator", "dict_reverseitemiterator", "odict_iterator", "itertools.zip_longest", "itertools.pairwise"].contains n && vs[0]?==some (rawInt _))=true then _ else _) Q E s
     rw[if_neg (by intro h;rw[hn,Bool.false_and] at h;cases h)]
     exact Cd hQ))
def Itl (K:PySem.W.Frag)(a:B5):It:=
 ⟨fun i H=> ∃xs x,SqL K H a xs/\xs[i]?=some x,fun i H x H'=>H'=H/\ ∀xs,SqL K H a xs->xs[i]?=some x,fun i H=> ∃xs,SqL K H a xs/\xs.length<=i⟩
def Itt (K:PySem.W.Frag)(a:B5):It:=
 ⟨fun i H=> ∃xs x,SqT K H a xs/\xs[i]?=some x,fun i H x H'=>H'=H/\ ∀xs,SqT K H a xs->xs[i]?=some x,fun i H=> ∃xs,SqT K H a xs/\xs.length<=i⟩
noncomputable def Itr (lo:Int)(n:Nat):It:=⟨fun i _=>i<n,fun i H x H'=>H'=H/\x=.int (lo+i),fun i _=>n<=i⟩
theorem pP {P:B2}{w:B3}{K:PySem.W.Frag}{tg:Expr}(a it:B5):Dz P w K tg (Itl K a) [it] it (fun i h=>h.IsListIter it a i) where
 mem:=by simp
 obj:=fun i h st b hb=>by
  have e:b=it:=by simpa using hb
  subst e
  obtain⟨o,e,c,d⟩:=st
  exact⟨o,e,fun v z=>by rw[d] at z;cases z⟩
 keep:=fun i h h' st k=>st.at fun o e=>k it (by simp) o e
 item:=by
  intro X hP hw hK hc i pins s σ H E I hf st hg
  subst hP hw hK
  obtain⟨xs,x,hq,hx⟩:=hg
  obtain⟨its,rv,p,hz⟩:=I.list hq
  obtain⟨u,hu,ru⟩:=rv.get hx
  obtain⟨f0,f1,f2,f3,f4,f5⟩:=hf it (by simp)
  refine wpAny_pyNext_list_item st p.isList (x:=u) (by simpa using hu) fun h' st' sb=>?_
  have I1:Inv X pins σ H {s with heap:=h'}:=I.turned (t':=s.toks) (fun b o hb e=>(sb.2 b hb).trans e) f0 f1 f3 f4 f5
  obtain⟨o,e,c,d⟩:=id st'
  exact⟨u,rfl,py (s:={s with heap:=h'}) e c d (by decide) ⟨x,H,I1,ru,⟨rfl,fun ys hy=>by rw[I.list_inj hy hq];exact hx⟩,st',fun b hb=>(hf b hb).1⟩⟩
 done:=by
  intro X hP hw hK hc i pins s σ H E I hf st hg
  subst hP hw hK
  obtain⟨xs,hq,hx⟩:=hg
  obtain⟨its,rv,p,hz⟩:=I.list hq
  obtain⟨f0,f1,f2,f3,f4,f5⟩:=hf it (by simp)
  have hl:=rv.length
  exact wpAny_pyNext_list_end (I.ok.hd hc) st p.isList (by simp;omega) fun h' eb=>⟨rfl,I.turned (t':=s.toks) (fun b o hb e=>eb b o hb e) f0 f1 f3 f4 f5⟩
 self:=fun _ _ _ _ _ st h=>wpAny_pyIter_listiter st h
theorem nL {P:B2}{w:B3}{K:PySem.W.Frag}{tg:Expr}(a it:B5):Dz P w K tg (Itt K a) [it] it (fun i h=>h.IsTupleIter it a i) where
 mem:=by simp
 obj:=fun i h st b hb=>by
  have e:b=it:=by simpa using hb
  subst e
  obtain⟨o,e,c,d⟩:=st
  exact⟨o,e,fun v z=>by rw[d] at z;cases z⟩
 keep:=fun i h h' st k=>st.at fun o e=>k it (by simp) o e
 item:=by
  intro X hP hw hK hc i pins s σ H E I hf st hg
  subst hP hw hK
  obtain⟨xs,x,hq,hx⟩:=hg
  obtain⟨its,rv,p,hz⟩:=I.tuple hq
  obtain⟨u,hu,ru⟩:=rv.get hx
  obtain⟨f0,f1,f2,f3,f4,f5⟩:=hf it (by simp)
  refine wpAny_pyNext_tuple_item st (show s.heap.IsTuple a its.toArray from p) (x:=u) (by simpa using hu) fun h' st' sb=>?_
  have I1:Inv X pins σ H {s with heap:=h'}:=I.turned (t':=s.toks) (fun b o hb e=>(sb.2 b hb).trans e) f0 f1 f3 f4 f5
  obtain⟨o,e,c,d⟩:=id st'
  exact⟨u,rfl,py (s:={s with heap:=h'}) e c d (by decide) ⟨x,H,I1,ru,⟨rfl,fun ys hy=>by rw[I.tuple_inj hy hq];exact hx⟩,st',fun b hb=>(hf b hb).1⟩⟩
 done:=by
  intro X hP hw hK hc i pins s σ H E I hf st hg
  subst hP hw hK
  obtain⟨xs,hq,hx⟩:=hg
  obtain⟨its,rv,p,hz⟩:=I.tuple hq
  obtain⟨f0,f1,f2,f3,f4,f5⟩:=hf it (by simp)
  have hl:=rv.length
  exact wpAny_pyNext_tuple_end (I.ok.hd hc) st (show s.heap.IsTuple a its.toArray from p) (by simp;omega) fun h' eb=>⟨rfl,I.turned (t':=s.toks) (fun b o hb e=>eb b o hb e) f0 f1 f3 f4 f5⟩
 self:=fun _ _ _ _ _ st h=>wpAny_pyIter_tupleiter st h
theorem nM {P:B2}{w:B3}{K:PySem.W.Frag}{tg:Expr}(it:B5)(lo:Int)(n:Nat):Dz P w K tg (Itr lo n) [it] it (fun i h=>IsRangeIter h it (lo+(i:Nat) * 1) ((n:Int) - (i:Nat)) 1) where
 mem:=by simp
 obj:=fun i h st b hb=>by
  have e:b=it:=by simpa using hb
  subst e
  exact⟨_,st,fun v z=>by
   have z':Data.fields _=Data.cell v:=z
   cases z'⟩
 keep:=fun i h h' st k=>k it (by simp) _ st
 item:=by
  intro X hP hw hK hc i pins s σ H E I hf st hg
  subst hP hw hK
  obtain⟨f0,f1,f2,f3,f4,f5⟩:=hf it (by simp)
  have W:=Walks.range (prog:=X.prog) (w:=X.w) (I.ok.hd hc) it lo 1 n
  refine W.item i s _ _ hg st fun v h' tk hv st' kk=>?_
  obtain⟨t,rfl⟩:=hv
  have I1:Inv X pins σ H {s with heap:=h',toks:=tk}:=I.turned (fun b o hb e=>kk b o (by simpa using hb) e) f0 f1 f3 f4 f5
  refine⟨_,rfl,py (s:={s with heap:=h',toks:=tk}) (n:= "range_iterator") st' rfl rfl (by decide) ⟨.int (lo+i),H,I1,⟨t,?_⟩,⟨rfl,rfl⟩,st',fun b hb=>(hf b hb).1⟩⟩
  rw[Int.mul_one]
 done:=by
  intro X hP hw hK hc i pins s σ H E I hf st hg
  subst hP hw hK
  obtain⟨f0,f1,f2,f3,f4,f5⟩:=hf it (by simp)
  exact wpAny_pyNext_range_end (I.ok.hd hc) st (by have:n<=i:=hg;omega) fun h' eb=>⟨rfl,I.turned (t':=s.toks) (fun b o hb e=>eb b o hb e) f0 f1 f3 f4 f5⟩
 self:=fun _ _ _ _ _ st h=>wpAny_pyIter_rangeiter st h
end
section
section
variable {X:Cx}{tg:Expr}
def iList (K:PySem.W.Frag)(tl:TE):TI:=fun σ H R=>tl σ H fun x H1=> ∃a,x=.ref a/\(∃xs,SqL K H1 a xs)/\R (Itl K a) H1
def iTup (K:PySem.W.Frag)(tl:TE):TI:=fun σ H R=>tl σ H fun x H1=> ∃a,x=.ref a/\(∃xs,SqT K H1 a xs)/\R (Itt K a) H1
theorem tX {l:Expr}{tl:TE}(hl:PE X l tl):PI X tg l (iList X.K tl):=by
 intro pins s σ H R I h
 refine thn (hl pins s σ H _ I h) fun v s1 qz=>?_
 obtain⟨x,H1,I1,r1,q1⟩:=qz
 obtain⟨a,e,⟨xs,hq⟩,q⟩:=q1
 subst e
 cases r1
 obtain⟨its,rv,p,hz⟩:=I1.list hq
 refine wpAny_pyIter_list p.isList ?_
 refine⟨s1.heap.objs.size,[s1.heap.objs.size],_,_,H1,rfl,I1.kept (t':=s1.toks) fun b o e=>zP _ e,pP a _,⟨_,Af _ rfl,rfl,rfl⟩,fun b hb=>?_,q⟩
 have e:b=s1.heap.objs.size:=by simpa using hb
 subst e
 exact I1.fpOk (zu _) (I1.hok.fresh (zu _))
theorem we {l:Expr}{tl:TE}(hl:PE X l tl):PI X tg l (iTup X.K tl):=by
 intro pins s σ H R I h
 refine thn (hl pins s σ H _ I h) fun v s1 qz=>?_
 obtain⟨x,H1,I1,r1,q1⟩:=qz
 obtain⟨a,e,⟨xs,hq⟩,q⟩:=q1
 subst e
 cases r1
 obtain⟨its,rv,p,hz⟩:=I1.tuple hq
 refine wpAny_pyIter_tuple (show s1.heap.IsTuple a its.toArray from p) ?_
 refine⟨s1.heap.objs.size,[s1.heap.objs.size],_,_,H1,rfl,I1.kept (t':=s1.toks) fun b o e=>zP _ e,nL a _,⟨_,Af _ rfl,rfl,rfl⟩,fun b hb=>?_,q⟩
 have e:b=s1.heap.objs.size:=by simpa using hb
 subst e
 exact I1.fpOk (zu _) (I1.hok.fresh (zu _))
theorem ri {pins:List (B5×B7)}{σ:St}{H:Hp}{s:B6}{R:It->Hp->Prop}{E:BZ->B6->Prop}{lo hi:Int}{t u v:Tok}{tk:Nat}(I:Inv X pins σ H s)(h1: -(2 ^ 62)<=lo)(h2:lo<2 ^ 62)(h3: -(2 ^ 62)<=hi)(h4:hi<2 ^ 62)
  (q:R (Itr lo (hi - lo).toNat) H):Ca (Cb X.prog X.w) X.A (pyIter (.ref s.heap.objs.size)) (PIE X pins σ tg R) E {s with heap:=s.heap.push {cls:=.type "range",data:=.fields #[.int lo t,.int hi u,.int 1 v]},toks:=tk}:=by
 refine wpAny_pyIter_range (IsRange.new ..) (small_one h1 h2 h3 h4) ?_
 have I1:Inv X pins σ H {s with heap:=s.heap.push {cls:=.type "range",data:=.fields #[.int lo t,.int hi u,.int 1 v]},toks:=tk}:=I.kept fun b o e=>zP _ e
 refine⟨(s.heap.push {cls:=.type "range",data:=.fields #[.int lo t,.int hi u,.int 1 v]}).objs.size,[(s.heap.push {cls:=.type "range",data:=.fields #[.int lo t,.int hi u,.int 1 v]}).objs.size],_,_,H,rfl,
  I1.kept (t':=tk) fun b o e=>zP _ e,nM _ lo (hi - lo).toNat,?_,fun b hb=>?_,q⟩
 ·have e1:lo+((0:Nat):Int) * 1=lo:=by simp
  have e2:(((hi - lo).toNat:Nat):Int) - ((0:Nat):Int)=B1.Range.rangeSize lo hi 1:=by rw[rangeSize_one];split<;>omega
  show IsRangeIter _ _ (lo+((0:Nat):Int) * 1) ((((hi - lo).toNat:Nat):Int) - ((0:Nat):Int)) 1
  rw[e1,e2]
  exact Af _ rfl
 ·have e:b=(s.heap.push {cls:=.type "range",data:=.fields #[.int lo t,.int hi u,.int 1 v]}).objs.size:=by simpa using hb
  subst e
  exact I1.fpOk (zu _) (I1.hok.fresh (zu _))
def iRng1 (ta:TA):TI:=fun σ H R=>ta σ H fun vs H1=> ∃j:Int,vs=[.int j]/\ -(2 ^ 62)<=j/\j<2 ^ 62/\R (Itr 0 j.toNat) H1
theorem p5 {a:Expr}{ta:TA}{p pos:Ct}(hg:Gl X "range")(hm:X.mg "range"=none)(ha:PA X [a] ta)(hs:Cv [a] X.env=[(false,Cp a X.env)]:=by rfl):PI X tg (.Call (.Name "range" p) [a] [] pos) (iRng1 ta):=by
 intro pins s σ H R I h
 refine Call_ (jB I hg hm boot_range (PyProof.Rows.callWith_type1 (thn (ha pos pins s σ H _ I h) fun us s1 qz=>?_) hs rfl))
 obtain⟨vs,H1,I1,r1,q1⟩:=qz
 obtain⟨j,e,q1,q2,q⟩:=q1
 subst e
 cases r1 with
 |cons r rr=>
  cases rr
  obtain⟨t,rfl⟩:=r
  exact call_range_1 (ri I1 (by omega) (by omega) q1 q2 (by simpa using q))
def tFor (wi:TI)(g:TG)(tb:TS):TS:=fun D σ H=>wi σ H fun J H1=> ∃W:Nat->Nat->St->Hp->Prop,(∃m,W 0 m σ H1)/\ ∀i m σ H,W i m σ H->
 (J.stop i H/\D.nx σ H)\/(J.go i H/\ ∃N:St->Hp->Prop,(∀σ' H',N σ' H'-> ∃m',m'<m/\W (i+1) m' σ' H')/\ ∀x H',J.yld i H x H'->g x σ H' fun σ2 H2=>tb {D with nx:=N,ct:=N,bk:=D.nx} σ2 H2)
noncomputable def jo (fp:List B5)(h:B4):List (B5×B7):=fp.filterMap fun b=>(h.get? b).map fun o=>(b,o)
theorem gD {fp:List B5}{h:B4}{b:B5}{o:B7}(hb:b∈fp)(e:h.get? b=some o):(b,o)∈jo fp h:=A9.mpr ⟨b,hb,by rw[e];rfl⟩
theorem qb {fp:List B5}{h:B4}{p:B5×B7}(hp:p∈jo fp h):p.1∈fp/\h.get? p.1=some p.2:=by
 obtain⟨b,hb,e⟩:=A9.mp hp
 cases q:h.get? b with
 |none=>rw[q] at e;cases e
 |some o=>
  rw[q] at e
  have e':(b,o)=p:=Option.some.inj e
  subst e'
  exact⟨hb,q⟩
theorem Inv.pinned {pins:List (B5×B7)}{σ:St}{H:Hp}{s:B6}{fp:List B5}(I:Inv X pins σ H s)(hf: ∀b∈fp,Dn X pins H b)(ho: ∀b∈fp,∃o,s.heap.get? b=some o/\ ∀v,o.data≠.cell v):Inv X (pins++jo fp s.heap) σ H s:=
 I.pins_of fun p hp=>(zY.mp hp).elim (fun z=>I.pin p (Ak _ z)) fun z=>by
  obtain⟨hb,e⟩:=qb z
  obtain⟨f0,f1,f2,_⟩:=hf p.1 hb
  obtain⟨o,e',d⟩:=ho p.1 hb
  rw[e] at e';cases e'
  exact⟨e,f0,f1,f2,d⟩
theorem Inv.unpinned {pins pl:List (B5×B7)}{σ:St}{H:Hp}{s:B6}(I:Inv X (pins++pl) σ H s):Inv X pins σ H s:=I.pins_of fun p hp=>I.pin p (Ak _ (A8 _ hp))
theorem v6 {iter:Expr}{body:List Cw}{wi:TI}{g:TG}{tb:TS}{pos:Ct}(hp:CI (Cb X.prog X.w) X.A X.env X.xe)(hc:X.calm=true)(hi:PI X tg iter wi)(hg:PG X tg g)(hb:PSs X body tb)
  (hs: ∀x,CL iter X.env x=pure x:=by intro _;rfl):PS X (.For tg iter body [] pos) (tFor wi g tb):=by
 intro pins s σ H D I h
 refine wpAny_For (thn (hi pins s σ H _ I h) fun v s1 h1=>thn h1 fun itv s2 h2=>?_) hs
 obtain⟨it,fp,tn,J,H2,e,I2,T,st2,f2,W,⟨m0,w0⟩,turn⟩:=h2
 subst e
 have stat: ∀ {H':Hp},(∀b∈fp,H' b=none)-> ∀b∈fp,Dn X pins H' b:=fun hn b hb=>⟨hn b hb,(f2 b hb).2⟩
 refine codeAny_forLoop_any (fun n s'=> ∃i σ' H',Inv X pins σ' H' s'/\tn i s'.heap/\(∀b∈fp,H' b=none)/\W i n σ' H') ?_ m0 ⟨0,σ,H2,I2,st2,fun b hb=>(f2 b hb).1,w0⟩
 rintro n s3 ⟨i,σ3,H3,I3,st3,fr3,w3⟩
 rcases turn i n σ3 H3 w3 with⟨stop,qn⟩|⟨go,N,hN,step⟩
 ·refine CJ hp (thn (T.done X rfl rfl rfl hc i pins s3 σ3 H3 X.xe I3 (stat fr3) st3 stop) fun r s4 qz=>?_)
  obtain⟨hr,I4⟩:=qz
  subst hr
  exact CD ⟨σ3,H3,I4,qn⟩
 ·refine CJ hp (thn (T.item X rfl rfl rfl hc i pins s3 σ3 H3 X.xe I3 (stat fr3) st3 go) fun r s4 qz=>?_)
  obtain⟨u,hr,h4⟩:=qz
  subst hr
  refine CJ hp (thn h4 fun _ s5 qz=>?_)
  obtain⟨x,H5,I5,r5,y5,st5,fr5⟩:=qz
  have I5':=I5.pinned (stat fr5) (T.obj _ _ st5)
  refine CJ hp (thn (hg _ s5 σ3 H5 x u _ I5' r5 (step x H5 y5)) fun _ s6 qz=>?_)
  obtain⟨σ6,H6,I6,q6⟩:=qz
  refine CJ hp (thn (hb _ s6 σ6 H6 _ I6 q6) fun f s7 q7=>?_)
  have again: ∀ {σ7:St}{H7:Hp},Inv X (pins++jo fp s5.heap) σ7 H7 s7->N σ7 H7-> ∃m,m<n/\ ∃i σ' H',Inv X pins σ' H' s7/\tn i s7.heap/\(∀b∈fp,H' b=none)/\W i m σ' H':=fun{σ7 H7} I7 n7=>by
   obtain⟨m',hm,w7⟩:=hN σ7 H7 n7
   refine⟨m',hm,i+1,σ7,H7,I7.unpinned,T.keep _ _ _ st5 fun b hb o e=>(I7.pin (b,o) (Ak _ (Ak _ (gD hb e)))).1,fun b hb=>?_,w7⟩
   obtain⟨o,e,d⟩:=T.obj _ _ st5 b hb
   exact (I7.pin (b,o) (Ak _ (Ak _ (gD hb e)))).2.1
  cases f with
  |next=>obtain⟨σ7,H7,I7,n7⟩:=q7;exact again I7 n7
  |cont=>obtain⟨σ7,H7,I7,n7⟩:=q7;exact again I7 n7
  |brk=>obtain⟨σ7,H7,I7,q7⟩:=q7;exact⟨σ7,H7,I7.unpinned,q7⟩
  |ret v=>obtain⟨x7,σ7,H7,I7,r7,q7⟩:=q7;exact⟨x7,σ7,H7,I7.unpinned,r7,q7⟩
end
end
section
noncomputable abbrev R2:=V->V->Hp->VK->Prop
def OpR (X:Cx)(f:BZ->BZ->Sem BZ)(r:R2):Prop:=
 ∀ (pins:List (B5×B7)) (s:B6) (σ:St) (H:Hp) (x y:V) (v u:BZ) (Q:VK),Inv X pins σ H s->RelV x v->RelV y u->r x y H Q->
   Ca (Cb X.prog X.w) X.A (f v u) (EP X pins σ Q) X.xe s
def UnR (X:Cx)(f:BZ->Sem BZ)(r:V->Hp->VK->Prop):Prop:=
 ∀ (pins:List (B5×B7)) (s:B6) (σ:St) (H:Hp) (x:V) (v:BZ) (Q:VK),Inv X pins σ H s->RelV x v->r x H Q->
   Ca (Cb X.prog X.w) X.A (f v) (EP X pins σ Q) X.xe s
def CallR (X:Cx)(f:BZ)(r:List V->Hp->VK->Prop):Prop:=
 ∀ (pins:List (B5×B7)) (s:B6) (σ:St) (H:Hp) (xs:List V) (us:List BZ) (Q:VK),Inv X pins σ H s->Vals xs us->r xs H Q->
   Ca (Cb X.prog X.w) X.A (call f us) (EP X pins σ Q) X.xe s
def tOp (r:R2)(ta tb:TE):TE:=fun σ H Q=>ta σ H fun x H1=>tb σ H1 fun y H2=>r x y H2 Q
def tUn (r:V->Hp->VK->Prop)(ta:TE):TE:=fun σ H Q=>ta σ H fun x H1=>r x H1 Q
def rI (C:Int->Int->Prop)(g:Int->Int->V):R2:=fun x y H Q=> ∃i j,x=.int i/\y=.int j/\C i j/\Q (g i j) H
def rI0 (g:Int->Int->V):R2:=fun x y H Q=> ∃i j,x=.int i/\y=.int j/\Q (g i j) H
def rU (g:Int->V):V->Hp->VK->Prop:=fun x H Q=> ∃i,x=.int i/\Q (g i) H
section
variable {X:Cx}{a b c:Expr}{ta tb tc:TE}{pos:Ct}
theorem DD (ha:PE X a ta)(hb:PE X b tb){pins:List (B5×B7)}{s:B6}{σ:St}{H:Hp}{R:V->V->Hp->Prop}(I:Inv X pins σ H s)
  (h:ta σ H fun x H1=>tb σ H1 fun y H2=>R x y H2){Q:BZ->B6->Prop}{f:BZ->BZ->Sem BZ}
  (hf: ∀v u s2 x y H2,Inv X pins σ H2 s2->RelV x v->RelV y u->R x y H2->Ca (Cb X.prog X.w) X.A (f v u) Q X.xe s2):
  Ca (Cb X.prog X.w) X.A (Cp a X.env) (fun v s₁=>Ca (Cb X.prog X.w) X.A (Cp b X.env) (fun u s₂=>Ca (Cb X.prog X.w) X.A (f v u) Q X.xe s₂) X.xe s₁) X.xe s:=by
 refine thn (ha pins s σ H _ I h) fun v s1 qz=>?_
 obtain⟨x,H1,I1,r1,q1⟩:=qz
 refine thn (hb pins s1 σ H1 _ I1 q1) fun u s2 qz=>?_
 obtain⟨y,H2,I2,r2,q2⟩:=qz
 exact hf v u s2 x y H2 I2 r1 r2 q2
theorem o4 {op:Operator}{r:R2}(ho:OpR X (CO op) r)(ha:PE X a ta)(hb:PE X b tb):PE X (.BinOp a op b pos) (tOp r ta tb):=by
 intro pins s σ H Q I h
 exact wpAny_BinOp (DD ha hb I h fun v u s2 x y H2 I2 rx ry q=>ho pins s2 σ H2 x y v u Q I2 rx ry q)
theorem yg {op:UnaryOp}{r:V->Hp->VK->Prop}(ho:UnR X (unaryOp op) r)(ha:PE X a ta):PE X (.UnaryOp op a pos) (tUn r ta):=by
 intro pins s σ H Q I h
 exact UnaryOp_ (thn (ha pins s σ H _ I h) fun v s1 ⟨x,H1,I1,r1,q1⟩=>ho pins s1 σ H1 x v Q I1 r1 q1)
theorem opI {f:BZ->BZ->Sem BZ}{C:Int->Int->Prop}{g:Int->Int->Int}
  (rule: ∀ (i j:Int) (t u:Tok) (s:B6) (Q:BZ->B6->Prop) (E:BZ->B6->Prop),C i j->Q (.int (g i j) s.toks) {s with toks:=s.toks+1}->Ca (Cb X.prog X.w) X.A (f (.int i t) (.int j u)) Q E s):
  OpR X f (rI C fun i j=>.int (g i j)):=by
 intro pins s σ H x y v u Q I rx ry h
 obtain⟨i,j,rfl,rfl,hc,q⟩:=h
 obtain⟨t,rfl⟩:=rx
 obtain⟨t',rfl⟩:=ry
 exact rule i j t t' s _ _ hc ⟨.int (g i j),H,I.tok _,⟨_,rfl⟩,q⟩
theorem opI0 {f:BZ->BZ->Sem BZ}{g:Int->Int->Int}
  (rule: ∀ (i j:Int) (t u:Tok) (s:B6) (Q:BZ->B6->Prop) (E:BZ->B6->Prop),Q (.int (g i j) s.toks) {s with toks:=s.toks+1}->Ca (Cb X.prog X.w) X.A (f (.int i t) (.int j u)) Q E s):
  OpR X f (rI0 fun i j=>.int (g i j)):=by
 intro pins s σ H x y v u Q I rx ry h
 obtain⟨i,j,rfl,rfl,q⟩:=h
 obtain⟨t,rfl⟩:=rx
 obtain⟨t',rfl⟩:=ry
 exact rule i j t t' s _ _ ⟨.int (g i j),H,I.tok _,⟨_,rfl⟩,q⟩
theorem Fz {f:BZ->BZ->Sem BZ}{g:Int->Int->Bool}
  (rule: ∀ (i j:Int) (t u:Tok) (s:B6) (Q:BZ->B6->Prop) (E:BZ->B6->Prop),Q (.bool (g i j)) s->Ca (Cb X.prog X.w) X.A (f (.int i t) (.int j u)) Q E s):
  OpR X f (rI0 fun i j=>.bl (g i j)):=by
 intro pins s σ H x y v u Q I rx ry h
 obtain⟨i,j,rfl,rfl,q⟩:=h
 obtain⟨t,rfl⟩:=rx
 obtain⟨t',rfl⟩:=ry
 exact rule i j t t' s _ _ ⟨.bl (g i j),H,I,rfl,q⟩
noncomputable def De (i j:Int):Prop:=0<=j/\j<=1000000/\i.natAbs<2 ^ 64
noncomputable def CMul (i j:Int):Prop:=(-(2 ^ 64)<i/\i<2 ^ 64)\/(-(2 ^ 64)<j/\j<2 ^ 64)
theorem CMul.ok {i j:Int}(h:CMul i j):IntMulOk i j:=by
 rcases h with⟨h1,h2⟩|⟨h1,h2⟩
 ·exact .of_left (intBits_le_64 h1 h2)
 ·exact .of_right (intBits_le_64 h1 h2)
theorem nK (k:Nat):(0:Int)<=2 ^ k:=by
 rw[two_pow_cast]
 exact Int.natCast_nonneg _
theorem FD:OpR X (CO .Add) (rI0 fun i j=>.int (i+j)):=opI0 fun _ _ _ _ _ _ _ q=>add_int q
theorem wC:OpR X (CO .Sub) (rI0 fun i j=>.int (i - j)):=opI0 fun _ _ _ _ _ _ _ q=>sub_int q
theorem wH:OpR X (CO .Mod) (rI (fun _ j=>0<j) fun i j=>.int (i % j)):=opI fun i j _ _ _ _ _ hc q=>by
 have h1:(0:Int)<j:=hc
 exact mod_int' (by omega) (by rw[Int.fmod_eq_emod_of_nonneg i (by omega)];exact q)
theorem wF:OpR X (CO .Pow) (rI De fun i j=>.int (i ^ j.toNat)):=opI fun _ _ _ _ _ _ _ hc q=>pow_int_small hc.1 hc.2.1 hc.2.2 q
theorem wD:OpR X (CO .RShift) (rI (fun _ j=>0<=j) fun i j=>.int (i / 2 ^ j.toNat)):=opI fun i j _ _ _ _ _ hc q=>
 rshift_int hc (by rw[BA i (nK _)];exact q)
theorem unI {f:BZ->Sem BZ}{g:Int->Int}
  (rule: ∀ (i:Int) (t:Tok) (s:B6) (Q:BZ->B6->Prop) (E:BZ->B6->Prop),Q (.int (g i) s.toks) {s with toks:=s.toks+1}->Ca (Cb X.prog X.w) X.A (f (.int i t)) Q E s):
  UnR X f (rU fun i=>.int (g i)):=by
 intro pins s σ H x v Q I rx h
 obtain⟨i,rfl,q⟩:=h
 obtain⟨t,rfl⟩:=rx
 exact rule i t s _ _ ⟨.int (g i),H,I.tok _,⟨_,rfl⟩,q⟩
theorem vF:UnR X (unaryOp .USub) (rU fun i=>.int (-i)):=unI fun _ _ _ _ _ q=>neg_int q
end
noncomputable def GQ:V->V->Bool
 |.non,.non=>true|.non,.int _=>true|.int _,.non=>true|.non,.bl _=>true|.bl _,.non=>true|.non,.str _=>true|.str _,.non=>true
 |.int _,.int _=>true|.bl _,.bl _=>true|.str _,.str _=>true|.byt _,.byt _=>true
 |.int _,.str _=>true|.str _,.int _=>true|.bl _,.str _=>true|.str _,.bl _=>true
 |_,_=>false
def rEq:R2:=fun x y H Q=>GQ x y=true/\Q (.bl (decide (x=y))) H
def rNe:R2:=fun x y H Q=>GQ x y=true/\Q (.bl (!decide (x=y))) H
theorem pG {i j:Int}:decide (V.int i=V.int j)=(i==j):=by
 rw[Ao]
 simp
theorem sH {i j:Bool}:decide (V.bl i=V.bl j)=(i==j):=by
 rw[Ao]
 simp
theorem pE {i j:Str}:decide (V.str i=V.str j)=(i==j):=by
 rw[Ao]
 simp
theorem pH {i j:Array UInt8}:decide (V.byt i=V.byt j)=(i.toList==j.toList):=by
 rw[Ao]
 cases i
 cases j
 simp
section
variable {X:Cx}{a b c:Expr}{ta tb tc:TE}{pos:Ct}
theorem aQ {pins:List (B5×B7)}{σ:St}{H:Hp}{s:B6}{Q:VK}{k k':Bool}(I:Inv X pins σ H s)(q:Q (.bl k) H)(e:k=k'):EP X pins σ Q (.bool k') s:=by
 subst e
 exact⟨.bl k,H,I,rfl,q⟩
theorem FH:OpR X (Cz .Eq) rEq:=by
 intro pins s σ H x y v u Q I rx ry h
 obtain⟨hs,q⟩:=h
 cases x with
 |non=>
  cases rx
  cases y with
  |non=>cases ry;exact PySem.EqNone.eq_none_none (aQ I q (by simp))
  |bl j=>cases ry;exact PySem.EqNone.eq_none_bool (aQ I q (by simp))
  |int j=>obtain⟨t',rfl⟩:=ry;exact PySem.EqNone.eq_none_int (aQ I q (by simp))
  |str j=>obtain⟨t',rfl⟩:=ry;exact PySem.EqNone.eq_none_str (aQ I q (by simp))
  |_=>exact absurd (show false=true from hs) zC
 |bl i=>
  cases rx
  cases y with
  |non=>cases ry;exact PySem.EqNone.eq_bool_none (aQ I q (by simp))
  |bl j=>cases ry;exact eq_bool (aQ I q sH)
  |str j=>obtain⟨t',rfl⟩:=ry;exact PySem.EqMixed.eq_bool_str (aQ I q (by simp))
  |_=>exact absurd (show false=true from hs) zC
 |int i=>
  obtain⟨t,rfl⟩:=rx
  cases y with
  |non=>cases ry;exact PySem.EqNone.eq_int_none (aQ I q (by simp))
  |int j=>obtain⟨t',rfl⟩:=ry;exact eq_int (aQ I q pG)
  |str j=>obtain⟨t',rfl⟩:=ry;exact PySem.EqMixed.eq_int_str (aQ I q (by simp))
  |_=>exact absurd (show false=true from hs) zC
 |str i=>
  obtain⟨t,rfl⟩:=rx
  cases y with
  |non=>cases ry;exact PySem.EqNone.eq_str_none (aQ I q (by simp))
  |bl j=>cases ry;exact PySem.EqMixed.eq_str_bool (aQ I q (by simp))
  |int j=>obtain⟨t',rfl⟩:=ry;exact PySem.EqMixed.eq_str_int (aQ I q (by simp))
  |str j=>obtain⟨t',rfl⟩:=ry;exact eq_str (aQ I q pE)
  |_=>exact absurd (show false=true from hs) zC
 |byt i=>
  obtain⟨t,rfl⟩:=rx
  cases y with
  |byt j=>obtain⟨t',rfl⟩:=ry;exact PySem.W.eq_bytes (aQ I q pH)
  |_=>exact absurd (show false=true from hs) zC
 |_=>cases y<;>exact absurd (show false=true from hs) zC
theorem FP:OpR X (Cz .NotEq) rNe:=by
 intro pins s σ H x y v u Q I rx ry h
 obtain⟨hs,q⟩:=h
 cases x with
 |non=>
  cases rx
  cases y with
  |non=>cases ry;exact PySem.EqNone.ne_none_none (aQ I q (by simp))
  |bl j=>cases ry;exact PySem.EqNone.ne_none_bool (aQ I q (by simp))
  |int j=>obtain⟨t',rfl⟩:=ry;exact PySem.EqNone.ne_none_int (aQ I q (by simp))
  |str j=>obtain⟨t',rfl⟩:=ry;exact PySem.EqNone.ne_none_str (aQ I q (by simp))
  |_=>exact absurd (show false=true from hs) zC
 |bl i=>
  cases rx
  cases y with
  |non=>cases ry;exact PySem.EqNone.ne_bool_none (aQ I q (by simp))
  |bl j=>cases ry;exact ne_bool (aQ I q (congrArg not sH))
  |str j=>obtain⟨t',rfl⟩:=ry;exact PySem.EqMixed.ne_bool_str (aQ I q (by simp))
  |_=>exact absurd (show false=true from hs) zC
 |int i=>
  obtain⟨t,rfl⟩:=rx
  cases y with
  |non=>cases ry;exact PySem.EqNone.ne_int_none (aQ I q (by simp))
  |int j=>obtain⟨t',rfl⟩:=ry;exact ne_int (aQ I q (congrArg not pG))
  |str j=>obtain⟨t',rfl⟩:=ry;exact PySem.EqMixed.ne_int_str (aQ I q (by simp))
  |_=>exact absurd (show false=true from hs) zC
 |str i=>
  obtain⟨t,rfl⟩:=rx
  cases y with
  |non=>cases ry;exact PySem.EqNone.ne_str_none (aQ I q (by simp))
  |bl j=>cases ry;exact PySem.EqMixed.ne_str_bool (aQ I q (by simp))
  |int j=>obtain⟨t',rfl⟩:=ry;exact PySem.EqMixed.ne_str_int (aQ I q (by simp))
  |str j=>obtain⟨t',rfl⟩:=ry;exact ne_str (aQ I q (congrArg not pE))
  |_=>exact absurd (show false=true from hs) zC
 |byt i=>
  obtain⟨t,rfl⟩:=rx
  cases y with
  |byt j=>obtain⟨t',rfl⟩:=ry;exact PySem.W.ne_bytes (aQ I q (congrArg not pH))
  |_=>exact absurd (show false=true from hs) zC
 |_=>cases y<;>exact absurd (show false=true from hs) zC
theorem rG:OpR X (Cz .Lt) (rI0 fun i j=>.bl (decide (i<j))):=Fz fun _ _ _ _ _ _ _ q=>lt_int q
theorem yq:OpR X (Cz .LtE) (rI0 fun i j=>.bl (decide (i<=j))):=Fz fun _ _ _ _ _ _ _ q=>le_int q
theorem kg:OpR X (Cz .Gt) (rI0 fun i j=>.bl (decide (j<i))):=Fz fun _ _ _ _ _ _ _ q=>gt_int q
theorem yr:OpR X (Cz .GtE) (rI0 fun i j=>.bl (decide (j<=i))):=Fz fun _ _ _ _ _ _ _ q=>ge_int q
theorem FJ:OpR X (Cz .In) (fun x y H Q=> ∃i j,x=.str i/\y=.str j/\Q (.bl (!(B1.Str.occurrences j i 0 j.length 1).isEmpty)) H):=by
 intro pins s σ H x y v u Q I rx ry h
 obtain⟨i,j,rfl,rfl,q⟩:=h
 obtain⟨t,rfl⟩:=rx
 obtain⟨t',rfl⟩:=ry
 exact in_str (aQ I q rfl)
theorem OpR.or {f:BZ->BZ->Sem BZ}{r r':R2}(h:OpR X f r)(h':OpR X f r'):OpR X f (fun x y H Q=>r x y H Q\/r' x y H Q):=by
 intro pins s σ H x y v u Q I rx ry q
 rcases q with q|q
 ·exact h pins s σ H x y v u Q I rx ry q
 ·exact h' pins s σ H x y v u Q I rx ry q
theorem dH (b:Expr){op:CmpOp}(h:op≠.In:=by decide)(h2:op≠.NotIn:=by decide):CA op b=false:=by
 have e1:(op==CmpOp.In)=false:=by cases op<;>first|rfl|exact absurd rfl h
 have e2:(op==CmpOp.NotIn)=false:=by cases op<;>first|rfl|exact absurd rfl h2
 cases b<;>simp [CA,e1,e2]
theorem gc {op:CmpOp}{r:R2}(ho:OpR X (Cz op) r)(ha:PE X a ta)(hb:PE X b tb)(hm:CA op b=false):PE X (.Compare a [op] [b] pos) (tOp r ta tb):=by
 intro pins s σ H Q I h
 exact wpAny_Compare1 (DD ha hb I h fun v u s2 x y H2 I2 rx ry q=>ho pins s2 σ H2 x y v u Q I2 rx ry q) hm
def Hr (t:TE):TT:=fun σ H Q=>t σ H fun x H'=> ∃k,x=.bl k/\Q k H'
theorem c9 {op:CmpOp}{r:R2}(ho:OpR X (Cz op) r)(ha:PE X a ta)(hb:PE X b tb)(hm:CA op b=false):PT X (.Compare a [op] [b] pos) (Hr (tOp r ta tb)):=by
 intro pins s σ H Q I h
 refine wpAny_isTrue_Compare1 (thn (ha pins s σ H _ I h) fun v s1 ⟨x,H1,I1,r1,q1⟩=>thn (hb pins s1 σ H1 _ I1 q1) fun u s2 ⟨y,H2,I2,r2,q2⟩=>
  thn (ho pins s2 σ H2 x y v u _ I2 r1 r2 q2) fun c s3 ⟨z,H3,I3,r3,k,e,q3⟩=>?_) hm
 subst e
 cases r3
 exact Cf ⟨H3,I3,q3⟩
def qS (r r':R2)(ta tb tc:TE):TE:=fun σ H Q=>ta σ H fun x H1=>tb σ H1 fun y H2=>r x y H2 fun z H3=> ∃k,z=.bl k/\
 (if k=true then tc σ H3 fun w' H4=>r' y w' H4 Q else Q (.bl false) H3)
theorem rm {op op':CmpOp}{r r':R2}(ho:OpR X (Cz op) r)(ho':OpR X (Cz op') r')(ha:PE X a ta)(hb:PE X b tb)(hc:PE X c tc)
  (hm:lastMarks [op,op'] [b,c]=false:=by with_unfolding_all rfl):PT X (.Compare a [op,op'] [b,c] pos) (Hr (qS r r' ta tb tc)):=by
 intro pins s σ H Q I h
 refine isTrue_chain (thn (ha pins s σ H _ I h) fun v s1 ⟨x,H1,I1,r1,q1⟩=>test_link (thn (hb pins s1 σ H1 _ I1 q1) fun u s2 ⟨y,H2,I2,r2,q2⟩=>
  thn (ho pins s2 σ H2 x y v u _ I2 r1 r2 q2) fun d s3 ⟨z,H3,I3,r3,k,e,q3⟩=>?_)) hm
 subst e
 cases r3
 refine Cf ?_
 cases k with
 |false=>
  obtain⟨k',e',q'⟩:=q3
  cases e'
  exact ite_ff ⟨H3,I3,q'⟩
 |true=>
  refine ite_tt (test_last (thn (hc pins s3 σ H3 _ I3 q3) fun w' s4 ⟨z',H4,I4,r4,q4⟩=>thn (ho' pins s4 σ H4 y z' u w' _ I4 r2 r4 q4) fun d' s5 qz=>?_))
  obtain⟨z2,H5,I5,r5,k2,e2,q5⟩:=qz
  subst e2
  cases r5
  exact Cf ⟨H5,I5,q5⟩
theorem iy:(sizeLine:Nat)<2 ^ 63:=by rw[sizeLine_eq];decide
theorem FE:OpR X (CO .Add) (fun x y H Q=> ∃i j,x=.str i/\y=.str j/\i.length+j.length<=sizeLine/\Q (.str (i++j)) H):=by
 intro pins s σ H x y v u Q I rx ry h
 obtain⟨i,j,rfl,rfl,hz,q⟩:=h
 obtain⟨t,rfl⟩:=rx
 obtain⟨t',rfl⟩:=ry
 exact add_str (fun t' tk=>⟨.str (i++j),H,I.tok _,⟨_,rfl⟩,q⟩) hz
theorem Hz {x:V}{us:List BZ}(r:Vals [x] us): ∃u,us=[u]/\RelV x u:=by
 cases r with
 |cons r1 r2=>cases r2;exact⟨_,rfl,r1⟩
theorem HA {x y:V}{us:List BZ}(r:Vals [x,y] us): ∃u w',us=[u,w']/\RelV x u/\RelV y w':=by
 cases r with
 |cons r1 r2=>
  cases r2 with
  |cons r3 r4=>cases r4;exact⟨_,_,rfl,r1,r3⟩
theorem qE (hc:X.calm=true):CallR X (.builtin "max") (fun xs H Q=> ∃i j,xs=[.int i,.int j]/\Q (.int (if j>i then j else i)) H):=by
 intro pins s σ H xs us Q I r h
 obtain⟨i,j,rfl,q⟩:=h
 obtain⟨u,w',rfl,⟨t,rfl⟩,⟨t',rfl⟩⟩:=HA r
 refine max_two_ints (I.ok.hd hc) fun h' tk k=>⟨_,H,I.kept k,?_,q⟩
 by_cases hj:j>i
 ·rw[if_pos hj,if_pos hj];exact⟨_,rfl⟩
 ·rw[if_neg hj,if_neg hj];exact⟨_,rfl⟩
theorem DH:CallR X (.type "int") (fun xs H Q=>(∃i,xs=[.int i]/\Q (.int i) H)\/ ∃k,xs=[.bl k]/\Q (.int (if k then 1 else 0)) H):=by
 intro pins s σ H xs us Q I r h
 rcases h with⟨i,rfl,q⟩|⟨k,rfl,q⟩
 ·obtain⟨u,rfl,t,rfl⟩:=Hz r
  exact call_int_int ⟨.int i,H,I,⟨_,rfl⟩,q⟩
 ·obtain⟨u,rfl,r1⟩:=Hz r
  cases r1
  exact call_int_bool ⟨.int (if k then 1 else 0),H,I.tok _,⟨_,rfl⟩,q⟩
theorem DK:CallR X (.type "str") (fun xs H Q=> ∃i,xs=[.int i]/\i.natAbs.log2<1920/\Q (.str (toString i)) H):=by
 intro pins s σ H xs us Q I r h
 obtain⟨i,rfl,hz,q⟩:=h
 obtain⟨u,rfl,t,rfl⟩:=Hz r
 exact PySem.P.str_of_int hz ⟨.str _,H,I.tok _,⟨_,rfl⟩,q⟩
end
end
section
structure ObjM (h:B4)(x dx C:B5)(mA:Str->Option BZ):Prop where
 obj:h.get? x=some (BS C dx)
 ns:h.Ns1 dx mA
 ne:dx≠x
theorem qh {h:B4}{dx:B5}{mA:Str->Option BZ}(n:h.Ns1 dx mA): ∃od,h.get? dx=some od/\ ∀name,PySem.W.lookIn name od=some (mA name):=by
 obtain⟨o,es,ep,ho,hd,hk,_,hm⟩:=n
 refine⟨o,ho,fun name=>?_⟩
 have e:=hm name
 unfold nsFind findBy at e
 rw[<-Array.find?_toList] at e
 unfold PySem.W.lookIn
 rw[hd]
 dsimp only
 split
 ·rename_i y q
  rw[q] at e
  exact congrArg some e
 ·rename_i q
  rw[q] at e
  have a:es.toList.any (·.refKey)=false:=by
   rw[List.any_eq_false]
   intro y hy
   obtain⟨z,t,hkey⟩:=hk y (Array.mem_toList_iff.mp hy)
   simp [DictEntry.refKey,hkey]
  have a': ¬es.toList.any (·.refKey)=true:=by rw[a];exact zC
  rw[if_neg a']
  exact congrArg some e
theorem ObjM.look {h:B4}{x dx C:B5}{mA:Str->Option BZ}(I:ObjM h x dx C mA): ∃od,PySem.W.InstAt h x (BS C dx) C (some od)/\ ∀name,PySem.W.lookIn name od=some (mA name):=
 let ⟨od,ho,hl⟩:=qh I.ns
 ⟨od,⟨I.obj,rfl,rfl,ho⟩,hl⟩
section
variable {prog:B2}{w:B3}{A:B8}{E:BZ->B6->Prop}{s:B6}{K:PySem.W.Frag}{x dx C f:B5}{mA:Str->Option BZ}{name:Str}{v:BZ}
theorem uU {expr:Bool}{Q:BZ->B6->Prop}(X:K.In s.heap)(I:ObjM s.heap x dx C mA)(hg:PySem.W.plainGet K C name=true)(hh:PySem.W.hasDictIn K C=true)
  (ha:BU K (.ref C) name=some none)(hv:mA name=some v)(hv':PySem.W.handedIn v=true)(h:Q v {s with toks:=s.toks+1}):
  Ca (Cb prog w) A (getAttr (.ref x) name expr) Q E s:=by
 obtain⟨od,J,hl⟩:=I.look
 exact PySem.W.get_value X J (PySem.W.plainGet_of hg).1 (PySem.W.findObj_own hh ha rfl (by rw[hl,hv])) hv' h
theorem sB {pl:Sem Bool}{Q:BZ×List BZ->B6->Prop}(X:K.In s.heap)(I:ObjM s.heap x dx C mA)(hg:PySem.W.plainGet K C name=true)
  (hf:BU K (.ref C) name=some (some (.ref f)))(ht:PySem.W.isFn K (.ref f)=true)(hv:mA name=none)(h:Q (.ref f,[.ref x]) s):
  Ca (Cb prog w) A (CP (.ref x) name pl) Q E s:=by
 obtain⟨od,J,hl⟩:=I.look
 exact PySem.W.method_fn X J (PySem.W.plainGet_of hg).1 (PySem.W.plainGet_of hg).2 hf (beq_iff_eq.mp ht) (by show (PySem.W.lookIn name od).map (·.isSome)=some false;rw[hl,hv];rfl) h
theorem tD {ns:List Str}{Q:Unit->B6->Prop}(X:K.In s.heap)(I:ObjM s.heap x dx C mA)
  (hs:BU K (.ref C) "__setattr__"=some (some (.builtin "object.__setattr__")))(hp:PySem.W.plainOver K C=true)(ht:PySem.W.takerIn K C name=some none)(hh:PySem.W.hasDictIn K C=true)
  (hw:PySem.Within mA ns)(hsz:ns.length<=sizeLine)
  (h:∀h',ObjM h' x dx C (fun y=>if y=name then some v else mA y)->AF dx s.heap h'->Q () {s with heap:=h',toks:=s.toks+2}):
  Ca (Cb prog w) A (setAttr (.ref x) name v) Q E s:=by
 obtain⟨od,J,hl⟩:=I.look
 refine PySem.W.set_plain X J hs (PySem.W.osa_open (s:={s with toks:=s.toks+1}) (r:=none) X J hp ht fun b=>?_)
 obtain⟨cd,hc,hd'⟩:=PySem.W.any_some hh
 have hx:s.heap.get? x=some ⟨.ref C,some dx,.plain,#[]⟩:=I.obj
 refine Cc (Cd (Cc (Cc (wpAny_loadPart hx (Cc (PySem.W.Looks.here (s:={s with toks:=s.toks+1}) (PySem.W.looks_clsIn X hc) ?_))))))
 rw[hd']
 refine Cd (a:=some dx) (Cc (Cd (Cc ?_)))
 refine wpAny_nsSet1 (s:={s with toks:=s.toks+1}) I.ns fun h' hn2 hs2=>?_
 obtain⟨oD,esD,epD,hoD,hdD,hcD⟩:=hn2.count (PySem.Within.cons name v hw)
 refine Cc (wpAny_lookBehind hoD (by rw[hdD];exact pastItsLine_dict (zJ hcD (by rw[zx];omega))) ?_)
 exact Cd (h _ ⟨(hs2.2 _ (Ne.symm I.ne)).trans I.obj,hn2,I.ne⟩ hs2)
theorem sf {R:Result->B6->Prop}{vs:List BZ}{kw:List (Str×BZ)}(X:K.In s.heap)(hm:makesIn K C=true)
  (hi:BU K (.ref C) "__init__"=some (some (.ref f)))(hf:PySem.W.typeIn K (.ref f)=some (.type "function"))
  (h:codeAny (Cb prog w) (A.under (.builtin "type.__call__" ⟨.ref C::vs,kw⟩)) (.call (.ref f) ⟨.ref (s.heap.objs.size+1)::vs,kw⟩) (PySem.W.InitBack (s.heap.objs.size+1) R)
    {s with heap:=(s.heap.push BV).push (BS C s.heap.objs.size)}):
  codeAny (Cb prog w) A (.call (.ref C) ⟨vs,kw⟩) R s:=by
 obtain⟨hh,g,d,t,os⟩:=s
 exact PySem.W.make_core (PySem.W.makes_of X hm) (PySem.W.looks_findIn X hi) (fun self=>PySem.W.bind_fn X self hf) (.inl rfl) h
end
noncomputable def Ge (f:Str)(v:V):List (Str×V)->List (Str×V)
 |[]=>[(f,v)]
 |(g,x)::r=>if g=f then (g,v)::r else (g,x)::Ge f v r
theorem b9 (f g:Str)(v:V): ∀fs:List (Str×V),(Ge f v fs).lookup g=if g=f then some v else fs.lookup g
 |[]=>by
  show Ap g [(f,v)]=_
  by_cases h:g=f
  ·have hb:(g==f)=true:=beq_iff_eq.mpr h
   simp only[Ap,hb,if_pos h]
  ·have hb:(g==f)=false:=beq_eq_false_iff_ne.mpr h
   simp only[Ap,hb,if_neg h]
 |(k,x)::r=>by
  have ih:=b9 f g v r
  rw[show Ge f v ((k,x)::r)=(if k=f then (k,v)::r else (k,x)::Ge f v r) from rfl]
  by_cases hk:k=f
  ·rw[if_pos hk]
   by_cases h:g=k
   ·have hb:(g==k)=true:=beq_iff_eq.mpr h
    simp only[Ap,hb,if_pos (h.trans hk)]
   ·have hb:(g==k)=false:=beq_eq_false_iff_ne.mpr h
    simp only[Ap,hb,if_neg (fun e:g=f=>h (e.trans hk.symm))]
  ·rw[if_neg hk]
   by_cases h:g=k
   ·have hb:(g==k)=true:=beq_iff_eq.mpr h
    simp only[Ap,hb,if_neg (fun e:g=f=>hk (h.symm.trans e))]
   ·have hb:(g==k)=false:=beq_eq_false_iff_ne.mpr h
    simp only[Ap,hb]
    exact ih
theorem iA (f:Str)(v:V): ∀fs:List (Str×V),f∈(Ge f v fs).map (·.1)/\ ∀g,g∈fs.map (·.1)->g∈(Ge f v fs).map (·.1)
 |[]=>⟨by simp [Ge],fun g h=>by simp at h⟩
 |(k,x)::r=>by
  obtain⟨i1,i2⟩:=iA f v r
  rw[show Ge f v ((k,x)::r)=(if k=f then (k,v)::r else (k,x)::Ge f v r) from rfl]
  by_cases hk:k=f
  ·rw[if_pos hk]
   subst hk
   exact⟨by simp,fun g h=>by simpa using h⟩
  ·rw[if_neg hk]
   refine⟨?_,fun g h=>?_⟩
   ·rw[zD]
    exact zK _ i1
   ·rw[zD] at h ⊢
    rcases zA.mp h with e|e
    ·exact zA.mpr (.inl e)
    ·exact zK _ (i2 g e)
theorem iH (f:Str)(v:V): ∀fs:List (Str×V),(Ge f v fs).length<=fs.length+1
 |[]=>by simp [Ge]
 |(k,x)::r=>by
  have ih:=iH f v r
  rw[show Ge f v ((k,x)::r)=(if k=f then (k,v)::r else (k,x)::Ge f v r) from rfl]
  by_cases hk:k=f
  ·rw[if_pos hk,zx,zx];omega
  ·rw[if_neg hk,zx,zx];omega
theorem RelO.some_of {v:V}{o:Option BZ}(r:RelO (some v) o): ∃u,o=some u/\RelV v u:=by
 cases o with
 |none=>exact (show False from r).elim
 |some u=>exact⟨u,rfl,r⟩
theorem RelO.none_of {o:Option BZ}(r:RelO none o):o=none:=by
 cases o with
 |none=>rfl
 |some u=>exact (show False from r).elim
theorem qy {v:V}{u:BZ}(r:RelV v u):PySem.W.handedIn u=true:=by
 cases v with
 |non=>cases (show u=BZ.none from r);rfl
 |bl b=>cases (show u=BZ.bool b from r);rfl
 |int i=>obtain⟨t,e⟩:=(show∃t,u=BZ.int i t from r);cases e;rfl
 |str x=>obtain⟨t,e⟩:=(show∃t,u=BZ.str x t from r);cases e;rfl
 |byt b=>obtain⟨t,e⟩:=(show∃t,u=BZ.bytes b t from r);cases e;rfl
 |flt b=>obtain⟨t,e⟩:=(show∃t,u=BZ.float b t from r);cases e;rfl
 |ref a=>cases (show u=BZ.ref a from r);rfl
 |ty n=>cases (show u=BZ.type n from r);rfl
section
variable {P:B2}{w:B3}{H H':Hp}{h h':B4}{a C dx:B5}{fs fs':List (Str×V)}
theorem iX (hok:HOk P w H h)(e:H a=some (.ins C dx fs)): ∃mA,ObjM h a dx C mA/\(∀f,RelO (fs.lookup f) (mA f))/\PySem.Within mA (fs.map (·.1))/\fs.length<=1000/\H dx=some (.own a):=by
 obtain⟨d,z,ne,ob,mA,n,r,q⟩:=(show ObjOk P w H h a (.ins C dx fs) from hok a _ e)
 exact⟨mA,⟨ob,n,ne⟩,r,q,z,d⟩
end
structure Cls (K:PySem.W.Frag)(C:B5):Prop where
 pg:PySem.W.plainGet K C Str.empty=true
 hd:PySem.W.hasDictIn K C=true
 po:PySem.W.plainOver K C=true
 sa:BU K (.ref C) "__setattr__"=some (some (.builtin "object.__setattr__"))
theorem Cls.get {K:PySem.W.Frag}{C:B5}(c:Cls K C)(f:Str):PySem.W.plainGet K C f=true:=c.pg
noncomputable def NoAttr (K:PySem.W.Frag)(C:B5)(f:Str):Prop:=BU K (.ref C) f=some none
theorem NoAttr.taker {K:PySem.W.Frag}{C:B5}{f:Str}(n:NoAttr K C f):PySem.W.takerIn K C f=some none:=by
 unfold PySem.W.takerIn
 rw[show BU K (.ref C) f=some none from n]
 rfl
structure Dp (K:PySem.W.Frag)(C:B5)(m:Str)(f:B5):Prop where
 at_:BU K (.ref C) m=some (some (.ref f))
 fn:PySem.W.isFn K (.ref f)=true
 kp:BW K (.ref f)=true
section
variable {X:Cx}{pins:List (B5×B7)}{σ:St}{H:Hp}{s:B6}{a C dx:B5}{fs:List (Str×V)}{f:Str}{v:V}{A:B8}{E:BZ->B6->Prop}
theorem jG {b:Bool}{Q:BZ->B6->Prop}(I:Inv X pins σ H s)(e:H a=some (.ins C dx fs))(c:Cls X.K C)(n:NoAttr X.K C f)(l:fs.lookup f=some v)
  (h:∀u s',Inv X pins σ H s'->RelV v u->Q u s'):Ca (Cb X.prog X.w) A (getAttr (.ref a) f b) Q E s:=by
 obtain⟨mA,O,r,_,_,_⟩:=iX I.hok e
 obtain⟨u,hu,ru⟩:=RelO.some_of (v:=v) (o:=mA f) (by rw[<-l];exact r f)
 exact uU I.kIn O (c.get f) c.hd n hu (qy ru) (h u _ (I.tok _) ru)
theorem gE {m:Str}{g:B5}{pl:Sem Bool}{Q:BZ×List BZ->B6->Prop}(I:Inv X pins σ H s)(e:H a=some (.ins C dx fs))(c:Cls X.K C)(k:Dp X.K C m g)(l:fs.lookup m=none)
  (h:Q (.ref g,[.ref a]) s):Ca (Cb X.prog X.w) A (CP (.ref a) m pl) Q E s:=by
 obtain⟨mA,O,r,_,_,_⟩:=iX I.hok e
 have hn:mA m=none:=RelO.none_of (by rw[<-l];exact r m)
 exact sB I.kIn O (c.get m) k.at_ k.fn hn h
theorem jc {y:V}{u:BZ}{Q:Unit->B6->Prop}(I:Inv X pins σ H s)(e:H a=some (.ins C dx fs))(c:Cls X.K C)(n:NoAttr X.K C f)(hl:fs.length<1000)(ry:RelV y u)
  (h:∀s',Inv X pins σ (upd H a (.ins C dx (Ge f y fs))) s'->Q () s'):Ca (Cb X.prog X.w) A (setAttr (.ref a) f u) Q E s:=by
 obtain⟨mA,O,r,wi,_,ho⟩:=iX I.hok e
 have hz:(fs.map (·.1)).length<=sizeLine:=by rw[zr,sizeLine_eq];omega
 refine tD I.kIn O c.sa c.po n.taker c.hd wi hz fun h' O' sb=>h _ ?_
 have hd: ∃o,h'.get? dx=some o:=let ⟨o,_,_,e',_⟩:=O'.ns;⟨o,e'⟩
 refine I.write (x:=a) (e:=dx) (by rw[e];exact True.intro) (.inr ho) (fun b q hb z=>(sb.2 b hb).trans z) hd ?_
 refine⟨by rw[ar O.ne];exact ho,?_,O.ne,O'.obj,_,O'.ns,fun g=>?_,fun g hg=>?_⟩
 ·have:=iH f y fs;omega
 ·show RelO ((Ge f y fs).lookup g) (if g=f then some u else mA g)
  rw[b9]
  by_cases q:g=f
  ·rw[if_pos q,if_pos q];exact ry
  ·rw[if_neg q,if_neg q];exact r g
 ·by_cases q:g=f
  ·rw[q];exact (iA f y fs).1
  ·refine (iA f y fs).2 g (wi g fun z=>hg ?_)
   show (if g=f then some u else mA g)=none
   rw[if_neg q];exact z
theorem Inv.made (I:Inv X pins σ H s):Inv X pins σ (upd (upd H s.heap.objs.size (.own (s.heap.objs.size+1))) (s.heap.objs.size+1) (.ins C s.heap.objs.size []))
  {s with heap:=(s.heap.push BV).push (BS C s.heap.objs.size)}:=by
 have e1:(s.heap.push BV).get? s.heap.objs.size=some BV:=Af s.heap rfl
 have e2:((s.heap.push BV).push (BS C s.heap.objs.size)).get? (s.heap.objs.size+1)=some (BS C s.heap.objs.size):=by
  have:=Af (s.heap.push BV) (o:=BS C s.heap.objs.size) rfl
  rwa[Ba] at this
 have e3:(s.heap.push BV).Ns s.heap.objs.size (fun _=>none):=⟨BV,#[],_,e1,rfl,(fun e he=>absurd he (by simp)),fun _=>rfl⟩
 have I1:=I.laid (a:=s.heap.objs.size) (o:=.own (s.heap.objs.size+1)) (h':=s.heap.push BV) (t':=s.toks) (fun b u q=>zP _ q) (zu _) ⟨_,e1⟩
 refine I1.laid (a:=s.heap.objs.size+1) (o:=.ins C s.heap.objs.size []) (t':=s.toks) (fun b u q=>zP _ q) (AH (Ba _ _)) ?_
 have ne:s.heap.objs.size≠s.heap.objs.size+1:=zN (Bb _)
 refine⟨by rw[ar ne,aM],zL _,ne,e2,fun _=>none,(B4.Ns1.of_empty e3).at fun o q=>zP _ q,fun _=>True.intro,fun y hy=>absurd rfl hy⟩
theorem ve {prog:B2}{w:B3}{env:Env}{e:Expr}{f:Str}{pos:Ct}{s:B6}{Q:BZ->B6->Prop}(hb:CQ e f env (Cp e env)=Cp e env)
  (h:Ca (Cb prog w) A (Cp e env) (fun o s₁=>Ca (Cb prog w) A (getAttr o f true) Q E s₁) E s):Ca (Cb prog w) A (Cp (.Attribute e f pos) env) Q E s:=
 Attribute_any_ h (by rw[arm_eval_Attribute,hb])
end
def tFld (K:PySem.W.Frag)(ta:TE)(f:Str):TE:=fun σ H Q=>ta σ H fun x H1=> ∃a C dx fs v,x=.ref a/\H1 a=some (.ins C dx fs)/\Cls K C/\NoAttr K C f/\fs.lookup f=some v/\Q v H1
def sFld (K:PySem.W.Frag)(ta tv:TE)(f:Str):TS:=fun D σ H=>tv σ H fun y H1=>ta σ H1 fun x H2=> ∃a C dx fs,x=.ref a/\H2 a=some (.ins C dx fs)/\Cls K C/\NoAttr K C f/\fs.length<1000/\
 D.nx σ (upd H2 a (.ins C dx (Ge f y fs)))
def InOp (X:Cx)(op:Operator)(rd:V->V->Hp->VK->Prop):Prop:=
 ∀ (pins:List (B5×B7)) (s:B6) (σ:St) (H:Hp) (x y:V) (u v:BZ) (Q:VK),Inv X pins σ H s->RelV x u->RelV y v->rd x y H Q->Ca (Cb X.prog X.w) X.A (inplaceOp op u v) (EP X pins σ Q) X.xe s
def tJ (K:PySem.W.Frag)(ta tv:TE)(rd:V->V->Hp->VK->Prop)(f:Str):TS:=fun D σ H=>ta σ H fun x H1=> ∃a C dx fs v,x=.ref a/\H1 a=some (.ins C dx fs)/\Cls K C/\NoAttr K C f/\fs.lookup f=some v/\
 tv σ H1 fun y H2=>rd v y H2 fun z H3=> ∃dx' fs',H3 a=some (.ins C dx' fs')/\fs'.length<1000/\D.nx σ (upd H3 a (.ins C dx' (Ge f z fs')))
section
variable {X:Cx}{o e value:Expr}{f:Str}{pos pos' tpos:Ct}{ta tv:TE}
theorem d9 (he:PE X e ta)(hb:CQ e f X.env (Cp e X.env)=Cp e X.env):PE X (.Attribute e f pos) (tFld X.K ta f):=by
 intro pins s σ H Q I h
 refine ve hb (thn (he pins s σ H _ I h) fun u s1 qz=>?_)
 obtain⟨x,H1,I1,rx,a,C,dx,fs,v,ex,ea,c,n,l,q⟩:=qz
 subst ex
 obtain rfl:u=BZ.ref a:=rx
 exact jG I1 ea c n l fun u' s2 I2 ru=>⟨v,H1,I2,ru,q⟩
theorem om (ha:PE X o ta)(hv:PE X value tv)(hs:swapsWith value (some (.Attribute o f pos')) pos.line X.env=pure false):PS X (.Assign [.Attribute o f pos'] value pos) (sFld X.K ta tv f):=by
 intro pins s σ H D I h
 refine plainObj_wpAny_Assign_Attribute (thn (hv pins s σ H _ I h) fun u s1 ⟨y,H1,I1,ry,q⟩=>thn (ha pins s1 σ H1 _ I1 q) fun ov s2 qz=>?_) hs
 obtain⟨x,H2,I2,rx,a,C,dx,fs,ex,ea,c,n,l,q2⟩:=qz
 subst ex
 obtain rfl:ov=BZ.ref a:=rx
 exact jc I2 ea c n l ry fun s3 I3=>⟨σ,_,I3,q2⟩
theorem ke {op:Operator}{rd:V->V->Hp->VK->Prop}(ha:PE X o ta)(hv:PE X value tv)(hop:InOp X op rd):PS X (.AugAssign (.Attribute o f tpos) op value pos) (tJ X.K ta tv rd f):=by
 intro pins s σ H D I h
 refine wpAny_AugAssign_AttributeAny (thn (ha pins s σ H _ I h) fun ov s1 qz=>?_)
 obtain⟨x,H1,I1,rx,a,C,dx,fs,v,ex,ea,c,n,l,q⟩:=qz
 subst ex
 obtain rfl:ov=BZ.ref a:=rx
 refine jG I1 ea c n l fun u s2 I2 ru=>thn (hv pins s2 σ H1 _ I2 q) fun w3 s3 ⟨y,H2,I3,ry,q3⟩=>thn (hop pins s3 σ H2 v y u w3 _ I3 ru ry q3) fun w4 s4 qz=>?_
 obtain⟨z,H3,I4,rz,dx',fs',ea',l',q4⟩:=qz
 exact jc I4 ea' c n l' rz fun s5 I5=>⟨σ,_,I5,q4⟩
def rAdd:V->V->Hp->VK->Prop:=fun x y H Q=> ∃i j,x=.int i/\y=.int j/\Q (.int (i+j)) H
theorem sv:InOp X .Add rAdd:=by
 rintro pins s σ H x y u v Q I rx ry ⟨i,j,rfl,rfl,q⟩
 obtain⟨t,rfl⟩:=(show∃t,u=BZ.int i t from rx)
 obtain⟨t',rfl⟩:=(show∃t',v=BZ.int j t' from ry)
 exact PyProof.Rows.iadd_int ⟨.int (i+j),H,I.tok _,⟨_,rfl⟩,q⟩
theorem vp {pl:Sem Bool}{m:Str}{apos:Ct}{args:List Expr}{pins:List (B5×B7)}{s:B6}{σ:St}{H:Hp}{Q:BZ->B6->Prop}{te:TE}(he:PE X e te)(I:Inv X pins σ H s)
  (h:te σ H fun x H1=> ∃a C dx fs g,x=.ref a/\H1 a=some (.ins C dx fs)/\Cls X.K C/\Dp X.K C m g/\fs.lookup m=none/\
    ∀s1,Inv X pins σ H1 s1->Ca (Cb X.prog X.w) X.A (callWith pos (.ref g) [.ref a] (Cu pos (Cv args X.env)) (CU pos (CV [] X.env))) Q X.xe s1)
  (ht:Cp (.Call (.Attribute e m apos) args [] pos) X.env=(do
   let ov<-Cp e X.env
   CB apos.atName
   let (f,first)<-CC [ov] (CP ov m pl)
   callWith pos f first (Cu pos (Cv args X.env)) (CU pos (CV [] X.env)))):
  Ca (Cb X.prog X.w) X.A (Cp (.Call (.Attribute e m apos) args [] pos) X.env) Q X.xe s:=by
 refine PySem.W.methodCall_KW (pl:=pl) (thn (he pins s σ H _ I h) fun u s1 qz=>?_) ht
 obtain⟨x,H1,I1,rx,a,C,dx,fs,g,ex,ea,c,k,l,q⟩:=qz
 subst ex
 obtain rfl:u=BZ.ref a:=rx
 exact gE I1 ea c k l (q s1 I1)
end
section
variable {X:Cx}{pins:List (B5×B7)}{σ:St}{H:Hp}{s:B6}{A:B8}{E:BZ->B6->Prop}{Q:BZ->B6->Prop}{c:BZ}{b:Bool}
inductive DA (K:PySem.W.Frag)(H:Hp):V->BZ->Prop where
 |non:DA K H .non (.type "NoneType")
 |bl (x:Bool):DA K H (.bl x) (.type "bool")
 |int (i:Int):DA K H (.int i) (.type "int")
 |str (x:Str):DA K H (.str x) (.type "str")
 |flt (x:UInt64):DA K H (.flt x) (.type "float")
 |lst {a:B5}{xs:List V} (e:H a=some (.lst xs)):DA K H (.ref a) (.type "list")
 |frz {a:B5}{o:B7}{xs:List V} (e:H a=some (.frz o (.lst xs))):DA K H (.ref a) (.type "list")
 |tup {a:B5}{xs:List V} (e:H a=some (.tup xs)):DA K H (.ref a) (.type "tuple")
 |dK {a:B5}{kvs:List (Key×V)} (e:H a=some (.dK kvs)):DA K H (.ref a) (.type "dict")
 |dT {a:B5}{kvs:List (List Key×V)} (e:H a=some (.dT kvs)):DA K H (.ref a) (.type "dict")
 |ins {a C dx:B5}{fs:List (Str×V)} (e:H a=some (.ins C dx fs)) (cl:Cls K C) (ha:BU K (.ref C) "__class__"=some (some (.builtin "object.__class__")))
  (hn:PySem.W.specialIn K (.builtin "object.__class__") "__get__"=some (some (.builtin "getset_descriptor.__get__"))) (htk:PySem.W.takesIn K (.builtin "object.__class__")=some true)
  (hm:PySem.W.mroIn K C (.type "object")=some true):DA K H (.ref a) (.ref C)
theorem qp {x:V}{u t:BZ}(I:Inv X pins σ H s)(rx:RelV x u)(ty:DA X.K H x t)(e:kitOne X.K t c=some b)(h:∀tk,Q (.bool b) {s with toks:=tk}):
  Ca (Cb X.prog X.w) A (call (.builtin "isinstance") [u,c]) Q E s:=by
 cases ty with
 |non=>cases (show u=BZ.none from rx);exact BX PySem.W.kitx_none I.kIn True.intro e (fun z=>nomatch z) h
 |bl y=>cases (show u=BZ.bool y from rx);exact BX PySem.W.kitx_bool I.kIn True.intro e (fun z=>nomatch z) h
 |int i=>obtain⟨t,q⟩:=(show∃t,u=BZ.int i t from rx);cases q;exact BX PySem.W.kitx_int I.kIn True.intro e (fun z=>nomatch z) h
 |str y=>obtain⟨t,q⟩:=(show∃t,u=BZ.str y t from rx);cases q;exact BX PySem.W.kitx_str I.kIn True.intro e (fun z=>nomatch z) h
 |flt y=>obtain⟨t,q⟩:=(show∃t,u=BZ.float y t from rx);cases q;exact BX PySem.W.kitx_float I.kIn True.intro e (fun z=>nomatch z) h
 | @lst a xs ea=>
   cases (show u=BZ.ref a from rx)
   obtain⟨_,_,n,_,h1⟩:=(show ObjOk X.prog X.w H s.heap a (.lst xs) from I.hok a _ ea)
   exact BX PySem.W.kitx_list I.kIn ⟨_,h1,rfl⟩ e (fun z=>nomatch z) h
 | @frz a ob xs ea=>
   cases (show u=BZ.ref a from rx)
   obtain⟨_,_,_,n,_,h1⟩:=(show ObjOk X.prog X.w H s.heap a (.frz ob (.lst xs)) from I.hok a _ ea)
   exact BX PySem.W.kitx_list I.kIn ⟨_,h1,rfl⟩ e (fun z=>nomatch z) h
 | @tup a xs ea=>
   cases (show u=BZ.ref a from rx)
   obtain⟨_,_,_,p⟩:=(show ObjOk X.prog X.w H s.heap a (.tup xs) from I.hok a _ ea)
   obtain⟨o,h1,h2,_⟩:=p.1
   exact BX PySem.W.kitx_tuple I.kIn ⟨o,h1,h2⟩ e (fun z=>nomatch z) h
 | @dK a kvs ea=>
   cases (show u=BZ.ref a from rx)
   obtain⟨_,_,vs,_,p⟩:=(show ObjOk X.prog X.w H s.heap a (.dK kvs) from I.hok a _ ea)
   obtain⟨o,es,ep,h1,h2,_⟩:=p
   exact BX PySem.W.kitx_dict I.kIn ⟨o,h1,h2.1⟩ e (fun z=>nomatch z) h
 | @dT a kvs ea=>
   cases (show u=BZ.ref a from rx)
   obtain⟨_,_,xs,_,o,es,ep,h1,h2,_⟩:=(show ObjOk X.prog X.w H s.heap a (.dT kvs) from I.hok a _ ea)
   exact BX PySem.W.kitx_dict I.kIn ⟨o,h1,h2.1⟩ e (fun z=>nomatch z) h
 | @ins a C dx fs ea cl ha hn htk hm=>
   cases (show u=BZ.ref a from rx)
   obtain⟨mA,O,_⟩:=iX I.hok ea
   obtain⟨od,J,_⟩:=O.look
   exact BX (PySem.W.kitx_own (cl.get _) cl.hd ha hn htk hm) I.kIn J e (fun z=>nomatch z) h
end
end
section
structure Room (k:Nat)(A:B8):Prop where
 hd:A.handled=none
 dp:A.depth+3 * k+5<recursionLimit
 un:A.units+16 * k+200<B9
theorem Room.mono {j k:Nat}{A:B8}(r:Room k A)(h:j<=k):Room j A:=⟨r.hd,by have:=r.dp;omega,by have:=r.un;omega⟩
theorem Room.deeper {k:Nat}{A:B8}(r:Room (k+1) A)(env:Env):Room k (A.deeper env):=
 ⟨r.hd,by have:=r.dp;show A.depth+1+3 * k+5<_;omega,by have:=r.un;show A.units+3+16 * k+200<_;omega⟩
theorem oC {A:B8}{C:B5}{us:List BZ}{kw:List (Str×BZ)}:(A.under (.builtin "type.__call__" ⟨.ref C::us,kw⟩)).depth=A.depth+1:=by
 first|rfl|simp [B8.under,Code.weight,Code.isCreation,Code.isGuard,Code.isCaller,Code.frames,Code.isFrame,guardIds]
theorem oB {A:B8}{C:B5}{us:List BZ}{kw:List (Str×BZ)}:(A.under (.builtin "type.__call__" ⟨.ref C::us,kw⟩)).units=A.units+1:=by
 first|rfl|simp [B8.under,Code.cUnits,Code.frames,Code.isFrame]
theorem Room.make {k:Nat}{A:B8}(r:Room (k+1) A)(C:B5)(us:List BZ)(kw:List (Str×BZ)):Room k (A.under (.builtin "type.__call__" ⟨.ref C::us,kw⟩)):=
 ⟨r.hd,by have:=r.dp;rw[oC];omega,by have:=r.un;rw[oB];omega⟩
theorem Room.depth {k:Nat}{A:B8}(r:Room k A):A.depth<recursionLimit:=by have:=r.dp;omega
theorem Room.units {k:Nat}{A:B8}(r:Room k A):A.units+64<B9:=by have:=r.un;omega
def Hq:TA:=fun _ H Q=>Q [] H
def Hm (ta:TE)(tr:TA):TA:=fun σ H Q=>ta σ H fun x H1=>tr σ H1 fun xs H2=>Q (x::xs) H2
section
variable {X:Cx}{e:Expr}{es:List Expr}{te:TE}{t:TA}{pos:Ct}
theorem FW:PA X [] Hq:=fun _ _ _ _ H Q I h=>Calls.spliced_nil ⟨[],H,I,.nil,h⟩
theorem ai (ha:PE X e te)(hr:PA X es t)(hs:Cv (e::es) X.env=(false,Cp e X.env)::Cv es X.env:=by rfl):PA X (e::es) (Hm te t):=by
 intro pos pins s σ H Q I h
 rw[hs]
 show Ca _ _ (spliced ((false,Cp e X.env)::Cu pos (Cv es X.env))) _ _ s
 refine Calls.spliced_cons (thn (ha pins s σ H _ I h) fun u s1 qz=>?_)
 obtain⟨x,H1,I1,r1,q1⟩:=qz
 exact thn (hr pos pins s1 σ H1 _ I1 q1) fun us s2 ⟨xs,H2,I2,r2,q2⟩=>⟨x::xs,H2,I2,.cons r1 r2,q2⟩
def tTup (t:TA):TE:=fun σ H Q=>t σ H fun xs H1=>xs.length<=sizeLine/\ ∀p,H1 p=none->Q (.ref p) (upd H1 p (.tup xs))
def tLst (t:TA):TE:=fun σ H Q=>t σ H fun xs H1=>xs.length<=sizeLine/\ ∀p,H1 p=none->Q (.ref p) (upd H1 p (.lst xs))
theorem jp {x1}(h:PA X es t):PE X (.Tuple es x1 pos) (tTup t):=by
 intro pins s σ H Q I hq
 refine wpAny_Tuple_spliced (thn (h pos pins s σ H _ I hq) fun us s1 ⟨xs,H1,I1,r,z,q⟩=>⟨by rw[<-r.length];exact z,?_⟩)
 have hf:H1 s1.heap.objs.size=none:=I1.hok.fresh (zu _)
 refine⟨.ref s1.heap.objs.size,upd H1 s1.heap.objs.size (.tup xs),I1.laid (t':=s1.toks) (fun b u e=>zP _ e) (zu _) ?_,rfl,q _ hf⟩
 exact⟨z,us,r,IsTupD.new _ _⟩
theorem wm (h:PA X es t):PE X (.List es pos) (tLst t):=by
 intro pins s σ H Q I hq
 refine wpAny_List_spliced (thn (h pos pins s σ H _ I hq) fun us s1 ⟨xs,H1,I1,r,z,q⟩=>⟨by rw[<-r.length];exact z,?_⟩)
 have hf:H1 s1.heap.objs.size=none:=I1.hok.fresh (zu _)
 refine⟨.ref s1.heap.objs.size,upd H1 s1.heap.objs.size (.lst xs),I1.laid (t':=s1.toks) (fun b u e=>zP _ e) (zu _) ?_,rfl,q _ hf⟩
 exact⟨z,us,0,r,Af _ rfl⟩
end
noncomputable abbrev Sp:=List V->Hp->VK->XK->Prop
noncomputable abbrev CXT:=List Env->Hp->B6->XK->BZ->B6->Prop
structure Env0 (P:B2)(w:B3)(K:PySem.W.Frag)(mg:Str->Option BZ)(base:B4)(A:B8)(outer:List Env)(s:B6)(H:Hp):Prop where
 frames:A.frames=some outer
 mod:Mod K mg base
 bs: ∀b o,base.get? b=some o->s.heap.get? b=some o/\H b=none
 bsz:base.objs.size<=s.heap.objs.size
 funs:s.heap.FunFrames base outer
 frf: ∀b∈frs outer,H b=none
 hok:HOk P w H s.heap
 bare:Co s.gens
def CE (outer:List Env)(P:B2)(w:B3)(H:Hp)(s:B6)(Q:VK)(u:BZ)(s':B6):Prop:=
 ∃v H',s'.os=s.os/\Co s'.gens/\Un (frs outer) [] H H' s.heap s'.heap/\HOk P w H' s'.heap/\RelV v u/\Q v H'
def CR (CX:CXT)(outer:List Env)(P:B2)(w:B3)(H:Hp)(s:B6)(Q:VK)(E:XK)(r:Result)(s':B6):Prop:=
 match r with
 |.ok (.ret u)=>CE outer P w H s Q u s'
 |.ok _=>False
 |.error e=>CX outer H s E e s'
structure FnOk (P:B2)(w:B3)(K:PySem.W.Frag)(mg:Str->Option BZ)(base:B4)(CX:CXT)(k:Nat)(f:B5)(fd:CW)(ps:List Str)(sp:Sp):Prop where
 len: ∀vs H Q E,sp vs H Q E->vs.length=ps.length
 run: ∀ (A:B8) (outer:List Env) (s:B6) (H:Hp) (args:Args) (us:List BZ) (vs:List V) (Q:VK) (E:XK),Room k A->Env0 P w K mg base A outer s H->BindsTo s fd args (ps.zip us)->Vals vs us->sp vs H Q E->
  codeAny (Cb P w) A (.call (.ref f) args) (CR CX outer P w H s Q E) s
theorem FnOk.mono {P:B2}{w:B3}{K:PySem.W.Frag}{mg:Str->Option BZ}{base:B4}{CX:CXT}{j k:Nat}{f:B5}{fd:CW}{ps:List Str}{sp:Sp}(F:FnOk P w K mg base CX j f fd ps sp)(h:j<=k):
 FnOk P w K mg base CX k f fd ps sp:=⟨F.len,fun A outer s H args us vs Q E hr=>F.run A outer s H args us vs Q E (hr.mono h)⟩
theorem FnOk.imp {P:B2}{w:B3}{K:PySem.W.Frag}{mg:Str->Option BZ}{base:B4}{CX:CXT}{k:Nat}{f:B5}{fd:CW}{ps:List Str}{sp sp':Sp}(F:FnOk P w K mg base CX k f fd ps sp)
  (h:∀vs H Q E,sp' vs H Q E->sp vs H Q E):FnOk P w K mg base CX k f fd ps sp':=
 ⟨fun vs H Q E q=>F.len vs H Q E (h _ _ _ _ q),fun A outer s H args us vs Q E hr he hb hv hs=>F.run A outer s H args us vs Q E hr he hb hv (h _ _ _ _ hs)⟩
theorem Env0.make {P:B2}{w:B3}{K:PySem.W.Frag}{mg:Str->Option BZ}{base:B4}{A:B8}{outer:List Env}{s:B6}{H:Hp}(e:Env0 P w K mg base A outer s H)(C:B5)(us:List BZ)(kw:List (Str×BZ)):
 Env0 P w K mg base (A.under (.builtin "type.__call__" ⟨.ref C::us,kw⟩)) outer s H:=⟨by first|exact e.frames|(simpa [B8.under,Code.envs,Code.isFrame,pushEnvs] using e.frames),e.mod,e.bs,e.bsz,e.funs,e.frf,e.hok,e.bare⟩
section
variable {X:Cx}{pins:List (B5×B7)}{σ:St}{H:Hp}{s s':B6}
theorem Inv.env0 (I:Inv X pins σ H s):Env0 X.prog X.w X.K X.mg X.base X.A X.stack s H:=
 ⟨I.ok.frames,I.ok.mod,I.bs,zJ I.ok.bsz I.sz,I.stack,I.stkFree,I.hok,I.bare⟩
theorem Inv.after {Q:VK}{u:BZ}(I:Inv X pins σ H s)(h:CE X.stack X.prog X.w H s Q u s'):EP X pins σ Q u s':=by
 obtain⟨v,H',os,bare,un,hok,r,q⟩:=h
 obtain⟨hh,g,d,t,os'⟩:=s'
 obtain rfl:os'=s.os:=os
 exact⟨v,H',I.call (h':=hh) (g':=g) (d':=d) (t':=t) (ch:=[]) un hok bare (fun b z=>absurd z (by simp)),r,q⟩
end
def tCall (sp:Sp)(dvs:List V)(E:XK)(t:TA):TE:=fun σ H Q=>t σ H fun vs H1=>sp (vs++dvs) H1 Q E
def Ho (C:B5)(m:Str)(sp:Sp)(dvs:List V)(E:XK)(ta:TE)(t:TA):TE:=fun σ H Q=>ta σ H fun x H1=> ∃a dx fs,x=.ref a/\H1 a=some (.ins C dx fs)/\fs.lookup m=none/\
 t σ H1 fun vs H2=>sp (x::(vs++dvs)) H2 Q E
def Hn (C:B5)(sp:Sp)(dvs:List V)(E:XK)(t:TA):TE:=fun σ H Q=>t σ H fun vs H1=> ∀x dx,H1 x=none->H1 dx=none->dx≠x->
 sp (.ref x::(vs++dvs)) (upd (upd H1 dx (.own x)) x (.ins C dx [])) (fun v H2=>v=.non/\Q (.ref x) H2) E
noncomputable def Binds (K:PySem.W.Frag)(fd:CW)(ps:List Str)(ds:List BZ):Prop:=
 ∀ (s:B6) (us:List BZ),K.In s.heap->(us++ds).length=ps.length->BindsTo s fd ⟨us,[]⟩ (ps.zip (us++ds))
theorem Binds.all {K:PySem.W.Frag}{fd:CW}{ps:List Str}(h:∀us:List BZ,us.length=ps.length->bindArgs fd ⟨us,[]⟩=pure (ps.zip us)):Binds K fd ps []:=fun s us _ hl=>by
 rw[zZ] at hl ⊢
 exact .of_eq (h us hl)
def fm (CX:CXT)(X:Cx)(E:XK):Prop:= ∀ (pins:List (B5×B7)) (σ:St) (H:Hp) (s:B6) (e:BZ) (s':B6),Inv X pins σ H s->CX X.stack H s E e s'->X.xe e s'
section
variable {X:Cx}{CX:CXT}{k:Nat}{f C:B5}{fd:CW}{ps:List Str}{sp:Sp}{dvs:List V}{ds:List BZ}{E:XK}{x m:Str}{p pos apos:Ct}{e o:Expr}{es:List Expr}{ta:TE}{t:TA}
theorem oh {pins:List (B5×B7)}{σ:St}{H:Hp}{s:B6}{Q:VK}{us:List BZ}{vs:List V}(F:FnOk X.prog X.w X.K X.mg X.base CX k f fd ps sp)(hr:Room k X.A)(hb:Binds X.K fd ps ds)(hd:Vals dvs ds)(hx:fm CX X E)
  (I:Inv X pins σ H s)(r:Vals vs us)(h:sp (vs++dvs) H Q E):Ca (Cb X.prog X.w) X.A (call (.ref f) us) (EP X pins σ Q) X.xe s:=by
 have r2:Vals (vs++dvs) (us++ds):=r.append hd
 have hl:(us++ds).length=ps.length:=by rw[<-r2.length];exact F.len _ _ _ _ h
 refine wpAny_call (CY (F.run X.A X.stack s H ⟨us,[]⟩ (us++ds) (vs++dvs) Q E hr I.env0 (hb s us I.kIn hl) r2 h) fun r s' hq=>?_)
 cases r with
 |error e=>exact hx pins σ H s e s' I hq
 |ok fl=>
  cases fl with
  |ret u=>exact I.after hq
  |next=>exact False.elim hq
  |brk=>exact False.elim hq
  |cont=>exact False.elim hq
theorem dc (F:FnOk X.prog X.w X.K X.mg X.base CX k f fd ps sp)(hr:Room k X.A)(hg:Gl X x)(hm:X.mg x=some (.ref f))(hk:BW X.K (.ref f)=true)(hb:Binds X.K fd ps ds)(hd:Vals dvs ds)(hx:fm CX X E)
  (ha:PA X (e::es) t)(hdb:(x==("__debug__":Str))=false:=by decide)(he:Cv (e::es) X.env=(false,Cp e X.env)::Cv es X.env:=by rfl)(hpl:(Cu pos (Cv es X.env)).any (·.1)=false:=by rfl):
  PE X (.Call (.Name x p) (e::es) [] pos) (tCall sp dvs E t):=by
 intro pins s σ H Q I h
 refine CZ (gZ I hg hm ?_ hdb)
 refine PySem.W.callWith_K (h₀:=X.base) I.ok.mod.kin hk (thn (ha pos pins s σ H _ I h) fun us s1 ⟨vs,H1,I1,r,q⟩=>⟨I1.kIn,?_⟩) he hpl
 exact oh F hr hb hd hx I1 r q
theorem eO {pl:Sem Bool}(he:PE X o ta)(c:Cls X.K C)(hm:Dp X.K C m f)(F:FnOk X.prog X.w X.K X.mg X.base CX k f fd ps sp)(hr:Room k X.A)(hb:Binds X.K fd ps ds)(hd:Vals dvs ds)(hx:fm CX X E)(ha:PA X (e::es) t)
  (hst:Cv (e::es) X.env=(false,Cp e X.env)::Cv es X.env:=by rfl)(hpl:(Cu pos (Cv es X.env)).any (·.1)=false:=by rfl)
  (ht:Cp (.Call (.Attribute o m apos) (e::es) [] pos) X.env=(do
   let ov<-Cp o X.env
   CB apos.atName
   let (f,first)<-CC [ov] (CP ov m pl)
   callWith pos f first (Cu pos (Cv (e::es) X.env)) (CU pos (CV [] X.env))):=by rfl):
  PE X (.Call (.Attribute o m apos) (e::es) [] pos) (Ho C m sp dvs E ta t):=by
 intro pins s σ H Q I h
 refine PySem.W.methodCall_KW (pl:=pl) (thn (he pins s σ H _ I h) fun u s1 qz=>?_) ht
 obtain⟨x,H1,I1,rx,a,dx,fs,ex,ea,l,q⟩:=qz
 subst ex
 obtain rfl:u=BZ.ref a:=rx
 refine gE I1 ea c hm l ?_
 refine PySem.W.callWith_K (first:=[.ref a]) (h₀:=X.base) I.ok.mod.kin hm.kp (thn (ha pos pins s1 σ H1 _ I1 q) fun us s2 ⟨vs,H2,I2,r,q2⟩=>⟨I2.kIn,?_⟩) hst hpl
 exact oh (us:=.ref a::us) (vs:=.ref a::vs) F hr hb hd hx I2 (.cons rfl r) q2
theorem dF {pl:Sem Bool}(he:PE X o ta)(c:Cls X.K C)(hm:Dp X.K C m f)(F:FnOk X.prog X.w X.K X.mg X.base CX k f fd ps sp)(hr:Room k X.A)(hb:Binds X.K fd ps ds)(hd:Vals dvs ds)(hx:fm CX X E)
  (ht:Cp (.Call (.Attribute o m apos) [] [] pos) X.env=(do
   let ov<-Cp o X.env
   CB apos.atName
   let (f,first)<-CC [ov] (CP ov m pl)
   callWith pos f first (Cu pos (Cv [] X.env)) (CU pos (CV [] X.env))):=by rfl):
  PE X (.Call (.Attribute o m apos) [] [] pos) (Ho C m sp dvs E ta Hq):=by
 intro pins s σ H Q I h
 refine PySem.W.methodCall_KW (pl:=pl) (thn (he pins s σ H _ I h) fun u s1 qz=>?_) ht
 obtain⟨x,H1,I1,rx,a,dx,fs,ex,ea,l,q⟩:=qz
 subst ex
 obtain rfl:u=BZ.ref a:=rx
 refine gE I1 ea c hm l ?_
 exact PySem.W.callWith_K0 (first:=[.ref a]) I1.kIn hm.kp (oh (us:=[.ref a]) (vs:=[.ref a]) F hr hb hd hx I1 (.cons rfl .nil) q)
structure Mk (K:PySem.W.Frag)(C f:B5):Prop where
 makes:makesIn K C=true
 init:BU K (.ref C) "__init__"=some (some (.ref f))
 fn:PySem.W.isFn K (.ref f)=true
 kp:BW K (.ref C)=true
theorem ms {pins:List (B5×B7)}{σ:St}{H:Hp}{s:B6}{Q:VK}{us:List BZ}{vs:List V}(M:Mk X.K C f)(F:FnOk X.prog X.w X.K X.mg X.base CX k f fd ps sp)(hr:Room (k+1) X.A)(hb:Binds X.K fd ps ds)(hd:Vals dvs ds)
  (hx:fm CX X E)(I:Inv X pins σ H s)(r:Vals vs us)
  (h:∀x dx,H x=none->H dx=none->dx≠x->sp (.ref x::(vs++dvs)) (upd (upd H dx (.own x)) x (.ins C dx [])) (fun v H2=>v=.non/\Q (.ref x) H2) E):
  Ca (Cb X.prog X.w) X.A (call (.ref C) us) (EP X pins σ Q) X.xe s:=by
 have hq:=h (s.heap.objs.size+1) s.heap.objs.size (I.hok.fresh (Bc _)) (I.hok.fresh (zu _)) (zN (Bb _))
 have I2:=Inv.made (C:=C) I
 have r2:Vals (V.ref (s.heap.objs.size+1)::(vs++dvs)) (BZ.ref (s.heap.objs.size+1)::(us++ds)):=.cons rfl (r.append hd)
 have hl:(BZ.ref (s.heap.objs.size+1)::us++ds).length=ps.length:=by
  have e:=r2.length
  rw[F.len _ _ _ _ hq] at e
  exact e.symm
 refine wpAny_call (sf (f:=f) I.kIn M.makes M.init (beq_iff_eq.mp M.fn) (CY (F.run _ X.stack _ _ ⟨BZ.ref (s.heap.objs.size+1)::us,[]⟩ (BZ.ref (s.heap.objs.size+1)::(us++ds)) _ _ E (hr.make C us [])
  (I2.env0.make C us []) (hb _ (BZ.ref (s.heap.objs.size+1)::us) I2.kIn hl) r2 hq) fun r s' hq'=>?_))
 cases r with
 |error e=>exact hx pins σ _ _ e s' I2 hq'
 |ok fl=>
  cases fl with
  |ret u=>
   obtain⟨v,H',I3,rv,ev,q3⟩:=I2.after hq'
   subst ev
   exact⟨rv,⟨V.ref (s.heap.objs.size+1),H',I3,rfl,q3⟩⟩
  |next=>exact False.elim hq'
  |brk=>exact False.elim hq'
  |cont=>exact False.elim hq'
theorem t4 (M:Mk X.K C f)(F:FnOk X.prog X.w X.K X.mg X.base CX k f fd ps sp)(hr:Room (k+1) X.A)(hg:Gl X x)(hm:X.mg x=some (.ref C))(hb:Binds X.K fd ps ds)(hd:Vals dvs ds)(hx:fm CX X E)
  (ha:PA X (e::es) t)(hdb:(x==("__debug__":Str))=false:=by decide)(he:Cv (e::es) X.env=(false,Cp e X.env)::Cv es X.env:=by rfl)(hpl:(Cu pos (Cv es X.env)).any (·.1)=false:=by rfl):
  PE X (.Call (.Name x p) (e::es) [] pos) (Hn C sp dvs E t):=by
 intro pins s σ H Q I h
 refine CZ (gZ I hg hm ?_ hdb)
 refine PySem.W.callWith_K (h₀:=X.base) I.ok.mod.kin M.kp (thn (ha pos pins s σ H _ I h) fun us s1 ⟨vs,H1,I1,r,q⟩=>⟨I1.kIn,?_⟩) he hpl
 exact ms M F hr hb hd hx I1 r q
theorem rD (M:Mk X.K C f)(F:FnOk X.prog X.w X.K X.mg X.base CX k f fd ps sp)(hr:Room (k+1) X.A)(hg:Gl X x)(hm:X.mg x=some (.ref C))(hb:Binds X.K fd ps ds)(hd:Vals dvs ds)(hx:fm CX X E)
  (hdb:(x==("__debug__":Str))=false:=by decide):PE X (.Call (.Name x p) [] [] pos) (Hn C sp dvs E Hq):=by
 intro pins s σ H Q I h
 refine CZ (gZ I hg hm ?_ hdb)
 exact PySem.W.callWith_K0 I.kIn M.kp (ms (us:=[]) M F hr hb hd hx I .nil h)
end
section
variable {X:Cx}{CX:CXT}{k:Nat}{f C:B5}{fd:CW}{ps ks:List Str}{sp:Sp}{E:XK}{x m:Str}{p pos apos kpos:Ct}{e o:Expr}{es:List Expr}{kws:List C0}{te ta:TE}{t tk:TA}{nm:Option Str}
variable {g:List BZ->List BZ->List BZ}{gV:List V->List V->List V}
end
structure Dm (N P:List Str)(sc:Cn):Prop where
 kind:sc.kind=.function
 co:sc.isCoroutine=false
 gen:sc.isGenerator=false
 nd:N.Nodup
 pre:N.take P.length=P
 par: ∀x∈P,sc.names.lookup x=some .local \/sc.names.lookup x=some .cell
 nofree: ∀y∈sc.names,y.2≠.free
theorem ky {kindOf:Str->Option C1}{x:Str}: ∀ {binds:List (Str×BZ)}{m:Str->Option BZ},(∀v,(x,v) ∉ binds)->bindL kindOf binds m x=m x
 |[],_,_=>rfl
 |(n,v)::r,m,h=>by
  unfold bindL
  rw[ky fun w hw=>h w (zK _ hw)]
  split
  ·have:x≠n:=by rintro rfl;exact h v zB
   simp [this]
  ·rfl
theorem kA {kindOf:Str->Option C1}{x:Str}: ∀ {binds:List (Str×BZ)}{m:Str->Option BZ},(∀v,(x,v) ∉ binds)->bindC kindOf binds m x=m x
 |[],_,_=>rfl
 |(n,v)::r,m,h=>by
  unfold bindC
  rw[kA fun w hw=>h w (zK _ hw)]
  split
  ·rfl
  ·have:x≠n:=by rintro rfl;exact h v zB
   simp [this]
theorem kz {kindOf:Str->Option C1}{x:Str}{v:BZ}: ∀ {P:List Str}{vs:List BZ}{i:Nat}{m:Str->Option BZ},P.Nodup->P[i]?=some x->vs[i]?=some v->kindOf x=some .local ->
  bindL kindOf (P.zip vs) m x=some v
 |[],_,_,_,_,h,_,_=>by simp at h
 |_::_,[],_,_,_,_,h,_=>by simp at h
 |p::P,w::vs,0,m,nd,h1,h2,hk=>by
  simp at h1 h2;subst h1;subst h2
  show bindL kindOf ((p,w)::P.zip vs) m p=_
  unfold bindL
  rw[ky fun v hv=>(Ar.mp nd).1 (AN hv).1,if_pos hk]
  simp
 |p::P,w::vs,i+1,m,nd,h1,h2,hk=>by
  show bindL kindOf ((p,w)::P.zip vs) m x=_
  unfold bindL
  exact kz (i:=i) (Ar.mp nd).2 (by simpa using h1) (by simpa using h2) hk
theorem kB {kindOf:Str->Option C1}{x:Str}{v:BZ}: ∀ {P:List Str}{vs:List BZ}{i:Nat}{m:Str->Option BZ},P.Nodup->P[i]?=some x->vs[i]?=some v->kindOf x≠some .local ->
  bindC kindOf (P.zip vs) m x=some v
 |[],_,_,_,_,h,_,_=>by simp at h
 |_::_,[],_,_,_,_,h,_=>by simp at h
 |p::P,w::vs,0,m,nd,h1,h2,hk=>by
  simp at h1 h2;subst h1;subst h2
  show bindC kindOf ((p,w)::P.zip vs) m p=_
  unfold bindC
  rw[kA fun v hv=>(Ar.mp nd).1 (AN hv).1,if_neg hk]
  simp
 |p::P,w::vs,i+1,m,nd,h1,h2,hk=>by
  show bindC kindOf ((p,w)::P.zip vs) m x=_
  unfold bindC
  exact kB (i:=i) (Ar.mp nd).2 (by simpa using h1) (by simpa using h2) hk
def Hd (N:List Str)(vs:List V):St:=vs.map some++List.replicate (N.length - vs.length) none
def DU (CX:CXT)(P:B2)(w:B3)(K:PySem.W.Frag)(mg:Str->Option BZ)(base:B4)(N:List Str)(qual:Str)(scope:Cn)(f:B5)(cd:BZ)(A:B8)(outer:List Env)(s:B6)(H:Hp)(E:XK):Cx where
 prog:=P
 w:=w
 K:=K
 mg:=mg
 base:=base
 A:=A.deeper (C2 qual scope s.heap.objs.size f cd)
 N:=N
 s₀:=s
 H₀:=H
 env:=C2 qual scope s.heap.objs.size f cd
 outer:=outer
 stack:=C2 qual scope s.heap.objs.size f cd::outer
 ex:=[]
 calm:=true
 fn:=fun _=>true
 pn:=[]
 xe:=fun e s'=>Ca (Cb P w) (A.deeper (C2 qual scope s.heap.objs.size f cd)) (leaving (C2 qual scope s.heap.objs.size f cd) e) (fun _ s''=>CX outer H s E e s'') (fun e' s''=>CX outer H s E e' s'') s'
theorem nA {sc:Cn}{n:Nat}{x:Str}(h:sc.names.lookup x=some .cell): ∃c,(cellsFrom n sc.names []).lookup x=some c:=by
 have q:=PySem.W.cellsFrom_some sc.names n [] (.inl h)
 exact Option.isSome_iff_exists.mp q
theorem qt {CX:CXT}{P:B2}{w:B3}{K:PySem.W.Frag}{mg:Str->Option BZ}{base:B4}{N ps:List Str}{qual:Str}{scope:Cn}{f:B5}{cd:BZ}{A:B8}{outer:List Env}{s s1:B6}{H:Hp}{E:XK}{us:List BZ}{vs:List V}
  (S:Dm N ps scope)(hd:A.handled=none)(e0:Env0 P w K mg base A outer s H)(hl:vs.length=ps.length)(r:Vals vs us)
  (x:InCallC s s.heap.objs.size (bindL (C2 qual scope s.heap.objs.size f cd).kindOf (ps.zip us) fun _=>none) (cellsFrom (s.heap.objs.size+1) scope.names []) (bindC (C2 qual scope s.heap.objs.size f cd).kindOf (ps.zip us) fun _=>none) s1):
  Inv (DU CX P w K mg base N qual scope f cd A outer s H E) [] (Hd N vs) H s1:=by
 have hpl:ps.length<=N.length:=by have:=congrArg List.length S.pre;rw[z7] at this;omega
 obtain⟨h1,tk,rfl,hk⟩:=x.done
 have noA: ∀b:B5,b ∉ (DU CX P w K mg base N qual scope f cd A outer s H E).ex:=fun b z=>absurd (show b∈([]:List B5) from z) (by simp)
 refine⟨⟨e0.mod,S.kind,rfl,rfl,zu _,fun y z c h1 h2=>?_,fun y hy=>?_,fun y c _ h=>?_,fun _=>hd,B8.frames_deeper e0.frames,.inr ⟨rfl,rfl⟩,fun b z=>absurd z (noA b),e0.bs,e0.bsz,fun b _ _=>noA b,fun b z=>absurd z (noA b),e0.funs,e0.frf⟩,
  rfl,e0.bare,Un.kept hk,⟨_,x.toInCall.ns,fun i y v h1 h2 h3=>?_⟩,fun y c h=>⟨_,x.cell y c h⟩,e0.hok.fresh (zu _),fun y c h=>?_,fun p hp=>absurd (show p∈([]:List (B5×B7)) from hp) (by simp),e0.hok.kept hk,?_⟩
 ·exact name_of_addr x.apart (PySem.mem_of_lookup h1) (PySem.mem_of_lookup h2)
 ·have hy:scope.names.lookup y=some .cell\/scope.names.lookup y=some .free:=hy
  rcases hy with hy|hy
  ·exact nA hy
  ·exact absurd rfl (S.nofree _ (PySem.mem_of_lookup hy))
 ·exact AM (x.above y c (PySem.mem_of_lookup h))
 ·have hi:i<vs.length:=by
   unfold Hd at h2
   by_cases hi:i<vs.length
   ·exact hi
   ·rw[As (by simpa using hi)] at h2
    rw[Bd] at h2
    split at h2<;>cases h2
  have ha:vs[i]?=some v:=by
   unfold Hd at h2
   rw[Aa (by simpa using hi),zG] at h2
   cases e:vs[i]? with
   |none=>rw[e] at h2;cases h2
   |some a=>rw[e] at h2;cases h2;rfl
  obtain⟨u,hu,rv⟩:=r.get ha
  have hp:ps[i]?=some y:=by
   rw[<-S.pre,List.getElem?_take_of_lt (by omega)];exact h1
  have ndP:ps.Nodup:=by rw[<-S.pre];exact S.nd.sublist (AO _ _)
  refine⟨u,rv,?_⟩
  rcases S.par y (Ad hp) with k|k
  ·exact .inl ⟨k,kz ndP hp hu k⟩
  ·obtain⟨c,e⟩:=nA (n:=s.heap.objs.size+1) k
   refine .inr ⟨.inl k,c,e,?_⟩
   have q:=x.cell y c e
   rw[kB ndP hp hu (by show scope.names.lookup y≠_;rw[k];decide)] at q
   exact q
 ·exact e0.hok.fresh (AM (x.above y c (PySem.mem_of_lookup h)))
 ·unfold Hd
  show _=N.length
  rw[zv,zr,At]
  omega
theorem vB {CX:CXT}{P:B2}{w:B3}{K:PySem.W.Frag}{mg:Str->Option BZ}{base:B4}{k:Nat}{f:B5}{name qual:Str}{params:Arguments}{body:List Cw}{scope:Cn}{dV kV doc pm cdv ct oc:BZ}{an od:Option B5}
  {osl:Array (Option BZ)}{N ps:List Str}{sp:Sp}(lk:K.lookup f=some ⟨oc,od,.func (fnOf name qual params body scope dV kV doc pm an cdv ct),osl⟩)(hcd:codeIn K cdv qual=true)(S:Dm N ps scope)
  (len: ∀vs H Q E,sp vs H Q E->vs.length=ps.length)
  (hbody: ∀ (A:B8) (outer:List Env) (s:B6) (H:Hp) (vs:List V) (Q:VK) (E:XK),Room k (A.deeper (C2 qual scope s.heap.objs.size f cdv))->sp vs H Q E->
   ∃t,PSs (DU CX P w K mg base N qual scope f cdv A outer s H E) body t/\t {nx:=fun _ H'=>Q .non H',rt:=Q} (Hd N vs) H):
  FnOk P w K mg base CX (k+1) f (fnOf name qual params body scope dV kV doc pm an cdv ct) ps sp:=by
 refine⟨len,fun A outer s H args us vs Q E hr e0 hb r hsp=>?_⟩
 have hl:=len _ _ _ _ hsp
 have KX:K.In s.heap:=e0.mod.kin.keeps fun b o e=>(e0.bs b o e).1
 have lim:s.heap.NoLimit:=e0.mod.nolimit.keeps fun b o e=>(e0.bs b o e).1
 have hkind: ∀y∈ps.zip us,scope.names.lookup y.1=some .local \/(scope.names.lookup y.1=some .cell/\((cellsFrom (s.heap.objs.size+1) scope.names []).lookup y.1).isSome=true):=fun⟨n,v⟩ hy=>by
  rcases S.par n (AN hy).1 with q|q
  ·exact .inl q
  ·exact .inr ⟨q,PySem.W.cellsFrom_some _ _ _ (.inl q)⟩
 refine codeAny_call_function hr.depth (KX _ _ lk) rfl S.co S.gen rfl (PySem.W.codeRec_of KX hcd) (hb _ _ _ _ ?_)
 refine wpAny_newFunctionEnv_cells S.kind hkind fun env he s1 x=>?_
 subst he
 refine⟨lim.keeps x.toInCall.keep,codeAny_func ?_⟩
 obtain⟨t,ht,hq⟩:=hbody A outer s H vs Q E (hr.deeper _) hsp
 have I:Inv (DU CX P w K mg base N qual scope f cdv A outer s H E) [] (Hd N vs) H s1:=qt S hr.hd e0 hl r x
 refine Cy (ht [] s1 (Hd N vs) H _ I hq) (fun fl s' hs=>?_) fun e s' hs=>hs
 have fin: ∀ {σ':St}{H':Hp}{v:V}{u:BZ},Inv (DU CX P w K mg base N qual scope f cdv A outer s H E) [] σ' H' s'->RelV v u->Q v H'->CE outer P w H s Q u s':=
  fun{σ' H' v u} J rv q=>⟨v,H',J.os,J.bare,J.base,J.hok,rv,q⟩
 cases fl with
 |ret u=>
  obtain⟨v,σ',H',J,rv,q⟩:=hs
  exact fin J rv q
 |next=>
  obtain⟨σ',H',J,q⟩:=hs
  exact fin (v:=V.non) (u:=BZ.none) J rfl q
 |brk=>
  obtain⟨_,_,_,q⟩:=hs
  exact False.elim q
 |cont=>
  obtain⟨_,_,_,q⟩:=hs
  exact False.elim q
end
section
section
variable {X:Cx}{x:Str}{p pos:Ct}{e:Expr}{es:List Expr}{t:TA}{id T:String}{r:List V->Hp->VK->Prop}
def tCB (r:List V->Hp->VK->Prop)(t:TA):TE:=fun σ H Q=>t σ H fun vs H1=>r vs H1 Q
theorem cP (hc:CallR X (.builtin id) r)(hg:Gl X x)(hm:X.mg x=none)(hv:Ck x=some (.builtin id))(ha:PA X (e::es) t)(hn:x≠ "__name__":=by decide)(hdb:(x==("__debug__":Str))=false:=by decide)
  (he:Cv (e::es) X.env=(false,Cp e X.env)::Cv es X.env:=by rfl)(hpl:(Cu pos (Cv es X.env)).any (·.1)=false:=by rfl):PE X (.Call (.Name x p) (e::es) [] pos) (tCB r t):=by
 intro pins s σ H Q I h
 refine CZ (jB I hg hm hv ?_ hn hdb)
 exact PyProof.Rows.callWith_builtin1 (thn (ha pos pins s σ H _ I h) fun us s1 ⟨vs,H1,I1,r1,q1⟩=>hc pins s1 σ H1 vs us Q I1 r1 q1) he hpl
theorem kf (hc:CallR X (.type T) r)(hg:Gl X x)(hm:X.mg x=none)(hv:Ck x=some (.type T))(ha:PA X (e::es) t)(hn:x≠ "__name__":=by decide)(hdb:(x==("__debug__":Str))=false:=by decide)
  (he:Cv (e::es) X.env=(false,Cp e X.env)::Cv es X.env:=by rfl)(hpl:(Cu pos (Cv es X.env)).any (·.1)=false:=by rfl):PE X (.Call (.Name x p) (e::es) [] pos) (tCB r t):=by
 intro pins s σ H Q I h
 refine CZ (jB I hg hm hv ?_ hn hdb)
 exact PyProof.Rows.callWith_type1 (thn (ha pos pins s σ H _ I h) fun us s1 ⟨vs,H1,I1,r1,q1⟩=>hc pins s1 σ H1 vs us Q I1 r1 q1) he hpl
end
end
end L2
namespace HT
open PySem PyProof.Rows
section
open PySem.SeqAt
open PySem.AutoSeq1 (wpAny_loadPart')
open PySem.MeetsSeq PySem.MeetsSeq2 PySem.MeetsSeq3
end
section
variable {prog:B2}{w:B3}{A:B8}{E:BZ->B6->Prop}{s:B6}
theorem cat_tup {t b:B5}{vs ws:List BZ}{Q:BZ->B6->Prop}(ht:IsTup s.heap t vs.toArray)(hb:IsTup s.heap b ws.toArray)(hv:vs≠ [])
  (h1:ws=[]->Q (.ref t) s)(h2:ws≠ []->Q (.ref s.heap.objs.size) {s with heap:=s.heap.push {cls:=.type "tuple",data:=.seq (vs++ws).toArray}})
  (hsz:vs.length+ws.length<=sizeLine):Ca (Cb prog w) A (CO .Add (.ref t) (.ref b)) Q E s:=by
 obtain⟨⟨cls,dd,data,sl⟩,ho,hc,n,hd⟩:=id ht
 obtain⟨⟨cls2,dd2,data2,sl2⟩,ho2,hc2,n2,hd2⟩:=id hb
 simp only at hc hd hc2 hd2
 subst hc hd hc2 hd2
 have e:vs.toArray++ws.toArray=(vs++ws).toArray:=by simp
 by_cases hw:ws=[]
 ·exact concat_meets ⟨_,ho,rfl⟩ ⟨_,ho2,rfl⟩ noFill_tuple_add seq_tuple_add PySem.F.slot_tuple_add PySem.F.entry_tuple_add (PySem.F.args_tuple_add_2 _ _)
   (tuple_addW1 t b vs.toArray ws.toArray n n2 dd dd2 sl sl2 (by simpa using hv) (by simp [hw])) ⟨ho,ho2,h1 hw⟩
 ·refine concat_meets ⟨_,ho,rfl⟩ ⟨_,ho2,rfl⟩ noFill_tuple_add seq_tuple_add PySem.F.slot_tuple_add PySem.F.entry_tuple_add (PySem.F.args_tuple_add_2 _ _)
   (tuple_addW2 t b vs.toArray ws.toArray n n2 dd dd2 sl sl2 (by simpa using hv) (by simpa using hw) (by rw[zF,zF];exact hsz)) ⟨ho,ho2,?_⟩
  rw[e]
  exact h2 hw
noncomputable def sIx (n d:Nat):Option Int->Nat
 |none=>d
 |some v=>if v<0 then (v+(n:Int)).toNat else min v.toNat n
theorem vZ (n d:Nat)(hd:d<=n)(o:Option Int):sIx n d o<=n:=by
 cases o with
 |none=>exact hd
 |some v=>
  show (if v<0 then (v+(n:Int)).toNat else min v.toNat n)<=n
  by_cases hv:v<0
  ·rw[if_pos hv];omega
  ·rw[if_neg hv];exact Nat.min_le_right _ _
theorem pL (v:Int)(n d:Nat):(if v<0 then max (v+(n:Int)) 0 else min v (n:Int))=((sIx n d (some v):Nat):Int):=by
 show (if v<0 then max (v+(n:Int)) 0 else min v (n:Int))=(((if v<0 then (v+(n:Int)).toNat else min v.toNat n):Nat):Int)
 by_cases hv:v<0
 ·simp only[if_pos hv];omega
 ·simp only[if_neg hv];omega
theorem oO (lo hi:Option Int)(n:Nat):B1.Slice.sliceAdjust lo hi 1 (n:Int)=(((sIx n 0 lo:Nat):Int),((sIx n n hi:Nat):Int)):=by
 have h1: ¬((1:Int)<0):=by omega
 unfold B1.Slice.sliceAdjust
 simp only[h1,if_false]
 refine Prod.ext ?_ ?_
 ·cases lo with
  |none=>rfl
  |some v=>exact pL v n 0
 ·cases hi with
  |none=>rfl
  |some v=>exact pL v n n
theorem oo (i j:Nat):B1.Slice.slicePlaces (i:Int) (j:Int) 1=j - i:=by
 unfold B1.Slice.slicePlaces
 have h1:(1:Int)>0:=by omega
 simp only[h1,if_true,Int.ediv_one]
 split<;>omega
theorem ja {v:BZ}{o:Option Int}{Q:Option Int->B6->Prop}(p:IsPart v o)(h:Q o s):Ca (Cb prog w) A (B1.Slice.slicePartIndex v) Q E s:=by
 cases p with
 |none=>exact slicePart_none h
 |int i t=>exact slicePart_int h
theorem ip {sl:B5}{vl vu:BZ}{lo hi:Option Int}{n:Nat}{Q:Int×Int×Nat->B6->Prop}(hs:s.heap.IsSliceOf sl vl vu .none)(pl:IsPart vl lo)(pu:IsPart vu hi)
  (h:Q (((sIx n 0 lo:Nat):Int),1,sIx n n hi - sIx n 0 lo) s):Ca (Cb prog w) A (B1.Slice.sliceApplied (.ref sl) (pure (n:Int))) Q E s:=by
 obtain⟨os,hos,hcs,hds⟩:=id hs
 unfold B1.Slice.sliceApplied B1.Slice.sliceFields
 refine Cc (Cc (wpAny_field hos hds (x:=vl) rfl (Cc (wpAny_field hos hds (x:=vu) rfl (Cc (wpAny_field hos hds (x:=.none) rfl (Cd ?_)))))))
 refine Cc (slicePart_none ?_)
 show Ca _ _ (if ((1:Int)==0)=true then _ else _) _ _ s
 rw[if_neg (by decide)]
 refine Cc (ja pl (Cc (ja pu (Cc (Cd ?_)))))
 show Ca _ _ (match B1.Slice.sliceAdjust lo hi 1 (n:Int) with|(lo,hi)=>pure (lo,(1:Int),B1.Slice.slicePlaces lo hi 1)) _ _ s
 rw[oO lo hi n]
 show Ca _ _ (pure (((sIx n 0 lo:Nat):Int),(1:Int),B1.Slice.slicePlaces ((sIx n 0 lo:Nat):Int) ((sIx n n hi:Nat):Int) 1)) _ _ s
 rw[oo]
 exact Cd h
theorem rB (xs:Array BZ)(i k:Nat):((List.range k).filterMap fun (m:Nat)=>xs[((i:Int)+(m:Int) * 1).toNat]?).toArray=((xs.toList.drop i).take k).toArray:=by
 have e:(fun (m:Nat)=>xs[((i:Int)+(m:Int) * 1).toNat]?)=fun m=>xs[i+m]?:=by
  funext m
  have:((i:Int)+(m:Int) * 1).toNat=i+m:=by omega
  rw[this]
 rw[e]
 have:=pick_run xs i k
 rw[List.filterMap_map] at this
 have e2:((fun x=>xs[x]?)∘fun x=>i+x)=fun m=>xs[i+m]?:=rfl
 rw[e2] at this
 rw[this]
theorem getItem_tuple_cut {t sl:B5}{items:Array BZ}{vl vu:BZ}{lo hi:Option Int}{Q:BZ->B6->Prop}(ht:IsTup s.heap t items)(hs:s.heap.IsSliceOf sl vl vu .none)(pl:IsPart vl lo)(pu:IsPart vu hi)
  (hw: ¬(sIx items.size 0 lo=0/\sIx items.size items.size hi=items.size))
  (h:Q (.ref s.heap.objs.size) {s with heap:=s.heap.push {cls:=.type "tuple",data:=.seq ((items.toList.drop (sIx items.size 0 lo)).take (sIx items.size items.size hi - sIx items.size 0 lo)).toArray}})
  (hsz:items.size<=sizeLine):Ca (Cb prog w) A (getItem (.ref t) (.ref sl)) Q E s:=by
 have htake:sizeOk (.seq ((items.toList.drop (sIx items.size 0 lo)).take (sIx items.size items.size hi - sIx items.size 0 lo)).toArray):=by
  show ((items.toList.drop (sIx items.size 0 lo)).take (sIx items.size items.size hi - sIx items.size 0 lo)).toArray.size<=sizeLine
  rw[zF,z7,Al,AG]
  omega
 have hj:sIx items.size items.size hi<=items.size:=vZ _ _ (zu _) hi
 obtain⟨os,hos,hcs,hds⟩:=id hs
 have hTs:s.TypeIs (.ref sl) "slice":=⟨os,hos,hcs⟩
 unfold getItem
 try with_reducible refine Ce ?_
 first|refine Cc (Cd ?_)|skip
 refine Cc (wpAny_sequenceKey ht.typeIs (by decide) ?_)
 refine Cc (wpAny_callSpecial?_slot (name:=Str.ofString "__getitem__") ht.typeIs PyProof.Rows.slot_tuple_getitem
  (wpAny_call_entry PyProof.Rows.slot_tuple_getitem ht.typeIs entry_tuple_getitem ?_ (args_tuple_getitem _ _)))
 show Ca _ _ (B1.Tuple.tupleItemsOf (.ref t)>>=_) _ _ s
 refine Cc (tupleItemsOf_ ht ?_)
 refine Cc (wpAny_typeOf hTs ?_)
 rw[if_pos (by decide)]
 refine Cc (ip hs pl pu ?_)
 have hno: ¬((((sIx items.size 0 lo:Nat):Int)==0 && (1:Int)==1 && (sIx items.size items.size hi - sIx items.size 0 lo)==items.size)=true):=by
  intro q
  rw[zI,zI] at q
  have q1:((sIx items.size 0 lo:Nat):Int)=0:=eq_of_beq q.1.1
  have q2:sIx items.size items.size hi - sIx items.size 0 lo=items.size:=eq_of_beq q.2
  exact hw ⟨by omega,by omega⟩
 show Ca _ _ (if (((sIx items.size 0 lo:Nat):Int)==0 && (1:Int)==1 && (sIx items.size items.size hi - sIx items.size 0 lo)==items.size)=true then _ else _) _ _ s
 rw[if_neg hno,rB]
 first
  |exact Cc (m:=B1.Tuple.tupleExact _) (C3 (Cd ⟨_,rfl,Cd h⟩) htake)
  |exact Cc (m:=B1.Tuple.tupleExact _) (C3 (Cc (Cd (Cd ⟨_,rfl,Cd h⟩))) htake)
  |exact Cc (Cc (m:=B1.Tuple.tupleExact _) (C3 (Cd (Cd ⟨_,rfl,Cd h⟩)) htake))
  |exact Cc (Cc (m:=B1.Tuple.tupleExact _) (C3 (Cd ⟨_,rfl,Cd h⟩) htake))
end
end HT
namespace L2
open PySem PySem.Spec PyProof.Rows
noncomputable abbrev TO:=St->Hp->(Option Int->Hp->Prop)->Prop
def PO (X:Cx)(e:Option Expr)(t:TO):Prop:=
 ∀ (pins:List (B5×B7)) (s:B6) (σ:St) (H:Hp) (Q:Option Int->Hp->Prop),Inv X pins σ H s->t σ H Q->
   Ca (Cb X.prog X.w) X.A (evalPart e X.env) (fun u s'=> ∃o H',Inv X pins σ H' s'/\IsPart u o/\Q o H') X.xe s
def ti:TO:=fun _ H Q=>Q none H
def tPart (t:TE):TO:=fun σ H Q=>t σ H fun x H1=> ∃i,x=.int i/\Q (some i) H1
section
variable {X:Cx}{e:Expr}{te:TE}{lo hi:Option Expr}{tl th:TO}{pos p2:Ct}
theorem Ga:PO X none ti:=by
 intro pins s σ H Q I h
 rw[evalPart_none]
 exact Cd ⟨none,H,I,.none,h⟩
theorem kW (h:PE X e te):PO X (some e) (tPart te):=by
 intro pins s σ H Q I hw
 rw[evalPart_some]
 refine thn (h pins s σ H _ I hw) fun u s1 qz=>?_
 obtain⟨x,H1,I1,r1,q1⟩:=qz
 obtain⟨i,rfl,q⟩:=q1
 obtain⟨t,rfl⟩:=r1
 exact⟨some i,H1,I1,.int i t,q⟩
def SlR (X:Cx)(r:V->Option Int->Option Int->Hp->VK->Prop):Prop:=
 ∀ (pins:List (B5×B7)) (s:B6) (σ:St) (H:Hp) (x:V) (v vl vu:BZ) (lo hi:Option Int) (sl:B5) (Q:VK),Inv X pins σ H s->RelV x v->s.heap.IsSliceOf sl vl vu .none->IsPart vl lo->IsPart vu hi->r x lo hi H Q->
   ∃T id,typeLookup (.type T) "__getitem__"=pure (some (.builtin id))/\s.TypeIs v T/\Ca (Cb X.prog X.w) X.A (getItem v (.ref sl)) (EP X pins σ Q) X.xe s
theorem SlR.or {r r':V->Option Int->Option Int->Hp->VK->Prop}(h:SlR X r)(h':SlR X r'):SlR X (fun x lo hi H Q=>r x lo hi H Q\/r' x lo hi H Q):=by
 intro pins s σ H x v vl vu lo hi sl Q I rx hs pl pu q
 rcases q with q|q
 ·exact h pins s σ H x v vl vu lo hi sl Q I rx hs pl pu q
 ·exact h' pins s σ H x v vl vu lo hi sl Q I rx hs pl pu q
def tSl (r:V->Option Int->Option Int->Hp->VK->Prop)(te:TE)(tl th:TO):TE:=fun σ H Q=>te σ H fun x H1=>tl σ H1 fun l H2=>th σ H2 fun u H3=>r x l u H3 Q
theorem mw {r:V->Option Int->Option Int->Hp->VK->Prop}(hr:SlR X r)(he:PE X e te)(hl:PO X lo tl)(hu:PO X hi th):PE X (.Subscript e (.Slice lo hi none p2) pos) (tSl r te tl th):=by
 intro pins s σ H Q I h
 refine Subscript_ (thn (he pins s σ H _ I h) fun v s1 qz=>?_)
 obtain⟨x,H1,I1,r1,q1⟩:=qz
 refine wpAny_Slice (thn (hl pins s1 σ H1 _ I1 q1) fun vl s2 ⟨l,H2,I2,pl,q2⟩=>thn (hu pins s2 σ H2 _ I2 q2) fun vu s3 qz=>?_)
 obtain⟨u,H3,I3,pu,q3⟩:=qz
 rw[evalPart_none]
 refine Cd ?_
 have I4:Inv X pins σ H3 {s3 with heap:=s3.heap.push {cls:=.type "slice",data:=.fields #[vl,vu,.none]}}:=I3.kept (t':=s3.toks) fun b ob q=>zP _ q
 obtain⟨T,id,hT,ht,hg⟩:=hr pins {s3 with heap:=s3.heap.push {cls:=.type "slice",data:=.fields #[vl,vu,.none]}} σ H3 x v vl vu l u s3.heap.objs.size Q I4 r1 (B4.IsSliceOf.new ..) pl pu q3
 show Ca (Cb X.prog X.w) X.A (subscriptTail e (.Slice lo hi none p2) v (.ref s3.heap.objs.size)) (EP X pins σ Q) X.xe {s3 with heap:=s3.heap.push {cls:=.type "slice",data:=.fields #[vl,vu,.none]}}
 exact tail_any (ops:=[.ref s3.heap.objs.size,v]) ht hT hg (by with_unfolding_all rfl)
def DR (xs:List V)(lo hi:Option Int):List V:=(xs.drop (HT.sIx xs.length 0 lo)).take (HT.sIx xs.length xs.length hi - HT.sIx xs.length 0 lo)
theorem iJ (xs:List V)(lo hi:Option Int):(DR xs lo hi).length<=xs.length:=by
 unfold DR
 rw[z7,Al]
 omega
def rSlT (K:PySem.W.Frag):V->Option Int->Option Int->Hp->VK->Prop:=fun x lo hi H Q=> ∃a xs,x=.ref a/\SqT K H a xs/\
 ¬(HT.sIx xs.length 0 lo=0/\HT.sIx xs.length xs.length hi=xs.length)/\ ∀p,H p=none->Q (.ref p) (upd H p (.tup (DR xs lo hi)))
theorem GY:SlR X (rSlT X.K):=by
 intro pins s σ H x v vl vu lo hi sl Q I rx hs pl pu h
 obtain⟨a,xs,rfl,hx,hw,q⟩:=h
 cases rx
 obtain⟨its,r,ht,hz⟩:=I.tuple hx
 have hlen:its.toArray.size=xs.length:=by rw[zF];exact r.length.symm
 refine⟨"tuple",_,PyProof.Rows.slot_tuple_getitem.lookup,ht.typeIs,?_⟩
 refine HT.getItem_tuple_cut ht hs pl pu (by rw[hlen];exact hw) ?_ (by rw[hlen];exact hz)
 rw[hlen]
 refine⟨.ref s.heap.objs.size,_,I.laid (t':=s.toks) (o:=.tup (DR xs lo hi)) (fun b ob q=>zP _ q) (zu _) ?_,rfl,q _ (I.hok.fresh (zu _))⟩
 exact⟨zJ (iJ xs lo hi) hz,_,(r.drop (HT.sIx xs.length 0 lo)).take (HT.sIx xs.length xs.length hi - HT.sIx xs.length 0 lo),IsTupD.new _ _⟩
def Gj (K:PySem.W.Frag):R2:=fun x y H Q=> ∃a b xs ys,x=.ref a/\y=.ref b/\SqT K H a xs/\SqT K H b ys/\xs≠ []/\xs.length+ys.length<=sizeLine/\
 (ys=[]->Q (.ref a) H)/\(ys≠ []-> ∀p,H p=none->Q (.ref p) (upd H p (.tup (xs++ys))))
theorem Vals.nil_iff {xs:List V}{us:List BZ}(r:Vals xs us):us=[]↔xs=[]:=by
 cases r with
 |nil=>simp
 |cons _ _=>simp
theorem FG:OpR X (CO .Add) (Gj X.K):=by
 intro pins s σ H x y v u Q I rx ry h
 obtain⟨a,b,xs,ys,rfl,rfl,ha,hb,hx,hz,q1,q2⟩:=h
 cases rx
 cases ry
 obtain⟨its,r1,p1,_⟩:=I.tuple ha
 obtain⟨its2,r2,p2,_⟩:=I.tuple hb
 refine HT.cat_tup p1 p2 (fun z=>hx (r1.nil_iff.mp z)) (fun z=>⟨.ref a,H,I,rfl,q1 (r2.nil_iff.mp z)⟩) (fun z=>?_) (by rw[<-r1.length,<-r2.length];exact hz)
 refine⟨.ref s.heap.objs.size,_,I.laid (t':=s.toks) (o:=.tup (xs++ys)) (fun b ob q=>zP _ q) (zu _) ?_,rfl,q2 (fun w=>z (r2.nil_iff.mpr w)) _ (I.hok.fresh (zu _))⟩
 exact⟨by rw[zv];exact hz,_,r1.append r2,IsTupD.new _ _⟩
end
section
noncomputable def ixN (n:Nat)(i:Int):Option Nat:=if 0<=i then (if i<n then some i.toNat else none) else if -(n:Int)<=i then some (i+n).toNat else none
def atI {α:Type}(xs:List α)(i:Int):Option α:=(ixN xs.length i).bind fun j=>xs[j]?
theorem uQ {n:Nat}{i:Int}{j:Nat}(h:ixN n i=some j):seqIndex? i n=some j/\j<n/\ -(n:Int)<=i/\i<n:=by
 unfold ixN at h
 by_cases h0:0<=i
 ·rw[if_pos h0] at h
  by_cases h1:i<n
  ·rw[if_pos h1] at h
   have e:i.toNat=j:=Option.some.inj h
   exact⟨by rw[seqIndex_of h0 h1,e],by omega,by omega,h1⟩
  ·rw[if_neg h1] at h;cases h
 ·rw[if_neg h0] at h
  by_cases h1: -(n:Int)<=i
  ·rw[if_pos h1] at h
   have e:(i+n).toNat=j:=Option.some.inj h
   exact⟨by rw[seqIndex_neg (by omega) h1,e],by omega,h1,by omega⟩
  ·rw[if_neg h1] at h;cases h
theorem lQ {α:Type}{xs:List α}{i:Int}{v:α}(h:atI xs i=some v): ∃j,seqIndex? i xs.length=some j/\xs[j]?=some v/\j<xs.length/\ -(xs.length:Int)<=i/\i<xs.length:=by
 unfold atI at h
 cases e:ixN xs.length i with
 |none=>rw[e] at h;cases h
 |some j=>
  rw[e] at h
  obtain⟨h1,h2,h3,h4⟩:=uQ e
  exact⟨j,h1,h,h2,h3,h4⟩
theorem i6 {α:Type}{xs:List α}{j:Nat}{v:α}(h:xs[j]?=some v):atI xs (j:Int)=some v:=by
 have hj:j<xs.length:=(zO.mp h).1
 have e:ixN xs.length (j:Int)=some j:=by
  unfold ixN
  rw[if_pos (by omega),if_pos (by omega)];simp
 unfold atI;rw[e];exact h
theorem sS {α:Type}(xs:List α)(v:α):atI (xs++[v]) (-1)=some v:=by
 have hl:(xs++[v]).length=xs.length+1:=by simp
 have e:ixN (xs++[v]).length (-1)=some xs.length:=by
  unfold ixN
  rw[hl,if_neg (by decide),if_pos (by omega)]
  congr 1
  omega
 unfold atI
 rw[e]
 show (xs++[v])[xs.length]?=some v
 simp
noncomputable def lT (b:Expr):Prop:= ∀o i,subscripted b false o i=operate [o,i] (getItem o i)
def IxR (X:Cx)(r:R2):Prop:=
 ∀ (value slice:Expr) (pins:List (B5×B7)) (s:B6) (σ:St) (H:Hp) (x y:V) (v u:BZ) (Q:VK),Inv X pins σ H s->RelV x v->RelV y u->r x y H Q->
   subscripted slice false v u=operate [v,u] (getItem v u)->Ca (Cb X.prog X.w) X.A (subscriptTail value slice v u) (EP X pins σ Q) X.xe s
def MtR (X:Cx)(id:String)(r:V->List V->Hp->VK->Prop):Prop:=
 ∀ (pins:List (B5×B7)) (s:B6) (σ:St) (H:Hp) (x:V) (xs:List V) (v:BZ) (us:List BZ) (Q:VK),Inv X pins σ H s->RelV x v->Vals xs us->r x xs H Q->
   Ca (Cb X.prog X.w) X.A (call (.builtin id) (v::us)) (EP X pins σ Q) X.xe s
section
variable {X:Cx}{a b:Expr}{ta tb:TE}{pos:Ct}
theorem IxR.or {r r':R2}(h:IxR X r)(h':IxR X r'):IxR X (fun x y H Q=>r x y H Q\/r' x y H Q):=by
 intro value slice pins s σ H x y v u Q I rx ry q hs
 rcases q with q|q
 ·exact h value slice pins s σ H x y v u Q I rx ry q hs
 ·exact h' value slice pins s σ H x y v u Q I rx ry q hs
theorem o5 {r:R2}(hr:IxR X r)(ha:PE X a ta)(hb:PE X b tb)(hs:lT b):PE X (.Subscript a b pos) (tOp r ta tb):=by
 intro pins s σ H Q I h
 exact Subscript_ (DD ha hb I h fun v u s2 x y H2 I2 rx ry q=>hr a b pins s2 σ H2 x y v u Q I2 rx ry q (hs _ _))
def rIxL (K:PySem.W.Frag):R2:=fun x y H Q=> ∃p xs i v,x=.ref p/\y=.int i/\SqL K H p xs/\atI xs i=some v/\Q v H
def rIxT (K:PySem.W.Frag):R2:=fun x y H Q=> ∃p xs i v,x=.ref p/\y=.int i/\SqT K H p xs/\atI xs i=some v/\Q v H
def rIxS:R2:=fun x y H Q=> ∃z i c,x=.str z/\y=.int i/\z.length<=sizeLine/\atI z.cps.toList i=some c/\Q (.str ⟨#[c]⟩) H
theorem EB:IxR X (rIxL X.K):=by
 intro value slice pins s σ H x y v u Q I rx ry h hs
 obtain⟨p,xs,i,z,rfl,rfl,hq,he,q⟩:=h
 cases rx
 obtain⟨t,rfl⟩:=ry
 obtain⟨its,r,pl,hz⟩:=I.list hq
 obtain⟨j,h1,h2,h3,h4,h5⟩:=lQ he
 obtain⟨w,ew,rw'⟩:=r.get h2
 have hl:=r.length
 have hn:=iy
 have fin:EP X pins σ Q w s:=⟨z,H,I,rw',q⟩
 by_cases h0:0<=i
 ·have hj:i.toNat=j:=by
   rw[seqIndex_of h0 h5] at h1
   exact Option.some.inj h1
  exact item_listR pl.isList h0 (by omega) (by rw[hj];simpa using ew) fin hs
 ·have hj:(i+(its.toArray.size:Int)).toNat=j:=by
   rw[seqIndex_neg (by omega) h4] at h1
   rw[zF,<-hl]
   exact Option.some.inj h1
  exact subscriptTail_builtinR (x:=w) pl.isList.typeIs slot_list_getitem.lookup
   (wpAny_getItem_list_neg (Q:=fun r s'=>r=w/\EP X pins σ Q r s') pl.isList (by omega) (by rw[zF]<;>omega) (by omega) (by rw[hj];simpa using ew) ⟨rfl,fin⟩) hs
theorem ED:IxR X (rIxT X.K):=by
 intro value slice pins s σ H x y v u Q I rx ry h hs
 obtain⟨p,xs,i,z,rfl,rfl,hq,he,q⟩:=h
 cases rx
 obtain⟨t,rfl⟩:=ry
 obtain⟨its,r,pl,hz⟩:=I.tuple hq
 obtain⟨j,h1,h2,h3,h4,h5⟩:=lQ he
 obtain⟨w,ew,rw'⟩:=r.get h2
 have hl:=r.length
 have hn:=iy
 have fin:EP X pins σ Q w s:=⟨z,H,I,rw',q⟩
 exact subscriptTail_builtinR (x:=w) pl.typeIs slot_tuple_getitem.lookup
  (getItem_tuple (j:=j) (Q:=fun r s'=>r=w/\EP X pins σ Q r s') pl (by omega) (by omega) (by rw[zF,<-hl];exact h1) (by simpa using ew) ⟨rfl,fin⟩) hs
theorem lE:IxR X rIxS:=by
 intro value slice pins s σ H x y v u Q I rx ry h hs
 obtain⟨z,i,c,rfl,rfl,hz,he,q⟩:=h
 obtain⟨t,rfl⟩:=rx
 obtain⟨t',rfl⟩:=ry
 obtain⟨j,h1,h2,h3,h4,h5⟩:=lQ he
 have hl:z.cps.toList.length=z.length:=by simp [Str.length]
 rw[hl] at h1 h4 h5
 have hn:=iy
 exact tail_any (C4 s z t) slot_str_getitem.lookup (getItem_str (c:=c) (by
  have e1:decide (i< -(2 ^ 63:Int))=false:=decide_eq_false (by omega)
  have e2:decide (i≥2 ^ 63)=false:=decide_eq_false (by omega)
  rw[e1,e2,Bool.or_false]) (by rw[h1];simpa using h2) ⟨.str ⟨#[c]⟩,H,I.tok _,⟨_,rfl⟩,q⟩) hs
def rIx (K:PySem.W.Frag):R2:=fun x y H Q=>rIxL K x y H Q\/rIxT K x y H Q\/rIxS x y H Q
theorem EC:IxR X (rIx X.K):=EB.or (ED.or lE)
theorem Inv.lst {pins:List (B5×B7)}{σ:St}{H:Hp}{s:B6}{p:B5}{xs:List V}(I:Inv X pins σ H s)(h:H p=some (.lst xs)):
  ∃ (its:List BZ) (n:Nat),Vals xs its/\s.heap.get? p=some {cls:=.type "list",data:=.seq its.toArray n}/\xs.length<=sizeLine:=by
 obtain⟨z,its,n,r,e⟩:=I.hok p _ h
 exact⟨its,n,r,e,z⟩
theorem kM (lo hi:Option Int)(n:Nat):(C5 lo hi none n).1=((HT.sIx n 0 lo:Nat):Int)/\(C5 lo hi none n).2.1=((HT.sIx n n hi:Nat):Int)/\(C5 lo hi none n).2.2=1:=by
 refine⟨?_,?_,rfl⟩
 ·cases lo with
  |none=>simp [C5,HT.sIx]
  |some i=>
   simp only[C5,HT.sIx,Be,show (1:Int)>0 by decide,if_true]
   by_cases h:i<0
   ·simp only[h,if_true]<;>omega
   ·simp only[h,if_false]<;>omega
 ·cases hi with
  |none=>simp [C5,HT.sIx]
  |some i=>
   simp only[C5,HT.sIx,Be,show (1:Int)>0 by decide,if_true]
   by_cases h:i<0
   ·simp only[h,if_true]<;>omega
   ·simp only[h,if_false]<;>omega
theorem jV (its:List BZ)(lo hi:Option Int):slicePick its.toArray lo hi none=((its.drop (HT.sIx its.length 0 lo)).take (HT.sIx its.length its.length hi - HT.sIx its.length 0 lo)).toArray:=by
 obtain⟨h1,h2,h3⟩:=kM lo hi its.toArray.size
 unfold slicePick
 rw[h1,h2,h3]
 simp only[sliceRange_one,pick_run,zF]<;>rfl
def rSlL (K:PySem.W.Frag):V->Option Int->Option Int->Hp->VK->Prop:=fun x lo hi H Q=> ∃a xs,x=.ref a/\SqL K H a xs/\ ∀p,H p=none->Q (.ref p) (upd H p (.lst (DR xs lo hi)))
theorem tz:SlR X (rSlL X.K):=by
 intro pins s σ H x v vl vu lo hi sl Q I rx hs pl pu h
 obtain⟨a,xs,rfl,hx,q⟩:=h
 cases rx
 obtain⟨its,r,ht,hz⟩:=I.list hx
 have hlen:=r.length
 refine⟨"list",_,slot_list_getitem.lookup,ht.isList.typeIs,?_⟩
 refine wpAny_getItem_list_slice ht.isList hs pl pu .none (by simp) ?_ (by rw[zF]<;>omega)
 rw[jV,<-hlen]
 refine⟨.ref s.heap.objs.size,_,I.laid (t':=s.toks) (o:=.lst (DR xs lo hi)) (fun b ob q=>zP _ q) (zu _) ?_,rfl,q _ (I.hok.fresh (zu _))⟩
 exact⟨zJ (iJ xs lo hi) hz,_,0,(r.drop (HT.sIx xs.length 0 lo)).take (HT.sIx xs.length xs.length hi - HT.sIx xs.length 0 lo),Af _ rfl⟩
noncomputable def D7:V->Bool
 |.non=>true
 |.bl _=>true
 |.int _=>true
 |.str _=>true
 |_=>false
noncomputable def eqV:V->V->Bool
 |.non,.non=>true
 |.bl a,.bl b=>a==b
 |.bl a,.int b=>(if a then 1 else 0)==b
 |.int a,.bl b=>a==(if b then 1 else 0)
 |.int a,.int b=>a==b
 |.str a,.str b=>a==b
 |_,_=>false
theorem xQ {A:B8}{s:B6}{y x:V}{u v:BZ}(ry:RelV y u)(rx:RelV x v)(fy:D7 y=true)(fx:D7 x=true):SeqAt.EqAt A s u v (eqV y x):=by
 cases y with
 |non=>
  cases ry
  cases x with
  |non=>cases rx;exact SeqAt.EqAt.same _
  |bl b=>cases rx;exact SeqAt.EqAt.none_bool b
  |int b=>obtain⟨t,rfl⟩:=rx;exact SeqAt.EqAt.none_int b t
  |str b=>obtain⟨t,rfl⟩:=rx;exact SeqAt.EqAt.none_str b t
  |_=>exact absurd (show false=true from fx) zC
 |bl a=>
  cases ry
  cases x with
  |non=>cases rx;exact SeqAt.EqAt.bool_none a
  |bl b=>cases rx;exact SeqAt.EqAt.bool_bool a b
  |int b=>obtain⟨t,rfl⟩:=rx;exact SeqAt.EqAt.bool_int a b t
  |str b=>obtain⟨t,rfl⟩:=rx;exact SeqAt.EqAt.bool_str a b t
  |_=>exact absurd (show false=true from fx) zC
 |int a=>
  obtain⟨t',rfl⟩:=ry
  cases x with
  |non=>cases rx;exact SeqAt.EqAt.int_none a t'
  |bl b=>cases rx;exact SeqAt.EqAt.int_bool a t' b
  |int b=>obtain⟨t,rfl⟩:=rx;exact SeqAt.EqAt.int_int a t' b t
  |str b=>obtain⟨t,rfl⟩:=rx;exact SeqAt.EqAt.int_str a t' b t
  |_=>exact absurd (show false=true from fx) zC
 |str a=>
  obtain⟨t',rfl⟩:=ry
  cases x with
  |non=>cases rx;exact SeqAt.EqAt.str_none a t'
  |bl b=>cases rx;exact SeqAt.EqAt.str_bool a t' b
  |int b=>obtain⟨t,rfl⟩:=rx;exact SeqAt.EqAt.str_int a t' b t
  |str b=>obtain⟨t,rfl⟩:=rx;exact SeqAt.EqAt.str_str a t' b t
  |_=>exact absurd (show false=true from fx) zC
 |_=>exact absurd (show false=true from fy) zC
def eqU (x:V)(u:BZ):Bool:=match u with
 |.none=>eqV .non x
 |.bool b=>eqV (.bl b) x
 |.int i _=>eqV (.int i) x
 |.str z _=>eqV (.str z) x
 |_=>false
theorem oI {x y:V}{u:BZ}(r:RelV y u)(f:D7 y=true):eqU x u=eqV y x:=by
 cases y with
 |non=>cases r;rfl
 |bl b=>cases r;rfl
 |int i=>obtain⟨t,rfl⟩:=r;rfl
 |str z=>obtain⟨t,rfl⟩:=r;rfl
 |_=>exact absurd (show false=true from f) zC
theorem h7 {x:V}: ∀ {xs:List V}{us:List BZ},Vals xs us->xs.all D7=true->us.any (eqU x)=xs.any fun y=>eqV y x
 |_,_,.nil,_=>rfl
 |y::xs,u::us,.cons r t,f=>by
  rw[AA,zI] at f
  rw[List.any_cons,List.any_cons,oI r f.1,h7 t f.2]
theorem eF {A:B8}{s:B6}{x:V}{v:BZ}(rx:RelV x v)(fx:D7 x=true): ∀ {xs:List V}{us:List BZ},Vals xs us->xs.all D7=true-> ∀u∈us,SeqAt.EqAt A s u v (eqU x u)
 |_,_,.nil,_=>fun u hu=>by cases hu
 |y::xs,u::us,.cons r t,f=>fun u' hu=>by
  rw[AA,zI] at f
  rcases zA.mp hu with rfl|hu
  ·rw[oI r f.1];exact xQ r rx f.1 fx
  ·exact eF rx fx t f.2 u' hu
def inV (x:V)(xs:List V):Bool:=xs.any fun y=>eqV y x
def rIn (K:PySem.W.Frag)(neg:Bool):R2:=fun x y H Q=> ∃p xs,y=.ref p/\(SqL K H p xs\/SqT K H p xs)/\D7 x=true/\xs.all D7=true/\Q (.bl (if neg then !inV x xs else inV x xs)) H
theorem FI:OpR X (Cz .In) (rIn X.K false):=by
 intro pins s σ H x y v u Q I rx ry h
 obtain⟨p,xs,rfl,hq,fx,fs,q⟩:=h
 cases ry
 rcases hq with hq|hq
 ·obtain⟨its,r,pl,hz⟩:=I.list hq
  refine SeqAt.in_listAt (eqU x) pl.isList (fun w hw=>eF rx fx r fs w (by simpa using hw)) ⟨.bl _,H,I,rfl,?_⟩
  rw[show its.toArray.any (eqU x)=its.any (eqU x) by simp,h7 r fs]
  exact q
 ·obtain⟨its,r,pl,hz⟩:=I.tuple hq
  refine SeqAt.in_tupleAt (eqU x) pl (fun w hw=>eF rx fx r fs w (by simpa using hw)) ⟨.bl _,H,I,rfl,?_⟩
  rw[show its.toArray.any (eqU x)=its.any (eqU x) by simp,h7 r fs]
  exact q
theorem FQ:OpR X (Cz .NotIn) (rIn X.K true):=by
 intro pins s σ H x y v u Q I rx ry h
 obtain⟨p,xs,rfl,hq,fx,fs,q⟩:=h
 cases ry
 rcases hq with hq|hq
 ·obtain⟨its,r,pl,hz⟩:=I.list hq
  refine SeqAt.notIn_listAt (eqU x) pl.isList (fun w hw=>eF rx fx r fs w (by simpa using hw)) ⟨.bl _,H,I,rfl,?_⟩
  rw[show its.toArray.any (eqU x)=its.any (eqU x) by simp,h7 r fs]
  exact q
 ·obtain⟨its,r,pl,hz⟩:=I.tuple hq
  refine SeqAt.notIn_tupleAt (eqU x) pl (fun w hw=>eF rx fx r fs w (by simpa using hw)) ⟨.bl _,H,I,rfl,?_⟩
  rw[show its.toArray.any (eqU x)=its.any (eqU x) by simp,h7 r fs]
  exact q
theorem FR:OpR X (Cz .NotIn) (fun x y H Q=> ∃i j,x=.str i/\y=.str j/\Q (.bl (!(!(B1.Str.occurrences j i 0 j.length 1).isEmpty))) H):=by
 intro pins s σ H x y v u Q I rx ry h
 obtain⟨i,j,rfl,rfl,q⟩:=h
 obtain⟨t,rfl⟩:=rx
 obtain⟨t',rfl⟩:=ry
 exact notIn_str ⟨.bl _,H,I,rfl,q⟩
theorem lO:CallR X (.builtin "len") (fun xs H Q=> ∃p ys,xs=[.ref p]/\(SqL X.K H p ys\/SqT X.K H p ys)/\Q (.int ys.length) H):=by
 intro pins s σ H xs us Q I r h
 obtain⟨p,ys,rfl,hq,q⟩:=h
 obtain⟨u,rfl,rx⟩:=Hz r
 cases rx
 have hn:=iy
 rcases hq with hq|hq
 ·obtain⟨its,r',pl,hz⟩:=I.list hq
  have hlen:=r'.length
  exact Calls.call_len_list pl.isList (by simp only[zF]<;>omega) ⟨.int ys.length,H,I.tok _,⟨s.toks+1,by rw[zF,hlen]⟩,q⟩
 ·obtain⟨its,r',pl,hz⟩:=I.tuple hq
  have hlen:=r'.length
  exact len_tuple pl (by simp only[zF]<;>omega) ⟨.int ys.length,H,I.tok _,⟨s.toks+1,by rw[zF,hlen]⟩,q⟩
theorem DJ:CallR X (.builtin "len") (fun xs H Q=> ∃z,xs=[.str z]/\z.length<=sizeLine/\Q (.int z.length) H):=by
 intro pins s σ H xs us Q I r h
 obtain⟨z,rfl,hz,q⟩:=h
 obtain⟨u,rfl,t,rfl⟩:=Hz r
 have hn:=iy
 exact len_str (by omega) ⟨.int z.length,H,I.tok _,⟨_,rfl⟩,q⟩
theorem CallR.or {f:BZ}{r r':List V->Hp->VK->Prop}(h:CallR X f r)(h':CallR X f r'):CallR X f (fun xs H Q=>r xs H Q\/r' xs H Q):=by
 intro pins s σ H xs us Q I rs q
 rcases q with q|q
 ·exact h pins s σ H xs us Q I rs q
 ·exact h' pins s σ H xs us Q I rs q
theorem jY:CallR X (.type "tuple") (fun xs H Q=> ∃p ys,xs=[.ref p]/\((SqL X.K H p ys/\ ∀l,H l=none->Q (.ref l) (upd H l (.tup ys)))\/(SqT X.K H p ys/\Q (.ref p) H))):=by
 intro pins s σ H xs us Q I r h
 obtain⟨p,ys,rfl,h⟩:=h
 obtain⟨u,rfl,rx⟩:=Hz r
 cases rx
 rcases h with⟨hq,q⟩|⟨hq,q⟩
 ·obtain⟨its,r',pl,hz⟩:=I.list hq
  have hlen:=r'.length
  refine call_tuple_list pl.isList (fun h' kp=>?_) (by simp only[zF]<;>omega)
  have I1:Inv X pins σ H {s with heap:=h'}:=I.kept (t':=s.toks) kp
  have I2:Inv X pins σ (upd H h'.objs.size (.tup ys)) {s with heap:=h'.push {cls:=.type "tuple",data:=.seq its.toArray}}:=
   I1.laid (t':=s.toks) (fun b o e=>zP _ e) (zu _) (show ObjOk X.prog X.w _ _ _ (.tup ys) from⟨hz,its,r',IsTupD.new _ _⟩)
  exact⟨.ref h'.objs.size,_,I2,rfl,q _ (I1.hok.fresh (zu _))⟩
 ·obtain⟨its,r',pl,hz⟩:=I.tuple hq
  exact call_tuple_same pl ⟨.ref p,H,I,rfl,q⟩
def tyV (K:PySem.W.Frag)(T:String)(x:V)(H:Hp):Prop:=match x with
 |.str _=>T= "str"
 |.int _=>T= "int"
 |.ref p=>(T= "list"/\ ∃xs,SqL K H p xs)\/(T= "tuple"/\ ∃o,K.lookup p=some o/\o.cls=.type "tuple"/\o.dict=none)\/
  (T= "dict"/\((∃kvs,H p=some (.dK kvs))\/ ∃kvs,H p=some (.dT kvs)))\/(T= "set"/\ ∃S n,H p=some (.set S n))
 |_=>False
theorem vG {pins:List (B5×B7)}{σ:St}{H:Hp}{s:B6}{T:String}{x:V}{v:BZ}(I:Inv X pins σ H s)(r:RelV x v)(ty:tyV X.K T x H):
  s.TypeIs v T/\ ∀a,v=.ref a-> ∃ob,s.heap.get? a=some ob/\ob.dict=none:=by
 cases x with
 |str z=>
  obtain⟨t,rfl⟩:=r
  cases (show T= "str" from ty)
  exact⟨C4 s z t,fun _ e=>nomatch e⟩
 |int i=>
  obtain⟨t,rfl⟩:=r
  cases (show T= "int" from ty)
  exact⟨typeIs_int s i t,fun _ e=>nomatch e⟩
 |ref p=>
  cases r
  rcases ty with⟨rfl,xs,hq⟩|⟨rfl,o,hk,hc,hd⟩|⟨rfl,hk⟩|⟨rfl,S,n,hk⟩
  ·obtain⟨its,_,pl,_⟩:=I.list hq
   refine⟨pl.isList.typeIs,fun a e=>?_⟩
   cases e
   obtain⟨o,n,e,c,hd,_⟩:=pl
   exact⟨o,e,hd⟩
  ·refine⟨⟨o,I.kIn p o hk,hc⟩,fun a e=>?_⟩
   cases e
   exact⟨o,I.kIn _ o hk,hd⟩
  ·have z: ∃o,s.heap.get? p=some o/\o.ExactDict:=by
    rcases hk with⟨kvs,hk⟩|⟨kvs,hk⟩
    ·obtain⟨_,_,_,_,o,_,_,e,ex,_⟩:=I.hok p _ hk
     exact⟨o,e,ex⟩
    ·obtain⟨_,_,_,_,o,_,_,e,ex,_⟩:=I.hok p _ hk
     exact⟨o,e,ex⟩
   obtain⟨o,e,ex⟩:=z
   refine⟨⟨o,e,ex.1⟩,fun a e2=>?_⟩
   cases e2
   exact⟨o,e,ex.2.1⟩
  ·obtain⟨o,_,_,_,e,ex,_⟩:=I.hok p _ hk
   refine⟨⟨o,e,ex.1⟩,fun a e2=>?_⟩
   cases e2
   exact⟨o,e,ex.2.1⟩
 |_=>exact False.elim ty
def tBM (K:PySem.W.Frag)(T:String)(r:V->List V->Hp->VK->Prop)(to:TE)(t:TA):TE:=fun σ H Q=>to σ H fun x H1=>tyV K T x H1/\t σ H1 fun xs H2=>r x xs H2 Q
variable {o e:Expr}{es:List Expr}{to:TE}{t:TA}{name:Str}{apos cpos:Ct}{T id:String}{r:V->List V->Hp->VK->Prop}
theorem o6 (pa:PlainAttrs T)(slot:Slot T name id)(hty:typeOf (.builtin id)=pure (.type "method_descriptor"))(hm:MtR X id r)(ho:PE X o to)(ha:PA X (e::es) t)
  (hbase:CQ o name X.env (Cp o X.env)=Cp o X.env:=by rfl)
  (hfew:((Cu cpos (Cv (e::es) X.env)).all (fun x=>!x.1) && (CU cpos (CV [] X.env)).all (fun x=>x.1.isSome)
   && decide ((e::es).length+([]:List C0).length+(if ([]:List C0).isEmpty then 0 else 1)<30))=true:=by rfl)
  (hline:(apos.endLine==cpos.line)=true:=by rfl)(hs:Cv (e::es) X.env=(false,Cp e X.env)::Cv es X.env:=by rfl)(hplain:(Cu cpos (Cv es X.env)).any (·.1)=false:=by rfl):
  PE X (.Call (.Attribute o name apos) (e::es) [] cpos) (tBM X.K T r to t):=by
 intro pins s σ H Q I h
 refine wpAny_Call_method_late hbase hfew hline rfl (thn (ho pins s σ H _ I h) fun v s1 qz=>?_)
 obtain⟨x,H1,I1,r1,ty,q1⟩:=qz
 obtain⟨h1,h2⟩:=vG I1 r1 ty
 refine⟨T,id,pa,slot,hty,h1,h2,?_⟩
 have hA:=ha cpos pins s1 σ H1 _ I1 q1
 rw[hs] at hA ⊢
 refine Calls.callWith_builtin (by show (false||(Cu cpos (Cv es X.env)).any (·.1))=false;rw[hplain]<;>rfl) (Calls.evalArgs_plain ?_)
 exact thn hA fun us s2 ⟨vs,H2,I2,r2,q2⟩=>hm pins s2 σ H2 x vs v us Q I2 r1 r2 q2
end
end
section
def MtM (X:Cx)(id:String)(r:V->List V->Hp->VK->Prop):Prop:=
 ∀ (pins:List (B5×B7)) (s:B6) (σ:St) (H:Hp) (x:V) (xs:List V) (v:BZ) (us:List BZ) (Q:VK),Inv X pins σ H s->RelV x v->Vals xs us->r x xs H Q->
   Ca (Cb X.prog X.w) X.A (call (.builtin id) (v::us)) (EP X pins σ Q) X.xe s
theorem Vals.one: ∀ {x:V}{us:List BZ},Vals [x] us-> ∃u,us=[u]/\RelV x u
 :=by
 intro x us h
 cases h with
 |cons r q=>cases q;exact⟨_,rfl,r⟩
theorem Vals.two: ∀ {x y:V}{us:List BZ},Vals [x,y] us-> ∃u v,us=[u,v]/\RelV x u/\RelV y v
 :=by
 intro x y us h
 cases h with
 |cons r q=>
  cases q with
  |cons q z=>cases z;exact⟨_,_,rfl,r,q⟩
theorem Vals.rep {xs:List V}{us:List BZ}(h:Vals xs us): ∀k:Nat,Vals (List.replicate k xs).flatten (List.replicate k us).flatten
 |0=>.nil
 |k+1=>by
  rw[Au,Au,AB,AB]
  exact Vals.append h (Vals.rep h k)
theorem kn (its:List BZ): ∀ (k:Nat) (acc:List BZ),
  Bf (fun x1 x2=>x1++x2) acc.toArray (List.replicate k its.toArray)=(acc++(List.replicate k its).flatten).toArray
 |0,acc=>by simp
 |k+1,acc=>by
  have e:acc.toArray++its.toArray=(acc++its).toArray:=by simp
  have e2:(acc++its)++(List.replicate k its).flatten=acc++(List.replicate (k+1) its).flatten:=by
   rw[Au,AB,zV]
  rw[<-e2,<-kn its k (acc++its),<-e,Au,Bg]
section
variable {X:Cx}{pins:List (B5×B7)}{σ:St}{H:Hp}{s:B6}{l b:B5}{xs ys zs:List V}
theorem Inv.lset {its its':List BZ}{n:Nat}{f:Array BZ->Array BZ}{t':Nat}(I:Inv X pins σ H s)(hH:H l=some (.lst xs))
  (e:s.heap.get? l=some {cls:=.type "list",data:=.seq its.toArray n})(hf:f its.toArray=its'.toArray)(hv:Vals ys its')(hz:ys.length<=sizeLine):
  Inv X pins σ (upd H l (.lst ys)) {s with heap:=s.heap.update l (B7.mapSeq f),toks:=t'}:=by
 have q:=PySem.IsL.update e f
 rw[hf] at q
 refine I.write (x:=l) (e:=l) (by rw[hH];exact trivial) (.inl rfl) (fun b' u hb hu=>(B4.get?_update_other s.heap (B7.mapSeq f) (Ne.symm hb)).trans hu) ⟨_,q⟩ ?_
 exact⟨hz,its',_,hv,q⟩
theorem Inv.lnew {its:List BZ}{t':Nat}(I:Inv X pins σ H s)(hv:Vals ys its)(hz:ys.length<=sizeLine):
  Inv X pins σ (upd H s.heap.objs.size (.lst ys)) {s with heap:=s.heap.push {cls:=.type "list",data:=.seq its.toArray},toks:=t'}:=
 I.laid (fun _ _ q=>zP _ q) (zu _) ⟨hz,its,0,hv,Af _ rfl⟩
theorem Inv.fresh (I:Inv X pins σ H s):H s.heap.objs.size=none:=I.hok.fresh (zu _)
theorem Inv.lstM (I:Inv X pins σ H s)(hH:H l=some (.lst xs)):xs.length<=sizeLine/\ ∃ (its:List BZ) (n:Nat),Vals xs its/\xs.length=its.length/\s.heap.get? l=some {cls:=.type "list",data:=.seq its.toArray n}:=by
 obtain⟨z,its,n,r,e⟩:=I.hok l _ hH
 exact⟨z,its,n,r,r.length,e⟩
theorem mE {n:Nat}(h:n<=sizeLine):B1.List.listTooLong n=false:=by
 unfold B1.List.listTooLong
 exact decide_eq_false (by omega)
end
section
variable {X:Cx}
def tR:V->List V->Hp->VK->Prop:=fun x vs H Q=> ∃l xs y,x=.ref l/\vs=[y]/\H l=some (.lst xs)/\xs.length<sizeLine/\Q .non (upd H l (.lst (xs++[y])))
theorem qd:MtM X "list.append" tR:=by
 intro pins s σ H x vs v us Q I rx rv h
 obtain⟨l,xs,y,rfl,rfl,hH,hz,q⟩:=h
 cases rx
 obtain⟨u,rfl,ru⟩:=rv.one
 obtain⟨z,its,n,r,hl,e⟩:=I.lstM hH
 refine C6 F.slot_list_append ⟨_,e,rfl⟩ F.entry_list_append (F.args_list_append_2 _ _) (PySem.list_append l its.toArray n u (by rw[zF];omega)) ⟨e,?_⟩
 refine⟨.non,_,I.lset (its':=its++[u]) hH e (by simp) (r.append (.cons ru .nil)) ?_,rfl,q⟩
 rw[zv,zU]
 omega
def tQ:V->List V->Hp->VK->Prop:=fun x vs H Q=> ∃l b xs zs,x=.ref l/\vs=[.ref b]/\H l=some (.lst xs)/\H b=some (.lst zs)/\xs.length+zs.length<=sizeLine/\Q .non (upd H l (.lst (xs++zs)))
theorem x5:MtM X "list.extend" tQ:=by
 intro pins s σ H x vs v us Q I rx rv h
 obtain⟨l,b,xs,zs,rfl,rfl,hH,hB,hz,q⟩:=h
 cases rx
 obtain⟨u,rfl,ru⟩:=rv.one
 cases ru
 obtain⟨z,its,n,r,hl,e⟩:=I.lstM hH
 obtain⟨z2,its2,n2,r2,hl2,e2⟩:=I.lstM hB
 have hsz:its.toArray.size+its2.toArray.size<=sizeLine:=by rw[zF,zF];omega
 have hlong: ¬(!its.toArray.isEmpty && B1.List.listTooLong (its.toArray.size+its2.toArray.size))=true:=by
  rw[mE hsz,Bool.and_false]
  exact zC
 refine C6 F.slot_list_extend ⟨_,e,rfl⟩ F.entry_list_extend (F.args_list_extend_2 _ _)
  (AutoSeq1.list_extend_list_list_0 l its.toArray n b its2.toArray n2 hlong (by rw[zF];omega) (by omega)) ⟨e,e2,?_⟩
 refine⟨.non,_,I.lset (its':=its++its2) hH e (by simp) (r.append r2) ?_,rfl,q⟩
 rw[zv]
 omega
def rCat:R2:=fun x y H Q=> ∃l b xs zs,x=.ref l/\y=.ref b/\H l=some (.lst xs)/\H b=some (.lst zs)/\xs.length+zs.length<=sizeLine/\ ∀p,H p=none->Q (.ref p) (upd H p (.lst (xs++zs)))
theorem rJ:OpR X (CO .Add) rCat:=by
 intro pins s σ H x y v u Q I rx ry h
 obtain⟨l,b,xs,zs,rfl,rfl,hH,hB,hz,q⟩:=h
 cases rx
 cases ry
 obtain⟨z,its,n,r,hl,e⟩:=I.lstM hH
 obtain⟨z2,its2,n2,r2,hl2,e2⟩:=I.lstM hB
 refine PySem.P.add_list e e2 ?_ (by rw[zF,zF];omega)
 have ea:its.toArray++its2.toArray=(its++its2).toArray:=by simp
 rw[ea]
 exact⟨.ref _,_,I.lnew (t':=s.toks) (r.append r2) (by rw[zv];omega),rfl,q _ I.fresh⟩
def rRep:R2:=fun x y H Q=> ∃l k xs,x=.ref l/\y=.int k/\H l=some (.lst xs)/\ -(2 ^ 63)<=k/\k<2 ^ 63/\xs.length * k.toNat<=sizeLine/\
 ∀p,H p=none->Q (.ref p) (upd H p (.lst (List.replicate k.toNat xs).flatten))
theorem uK {α:Type}(xs:List α)(k:Nat):(List.replicate k xs).flatten.length=k * xs.length:=by
 induction k with
 |zero=>simp
 |succ k ih=>rw[Au,AB,zv,ih,Nat.succ_mul,Nat.add_comm]
theorem wE:OpR X (CO .Mult) rRep:=by
 intro pins s σ H x y v u Q I rx ry h
 obtain⟨l,k,xs,rfl,rfl,hH,h1,h2,hz,q⟩:=h
 cases rx
 obtain⟨t,rfl⟩:=ry
 obtain⟨z,its,n,r,hl,e⟩:=I.lstM hH
 have hlen:its.toArray.size * k.toNat<=sizeLine:=by rw[zF,<-hl];exact hz
 have hcap: ¬its.toArray.size * k.toNat>(2 ^ 63 - 1) / 8:=by
  have:(sizeLine:Nat)<=(2 ^ 63 - 1) / 8:=by decide
  omega
 have hfit: ¬(!B1.List.listFitsIndex k)=true:=by
  rw[fitsIndex_both h1 h2]
  exact zC
 have hlong: ¬B1.List.listTooLong (its.toArray.size * k.toNat)=true:=by
  rw[mE hlen]
  exact zC
 have hnew:Bf (fun x1 x2=>x1++x2) #[] (List.replicate (if its.toArray.isEmpty=true then 0 else k.toNat) its.toArray)=(List.replicate k.toNat its).flatten.toArray:=by
  have f0: ∀m:Nat,Bf (fun x1 x2=>x1++x2) #[] (List.replicate m its.toArray)=(List.replicate m its).flatten.toArray:=fun m=>by
   have:=kn its m []
   rw[z0] at this
   exact this
  rw[f0]
  cases its with
  |nil=>simp
  |cons a r'=>rw[if_neg (by simp)]
 refine wpAny_binaryOp_repeat_ref (T:= "list") (U:= "int") (by decide) ⟨_,e,rfl⟩ (fun s'=>typeIs_int s' k t) noFill_list_mul F.fills_int_mul F.slot_int_rmul repeat_list F.slot_int_index.lookup
  (C6 F.slot_int_rmul (typeIs_int s k t) F.entry_int_rmul (F.args_int_rmul_2 _ _) (int___rmul___int_list k t l its.toArray n)
   ⟨e,rfl,⟨_,e,rfl⟩,C6 F.slot_list_mul ⟨_,e,rfl⟩ F.entry_list_mul (F.args_list_mul_2 _ _) (AutoListH.list___mul___list_int_3 l its.toArray n k t hfit hcap hlong) ⟨e,?_⟩⟩)
 rw[hnew]
 exact⟨.ref _,_,I.lnew (t':=s.toks) (r.rep k.toNat) (by rw[uK,Nat.mul_comm];exact hz),rfl,q _ I.fresh⟩
end
section
variable {prog:B2}{w:B3}{A:B8}{E:BZ->B6->Prop}{s:B6}
end
section
variable {X:Cx}
end
end
section
section
variable {κ:Type} [DecidableEq κ]
noncomputable def Hy (kvs:List (κ×V))(k:κ):Option V:=(kvs.find? fun kv=>decide (kv.1=k)).map (·.2)
theorem lV {p:κ×V}{r:List (κ×V)}{k:κ}(e:p.1=k):Hy (p::r) k=some p.2:=by simp [Hy,AC,e]
theorem lW {p:κ×V}{r:List (κ×V)}{k:κ}(e:¬p.1=k):Hy (p::r) k=Hy r k:=by simp [Hy,AC,e]
theorem RelO.isSome_eq {o:Option V}{u:Option BZ}(r:RelO o u):o.isSome=u.isSome:=by
 cases o with
 |none=>cases u with
  |none=>rfl
  |some _=>exact (show False from r).elim
 |some _=>cases u with
  |none=>exact (show False from r).elim
  |some _=>rfl
theorem KV.val {kvs:List (κ×V)}{vs:List (κ×BZ)}(r:KV kvs vs)(k:κ):RelO (Hy kvs k) (valueAt vs k):=by
 unfold KV at r
 induction r with
 |nil=>exact True.intro
 | @cons p q ps qs h t ih=>
   obtain⟨h1,h2⟩:=h
   by_cases e:p.1=k
   ·have e':q.1=k:=h1.symm.trans e
    have b:valueAt (q::qs) k=some q.2:=by simp [valueAt,AC,e']
    rw[lV e,b];exact h2
   ·have e': ¬q.1=k:=fun z=>e (h1.trans z)
    have b:valueAt (q::qs) k=valueAt qs k:=by simp [valueAt,AC,e']
    rw[lW e,b];exact ih
end
theorem pj {P:B2}{w:B3}{k:Key}{u:BZ}(r:RelV (kV k) u):(de P w).is k u=true:=by
 cases k with
 |inl i=>obtain⟨t,e⟩:=(show∃t,u=BZ.int i t from r);subst e;exact mI P w i t
 |inr x=>obtain⟨t,e⟩:=(show∃t,u=BZ.str x t from r);subst e;exact mH P w x t
theorem km {P:B2}{w:B3}: ∀ {ks:List Key}{us:List BZ},Vals (ks.map kV) us->ItemsAre (de P w) ks us
 |[],_,r=>by rw[Ag] at r;cases r;exact .nil
 |k::ks,_,r=>by
  rw[zD] at r
  cases r with
  |cons h t=>exact .cons (pj h) (km t)
noncomputable abbrev KT (H:Hp):List (List Key×V)->List (List Key×B5×BZ)->Prop:=Paired fun p q=>p.1=q.1/\H q.2.1=some (.tup (p.1.map kV))/\RelV p.2 q.2.2
theorem KT.val {H:Hp}{kvs:List (List Key×V)}{xs:List (List Key×B5×BZ)}(r:KT H kvs xs)(k:List Key):RelO (Hy kvs k) ((atKey xs k).map (·.2)):=by
 induction r with
 |nil=>exact True.intro
 | @cons p q ps qs h t ih=>
   obtain⟨h1,_,h2⟩:=h
   by_cases e:p.1=k
   ·have e':q.1=k:=h1.symm.trans e
    have b:atKey (q::qs) k=some q.2:=by simp [atKey,AC,e']
    rw[lV e,b];exact h2
   ·have e': ¬q.1=k:=fun z=>e (h1.trans z)
    have b:atKey (q::qs) k=atKey qs k:=by simp [atKey,AC,e']
    rw[lW e,b];exact ih
section
variable {P:B2}{w:B3}{H:Hp}{h:B4}{a:B5}
theorem vi {u:HO}(ok:HOk P w H h)(e:Rd H a u):ObjOk P w H h a u:=e.ok ok
theorem pC {kvs:List (Key×V)}(ok:HOk P w H h)(e:Rd H a (.dK kvs)):kvs.length<=sizeLine/\(a==Ch)=false/\ ∃vs,KV kvs vs/\h.DictOf (de P w) a vs:=
 show ObjOk P w H h a (.dK kvs) from vi ok e
theorem lD {ks:List Key}(ok:HOk P w H h)(e:H a=some (.tup (ks.map kV))):(Ci (de P w)).is h ks a:=by
 obtain⟨_,its,r,⟨o,h1,h2,n,h3⟩,_⟩:=(show ObjOk P w H h a (.tup (ks.map kV)) from ok a _ e)
 exact⟨o,its.toArray,n,h1,h2,h3,by simpa using km r⟩
theorem pB {kvs:List (List Key×V)}(ok:HOk P w H h)(e:Rd H a (.dT kvs)):kvs.length<=sizeLine/\(a==Ch)=false/\
  ∃xs,KT H kvs xs/\h.DictOfH (Ci (de P w)) a xs:=by
 obtain⟨z,y,xs,r,o,es,ep,h1,h2,h3,h4,h5⟩:=(show ObjOk P w H h a (.dT kvs) from vi ok e)
 refine⟨z,y,xs,r,o,es,ep,h1,h2,h3,h4,fun x hx=>?_,h5⟩
 have all: ∀ {l:List (List Key×V)}{m:List (List Key×B5×BZ)},KT H l m-> ∀x∈m,(Ci (de P w)).is h x.1 x.2.1:=by
  intro l m q
  induction q with
  |nil=>intro x hx;exact nomatch hx
  | @cons p q ps qs hq t ih=>
    intro x hx
    rcases zA.mp hx with e|hx
    ·subst e
     exact lD ok (by rw[<-hq.1];exact hq.2.1)
    ·exact ih x hx
 exact all r x hx
end
def Dh (H:Hp)(a:B5)(y:V)(r:Option V):Prop:=
 (∃kvs k,Rd H a (.dK kvs)/\y=kV k/\r=Hy kvs k)\/ ∃kvs k b,Rd H a (.dT kvs)/\y=.ref b/\H b=some (.tup (k.map kV))/\r=Hy kvs k
section
variable {X:Cx}{pins:List (B5×B7)}{σ:St}{H:Hp}{s:B6}{a:B5}{y v:V}{u r:BZ}{o:Option V}{A:B8}{E:BZ->B6->Prop}
theorem qC {Q:BZ->B6->Prop}(hu:A.units+1<B9)(I:Inv X pins σ H s)(g:Dh H a y (some v))(ry:RelV y u)(h:∀w' s',Inv X pins σ H s'->RelV v w'->Q w' s'):
  Ca (Cb X.prog X.w) A (getItem (.ref a) u) Q E s:=by
 rcases g with⟨kvs,k,e,ey,l⟩|⟨kvs,k,b,e,ey,eb,l⟩
 ·subst ey
  obtain⟨z,hd,vs,rel,dd⟩:=pC I.hok e
  obtain⟨w',hw,rw'⟩:=RelO.some_of (v:=v) (o:=valueAt vs k) (by rw[l];exact rel.val k)
  exact wpAny_getItem_of (pj ry) dd.mapOf hw (h w' _ (I.tok _) rw')
 ·subst ey
  cases (show u=BZ.ref b from ry)
  obtain⟨z,hd,xs,rel,dd⟩:=pB I.hok e
  obtain⟨w',hw,rw'⟩:=RelO.some_of (v:=v) (o:=(atKey xs k).map (·.2)) (by rw[l];exact rel.val k)
  obtain⟨p,hp,hp2⟩:=zM.mp hw
  refine wpAny_getItem_heap (C7 hu) (lD I.hok eb) dd hp ?_
  rw[hp2]
  exact h w' _ (I.tok _) rw'
theorem zq {Q:BZ->B6->Prop}(hu:A.units+1<B9)(I:Inv X pins σ H s)(g:Dh H a y o)(ry:RelV y u)(h:∀s',Inv X pins σ H s'->Q (.bool o.isSome) s'):
  Ca (Cb X.prog X.w) A (Cz .In u (.ref a)) Q E s:=by
 rcases g with⟨kvs,k,e,ey,l⟩|⟨kvs,k,b,e,ey,eb,l⟩
 ·subst ey
  obtain⟨z,hd,vs,rel,dd⟩:=pC I.hok e
  refine wpAny_in_of (pj ry) hd dd.mapOf ?_
  rw[<-(rel.val k).isSome_eq,<-l]
  exact h _ (I.tok _)
 ·subst ey
  cases (show u=BZ.ref b from ry)
  obtain⟨z,hd,xs,rel,dd⟩:=pB I.hok e
  refine wpAny_in_heap (C7 hu) (lD I.hok eb) hd dd ?_
  have q:=(rel.val k).isSome_eq
  rw[BB] at q
  rw[<-q,<-l]
  exact h _ (I.tok _)
theorem u2 {Q:BZ->B6->Prop}(hu:A.units+1<B9)(I:Inv X pins σ H s)(g:Dh H a y o)(ry:RelV y u)(h:∀s',Inv X pins σ H s'->Q (.bool (!o.isSome)) s'):
  Ca (Cb X.prog X.w) A (Cz .NotIn u (.ref a)) Q E s:=by
 rcases g with⟨kvs,k,e,ey,l⟩|⟨kvs,k,b,e,ey,eb,l⟩
 ·subst ey
  obtain⟨z,hd,vs,rel,dd⟩:=pC I.hok e
  refine wpAny_notIn_of (pj ry) hd dd.mapOf ?_
  rw[<-(rel.val k).isSome_eq,<-l]
  exact h _ (I.tok _)
 ·subst ey
  cases (show u=BZ.ref b from ry)
  obtain⟨z,hd,xs,rel,dd⟩:=pB I.hok e
  refine wpAny_notIn_heap (C7 hu) (lD I.hok eb) hd dd ?_
  have q:=(rel.val k).isSome_eq
  rw[BB] at q
  rw[<-q,<-l]
  exact h _ (I.tok _)
end
section
variable {X:Cx}{pins:List (B5×B7)}{σ:St}{H:Hp}{s:B6}{a:B5}{kvs:List (Key×V)}{k:Key}{u:BZ}{A:B8}{E:BZ->B6->Prop}
end
theorem nr {X:Cx}{pins:List (B5×B7)}{σ:St}{H:Hp}{s:B6}{a:B5}{y:V}{o:Option V}(I:Inv X pins σ H s)(g:Dh H a y o):s.TypeIs (.ref a) "dict":=by
 rcases g with⟨kvs,k,e,_,_⟩|⟨kvs,k,b,e,_,_,_⟩
 ·obtain⟨_,_,vs,_,dd⟩:=pC I.hok e
  exact dd.typeIs
 ·obtain⟨_,_,xs,_,dd⟩:=pB I.hok e
  exact dd.typeIs
section
variable {X:Cx}{o i e value:Expr}{pos pos' tpos:Ct}{td ty tv:TE}
end
section
variable {X:Cx}{pos:Ct}
end
section
variable {X:Cx}{pins:List (B5×B7)}{σ:St}{H:Hp}{s:B6}{a:B5}{y d:V}{u r:BZ}{o:Option V}{A:B8}{E:BZ->B6->Prop}
end
section
variable {X:Cx}{o e f:Expr}{apos cpos:Ct}{td ty tx:TE}
end
section
variable {X:Cx}{pins:List (B5×B7)}{σ:St}{H:Hp}{s:B6}{a:B5}{kvs:List (Key×V)}{A:B8}{E:BZ->B6->Prop}
end
section
variable {X:Cx}{pins:List (B5×B7)}{σ:St}{H:Hp}{s:B6}{a:B5}{y:V}{u:BZ}{A:B8}{E:BZ->B6->Prop}
end
end
end L2
namespace Att
open PySem PySem.W PySem.Calls PyProof.Rows
theorem iO {P:Params}{h:B4}: ∀ (ns:List Int) (vs:List BZ),WellAll P h vs (ns.map WData.int)->IntsAre vs ns:=by
 intro ns
 induction ns with
 |nil=>
  intro vs w
  rw[Ag] at w
  cases w
  exact .nil
 |cons n ns ih=>
  intro vs w
  rw[zD] at w
  cases w with
  |cons a b=>
   cases a
   exact .cons _ _ (ih _ b)
theorem pV {l:OpenLaw}{n:Nat}(hn:l.most=some n){P:Params}{h:B4}{args:List WData}{vals:List BZ}
  (hpre:l.row.toRowW.claim.pre args=true)(hwl:WellAll P h vals args):
  ∃a vs ns,vals=[BZ.ref a]/\args=[WData.list (ns.map WData.int)]/\h.get? a=some {cls:=.type "list",data:=.seq vs.toArray}/\IntsAre vs ns/\ns.length<=n:=by
 have hsh:WShape.hasAll [] args [.list .int]=true:=(pre_splitW hpre).1
 have hc:l.pre.holds [] {args:=args}=true:=(pre_splitW hpre).2
 obtain⟨d,r,rfl,h1,h2⟩:=hasAllW_cons hsh
 obtain rfl:=hasAllW_nil h2
 obtain⟨xs,rfl,h3⟩:=hasW_list h1
 obtain⟨ns,rfl⟩:=items_int h3
 have hlen:ns.length<=n:=by
  unfold OpenLaw.pre at hc
  have h4:(WTm.not (.lt (.lit (.int (n:Int))) (.len (.arg 0)))).holds [] {args:=[.list (ns.map .int)]}=true:=by
   have h4:=(holds_andW hc).1
   rw[hn] at h4
   exact h4
  have h5:=condW_of h4 (w_not (w_lt w_lit (w_len_list (w_arg rfl))))
  rw[zr] at h5
  refine Nat.le_of_not_lt fun q=>?_
  have q':(n:Int)<((ns.length:Nat):Int):=by omega
  first
   |(rw[decide_eq_true q'] at h5;exact absurd h5 (by decide))
   |(simp at h5;omega)
 cases hwl with
 |cons w1 w2=>
  cases w2
  cases w1 with
  |list ho hall=>exact⟨_,_,ns,rfl,rfl,ho,iO ns _ hall,hlen⟩
theorem pY (l:OpenLaw)(args:List WData):l.row.toRowW.claim.post args (.bool true) args=true:=
 postW_of (r:=l.row.toRowW) (X:=(true==true))
  (show WShape.has [] (.bool true) .bool=true by first|rfl|decide|simp [WShape.has,WShape.arms,WShape.armsAll])
  (show (WTm.eq .res (.lit (.bool true))).value [] {args:=args,res:=some (.bool true),after:=args}=some (.bool (true==true)) from w_eq_bool (w_res rfl) w_lit) rfl
theorem attach_call {l:OpenLaw}{n:Nat}{q:B2}{loose:List Str}{XP:(Str->Option BZ)->B4->Prop}{YP:B3->B4->Prop}{d:DefRec}
  (hn:l.most=some n)(hdf:d.params.defaults=[])
  (call: ∀ (w:B3) (s₀ s₁:B6) (mg mb:Str->Option BZ) (fa:B5) (o:B7) (pm cd doc:BZ) (a:B5) (vs:List BZ) (ns:List Int),
   Ground q loose [] XP w s₀ mg mb s₁.heap->YP w s₁.heap->
   s₁.heap.get? fa=some o->o.data=.func (docDef d.name d.params d.body d.scope pm cd doc)->s₁.heap.CodeRec cd d.name->mg d.name=some (.ref fa)->
   s₁.heap.get? a=some {cls:=.type "list",data:=.seq vs.toArray}->IntsAre vs ns->ns.length<=n->s₁.gens= #[]->
   codeAny (Cb l.prog w) callerA (.call (.ref fa) ⟨[.ref a],[]⟩) (fun r s'=>r=.ok (.ret (.bool true))/\OldK s₁.heap s'.heap/\s'.os=s₁.os/\Co s'.gens) s₁):
  WalkO q loose XP YP l.row.toRowW d [] (fun f vs=>PySem.call f vs):=by
 intro w s₀ s₁ mg mb G Y fa o pm cd doc dV kV ho hd hcd hD hmg hg args vals as hpre hlay hrd hwl hlo
 obtain rfl:dV=.none:=Dflts.none hD hdf
 obtain rfl:kV=.none:=Dflts.noKw hD
 obtain⟨a,vs,ns,rfl,rfl,hobj,hints,hlen⟩:=pV hn hpre hwl
 refine enter_call (CY (call w s₀ s₁ mg mb fa o pm cd doc a vs ns G Y ho (fd_plain hd) hcd hmg hobj hints hlen hg) fun r s' hq=>?_)
 obtain⟨rfl,h2,h3,h4⟩:=hq
 exact⟨.inl ⟨.bool true,.bool true,[],rfl,fun _=>rfl,.bool true,pY l _,fun _=>⟨List.Pairwise.nil,fun _ hm=>(nomatch hm)⟩⟩,h2,h3,h4⟩
section
variable {prog:B2}{w:B3}{A:B8}{E:BZ->B6->Prop}{s:B6}{K:Frag}
noncomputable def zo (h:B4)(L d:B5):List (B5×B7):=(List.range h.objs.size).filterMap fun a=>if a=L\/a=d then none else (h.get? a).map fun o=>(a,o)
end
end Att
namespace L2
open PySem PySem.Spec PyProof.Rows
theorem j6: ∀ {vs:List BZ}{ns:List Int},IntsAre vs ns->Vals (ns.map V.int) vs
 |_,_,.nil=>.nil
 |_,_,.cons n t h=>.cons ⟨t,rfl⟩ (j6 h)
def Dr (H:Hp):Prop:= ∀b,H b=none\/ ∃o xs,H b=some (.frz o (.lst xs))
theorem si {P:B2}{w:B3}{K:PySem.W.Frag}{mg mb:Str->Option BZ}{CX:CXT}{k:Nat}{fa a:B5}{fd:CW}{x:Str}{sp:Sp}{s₁:B6}{vs:List BZ}{ns:List Int}
  (KX:K.In s₁.heap)(hns:s₁.heap.Ns Cj mg)(hb:s₁.heap.Ns builtinsNs mb)(hbb: ∀x:Str,x≠ "__name__"->mb x=Ck x)(hlim:s₁.heap.NoLimit)(hg:s₁.gens= #[])
  (ha:s₁.heap.get? a=some {cls:=.type "list",data:=.seq vs.toArray})(hi:IntsAre vs ns)(hl:ns.length<=sizeLine)(hr:Room k callerA)
  (F:∀base:B4,K.In base->base.Ns Cj mg->FnOk P w K mg base CX k fa fd [x] sp)(hbind: ∀ (s:B6) (u:BZ),BindsTo s fd ⟨[u],[]⟩ [(x,u)])
  (hsp: ∀H:Hp,Dr H->SqL K H a (ns.map V.int)->sp [.ref a] H (fun v _=>v=.bl true) fun _ _ _=>False)
  (hCX: ∀H e s',CX [] H s₁ (fun _ _ _=>False) e s'->False):
  codeAny (Cb P w) callerA (.call (.ref fa) ⟨[.ref a],[]⟩) (fun r s'=>r=.ok (.ret (.bool true))/\OldK s₁.heap s'.heap/\s'.os=s₁.os/\Co s'.gens) s₁:=by
 have rv:=j6 hi
 have lenV:=hi.length
 have core: ∀H:Hp,Dr H->SqL K H a (ns.map V.int)->HOk P w H s₁.heap->(∀b,H b≠none->b=a)->(H a≠none->K.lookup a=none)->
   codeAny (Cb P w) callerA (.call (.ref fa) ⟨[.ref a],[]⟩) (fun r s'=>r=.ok (.ret (.bool true))/\OldK s₁.heap s'.heap/\s'.os=s₁.os/\Co s'.gens) s₁:=by
  intro H hO hS hok hA hK
  have base_of: ∀ {b:B5}{o:B7},s₁.heap.get? b=some o->H b=none->(Ef s₁.heap H).get? b=some o:=fun e n=>sx e n
  have noA: ∀ {b:B5}{o:B7}{es:Array DictEntry}{ep:Nat},s₁.heap.get? b=some o->o.data=.dict es ep->H b=none:=fun{b o es ep} e d=>by
   cases q:H b with
   |none=>rfl
   |some u=>
    have e':b=a:=hA b (by rw[q];simp)
    subst e'
    rw[ha] at e;cases e
    have d':Data.seq vs.toArray _=Data.dict es ep:=d
    cases d'
  have nsK: ∀ {b:B5}{m:Str->Option BZ},s₁.heap.Ns b m->(Ef s₁.heap H).Ns b m:=fun{b m} ⟨o,es,ep,e,d,r⟩=>⟨o,es,ep,base_of e (noA e d),d,r⟩
  have hKb:K.In (Ef s₁.heap H):=fun b o e=>base_of (KX b o e) (by
   cases q:H b with
   |none=>rfl
   |some u=>
    have e':b=a:=hA b (by rw[q];simp)
    subst e'
    rw[hK (by rw[q];simp)] at e;cases e)
  have hM:Mod K mg (Ef s₁.heap H):=⟨hKb,nsK hns,⟨mb,nsK hb,hbb⟩,let ⟨mc,h1,h2⟩:=hlim;⟨mc,nsK h1,h2⟩⟩
  have e0:Env0 P w K mg (Ef s₁.heap H) callerA [] s₁ H:=⟨rfl,hM,fun b o e=>ug e,AH (qx _ _),trivial,fun b hb=>absurd (show b∈([]:List B5) from hb) (by simp),hok,.of_eq hg⟩
  refine CY ((F _ hKb (nsK hns)).run callerA [] s₁ H ⟨[.ref a],[]⟩ [.ref a] [.ref a] _ _ hr e0 (hbind s₁ (.ref a)) (.cons rfl .nil) (hsp H hO hS)) fun r s' h=>?_
  cases r with
  |error e=>exact (hCX H e s' h).elim
  |ok fl=>
   cases fl with
   |next=>exact False.elim h
   |brk=>exact False.elim h
   |cont=>exact False.elim h
   |ret u=>
    obtain⟨v,H',os,bare,un,hok',r',q⟩:=h
    have q':v=.bl true:=q
    subst q'
    obtain rfl:u=BZ.bool true:=r'
    refine⟨rfl,OldK.of_keep fun b o e=>?_,os,bare⟩
    cases q:H b with
    |none=>exact un.keep b o e q (by intro z;exact absurd (show b∈([]:List B5) from z) (by simp)) (by simp)
    |some u=>
     rcases hO b with z|⟨ob,xs,z⟩
     ·rw[q] at z;cases z
     ·have z2:=un.frzs b ob _ z
      obtain⟨e1,_⟩:=hok b _ z
      obtain⟨e2,_⟩:=hok' b _ z2
      rw[e] at e1;cases e1
      exact e2
 cases hk:K.lookup a with
 |some o=>
  have e:=KX a o hk
  rw[ha] at e
  cases e
  refine core (fun _=>none) (fun _=>.inl rfl) (.inr ⟨_,vs.toArray,_,hk,rfl,rfl,rfl,by rw[zF,lenV];exact hl,by simpa using rv⟩) (fun b u z=>by have z':(none:Option HO)=some u:=z;cases z') (fun b z=>absurd rfl z) fun z=>absurd rfl z
 |none=>
  refine core (fun b=>if b=a then some (.frz {cls:=.type "list",data:=.seq vs.toArray} (.lst (ns.map V.int))) else none) (fun b=>?_) (.inl (.inr ⟨{cls:=.type "list",data:=.seq vs.toArray},if_pos rfl⟩)) (fun b u z=>?_) (fun b z=>?_) fun _=>hk
  ·by_cases hb:b=a
   ·exact .inr ⟨_,_,if_pos hb⟩
   ·exact .inl (if_neg hb)
  ·by_cases hb:b=a
   ·have z':=(if_pos hb).symm.trans z
    cases z'
    subst hb
    exact⟨ha,by rw[zr];exact hl,vs,_,rv,ha⟩
   ·have z':=(if_neg hb).symm.trans z
    cases z'
  ·by_cases hb:b=a
   ·exact hb
   ·exact absurd (if_neg hb) z
section
noncomputable abbrev KOf {K:PySem.W.Frag}{h:B4}(_:K.In h):PySem.W.Frag:=K
theorem walk_of {l:PySem.W.OpenLaw}{n k:Nat}{q:B2}{loose:List Str}{XP:(Str->Option BZ)->B4->Prop}{YP:B3->B4->Prop}{d:DefRec}{K:Params->PySem.W.Frag}{CX:B3->CXT}{sp:B3->Sp}{x:Str}
  (hn:l.most=some n)(hn2:n<=sizeLine)(hdf:d.params.defaults=[])(hr:Room k callerA)
  (hY: ∀ (w:B3) (h:B4),YP w h->(K w.params).In h)
  (F:∀ (w:B3) (mg:Str->Option BZ) (fa:B5) (h:B4),(K w.params).In h->h.Ns Cj mg->mg d.name=some (.ref fa)->
    ∃fd:CW,(∀ (s:B6) (u:BZ),BindsTo s fd ⟨[u],[]⟩ [(x,u)])/\
     ∀base:B4,(K w.params).In base->base.Ns Cj mg->FnOk l.prog w (K w.params) mg base (CX w) k fa fd [x] (sp w))
  (hsp: ∀ (w:B3) (H:Hp) (a:B5) (ns:List Int),ns.length<=n->Dr H->SqL (K w.params) H a (ns.map V.int)->sp w [.ref a] H (fun v _=>v=.bl true) fun _ _ _=>False)
  (hCX: ∀ (w:B3) (H:Hp) (s:B6) (e:BZ) (s':B6),CX w [] H s (fun _ _ _=>False) e s'->False):
  PySem.W.WalkO q loose XP YP l.row.toRowW d [] (fun f vs=>PySem.call f vs):=by
 refine Att.attach_call hn hdf fun w s₀ s₁ mg mb fa o pm cd doc a vs ns G Y ho hd hcd hmg hobj hints hlen hg=>?_
 have KX:=hY w _ Y
 obtain⟨fd,hb,hF⟩:=F w mg fa _ KX G.T.g hmg
 exact si KX G.T.g G.T.b G.T.builtins G.T.nolimit hg hobj hints (zJ hlen hn2) hr hF hb (fun H hO hS=>hsp w H a ns hlen hO hS) fun H e s'=>hCX w H s₁ e s'
end
section
noncomputable def bJ (s:Cw)(j:Nat):Cw:=match s with
 |.ClassDef _ _ _ body _ _ _ _ _ _ _=>body.getD j (.Pass ⟨0,0,0,0⟩)
 |_=>.Pass ⟨0,0,0,0⟩
noncomputable def cB (s:Cw):Arguments:=match s with
 |.FunctionDef _ a _ _ _ _ _ _ _ _=>a
 |_=>{posonlyargs:=[],args:=[],vararg:=none,kwonlyargs:=[],kw_defaults:=[],kwarg:=none,defaults:=[]}
noncomputable def bo (s:Cw):List Cw:=match s with
 |.FunctionDef _ _ b _ _ _ _ _ _ _=>b
 |_=>[]
noncomputable def ae (s:Cw):Cn:=match s with
 |.FunctionDef _ _ _ _ _ _ sc _ _ _=>sc
 |_=>{kind:=.function,names:=[],isGenerator:=false,isCoroutine:=false}
noncomputable abbrev CX0:CXT:=fun _ _ _ _ _ _=>False
noncomputable abbrev E0:XK:=fun _ _ _=>False
theorem FY {X:Cx}:fm CX0 X E0:=fun _ _ _ _ _ _ _ h=>h.elim
structure Fun (K:PySem.W.Frag)(x qual:Str)(st:Cw)(f:B5)(fd:CW):Prop where
 ex: ∃ (oc:BZ) (od:Option B5) (kV doc pm:BZ) (an:Option B5) (cdv ct:BZ) (osl:Array (Option BZ)),
  fd=fnOf x qual (cB st) (bo st) (ae st) .none kV doc pm an cdv ct/\K.lookup f=some ⟨oc,od,.func fd,osl⟩/\codeIn K cdv qual=true
 kp:BW K (.ref f)=true
section
variable {P:B2}{w:B3}{K:PySem.W.Frag}{mg:Str->Option BZ}{base:B4}
theorem Fun.ok {x qual:Str}{st:Cw}{f:B5}{fd:CW}{N ps:List Str}{k:Nat}{sp:Sp}(F:Fun K x qual st f fd)(S:Dm N ps (ae st))(len: ∀vs H Q E,sp vs H Q E->vs.length=ps.length)
  (hbody: ∀ (cdv:BZ) (A:B8) (outer:List Env) (s:B6) (H:Hp) (vs:List V) (Q:VK) (E:XK),Room k (A.deeper (C2 qual (ae st) s.heap.objs.size f cdv))->sp vs H Q E->
   ∃t,PSs (DU CX0 P w K mg base N qual (ae st) f cdv A outer s H E).nox (bo st) t/\t {nx:=fun _ H'=>Q .non H',rt:=Q} (Hd N vs) H):FnOk P w K mg base CX0 (k+1) f fd ps sp:=by
 obtain⟨oc,od,kV,doc,pm,an,cdv,ct,osl,rfl,lk,hcd⟩:=F.ex
 refine vB lk hcd S len fun A outer s H vs Q E hr hsp=>?_
 obtain⟨t,h,q⟩:=hbody cdv A outer s H vs Q E hr hsp
 exact⟨t,h.nox,q⟩
theorem Fun.binds {x qual:Str}{st:Cw}{f:B5}{fd:CW}{ps:List Str}(F:Fun K x qual st f fd)
  (h:∀ (kV doc pm:BZ) (an:Option B5) (cdv ct:BZ) (us:List BZ),us.length=ps.length->bindArgs (fnOf x qual (cB st) (bo st) (ae st) .none kV doc pm an cdv ct) ⟨us,[]⟩=pure (ps.zip us)):Binds K fd ps []:=by
 obtain⟨oc,od,kV,doc,pm,an,cdv,ct,osl,rfl,lk,hcd⟩:=F.ex
 exact .all (h kV doc pm an cdv ct)
theorem sC {x qual:Str}{st:Cw}{f:B5}{oc:BZ}{od an:Option B5}{osl:Array (Option BZ)}{kV doc pm cdv ct:BZ}(l:K.lookup f=some ⟨oc,od,.func (fnOf x qual (cB st) (bo st) (ae st) .none kV doc pm an cdv ct),osl⟩)
 (c:codeIn K cdv qual=true)(k:BW K (.ref f)=true):Fun K x qual st f (fnOf x qual (cB st) (bo st) (ae st) .none kV doc pm an cdv ct):=⟨⟨oc,od,kV,doc,pm,an,cdv,ct,osl,rfl,l,c⟩,k⟩
end
theorem vv {A:B8}{k:Nat}(hr:Room k A):A.units+1<B9:=Ai (Nat.add_le_add_left (by decide:1<=64) _) hr.units
theorem io {n:Nat}(h:n<=1000):n<sizeLine:=Ai h (by decide)
section
variable {X:Cx}
theorem pv (i:Nat){x:Str}{pos:Ct}(hN:X.N[i]?=some x:=by rfl)(hv:Vis X.env.scope x:=by first|exact Or.inl rfl|exact Or.inr (Or.inl rfl)|exact Or.inr (Or.inr rfl))(hd:(x==("__debug__":Str))=false:=by decide)
 (hcd:(x==("__classdict__":Str))=false:=by decide):PE X (.Name x pos) (Hs i):=wg hN hv hd hcd
end
theorem Ey {A B:Prop}(h:B):if false=true then A else B:=by
 rw[if_neg zC]
 exact h
theorem Ez {A B:Prop}(h:A):if true=true then A else B:=by
 rw[if_pos rfl]
 exact h
theorem Ew {c A B:Prop} [Decidable c] (h1:c->A)(h2: ¬c->B):if c then A else B:=by
 by_cases h:c
 ·rw[if_pos h]
  exact h1 h
 ·rw[if_neg h]
  exact h2 h
def Same (H H':Hp):Prop:= ∀b o,H b=some o->H' b=some o
theorem Same.refl (H:Hp):Same H H:=fun _ _ h=>h
section
variable {κ:Type} [DecidableEq κ]
end
end
section
theorem jH {α β:Type}{f:α->β->Sem (ForInStep β)}(g:α->β->β): ∀ (l:List α) (c:β),(∀x∈l,∀c,f x c=pure (.yield (g x c)))->forIn l c f=pure (l.foldl (fun c x=>g x c) c)
 |[],_,_=>rfl
 |x::l,c,h=>by
  rw[List.forIn_cons,h x zB,pure_bind]
  exact jH g l (g x c) fun y hy=>h y (zK _ hy)
noncomputable def cm (env:Env)(p:Str×C1)(cs:List (Str×B5)):List (Str×B5):=if (p.2==C1.free)=true then (p.1,(env.cells.lookup p.1).getD 0)::cs else cs
def DO (scope:Cn)(env:Env):List (Str×B5):=scope.names.foldl (fun c x=>cm env x c) []
theorem oJ {scope:Cn}{env:Env}(h:∀p∈scope.names,p.2=.free-> ∃c,env.cells.lookup p.1=some c):closureFor scope env=pure (DO scope env):=by
 unfold DO
 simp only[closureFor]
 rw[jH (cm env)]
 ·rfl
 ·intro x hx c
  obtain⟨n,k⟩:=x
  by_cases hk:k=.free
  ·subst hk
   obtain⟨a,ha⟩:=h _ hx rfl
   have ha:env.cells.lookup n=some a:=ha
   simp [cm,cellOf,ha]
  ·have:(k==C1.free)=false:=by simpa using hk
   simp [cm,this]
theorem jK (env:Env): ∀ (l:List (Str×C1)) (c:List (Str×B5)),(∀p∈l,p.2=.free-> ∃a,env.cells.lookup p.1=some a)->
  (∀y a,c.lookup y=some a->env.cells.lookup y=some a)-> ∀y a,(l.foldl (fun c x=>cm env x c) c).lookup y=some a->env.cells.lookup y=some a
 |[],_,_,h,y,a,e=>h y a e
 |(n,k)::r,c,hf,h,y,a,e=>by
  refine jK env r (cm env (n,k) c) (fun p hp=>hf p (zK _ hp)) (fun z b q=>?_) y a e
  unfold cm at q
  split at q
  ·rename_i hk
   obtain⟨d,hd⟩:=hf (n,k) zB (by simpa using hk)
   have hd:env.cells.lookup n=some d:=hd
   rw[Am] at q
   split at q
   ·rename_i hz
    have:z=n:=by simpa using hz
    subst this
    rw[hd] at q ⊢
    simpa using q
   ·exact h z b q
  ·exact h z b q
theorem nz (env:Env): ∀ (l:List (Str×C1)) (c:List (Str×B5)) (y:Str),(∃a,c.lookup y=some a)-> ∃a,(l.foldl (fun c x=>cm env x c) c).lookup y=some a
 |[],_,_,h=>h
 |(n,k)::r,c,y,h=>by
  refine nz env r _ y ?_
  show∃a,(cm env (n,k) c).lookup y=some a
  unfold cm
  split
  ·rw[Am]
   split
   ·exact⟨_,rfl⟩
   ·exact h
  ·exact h
theorem pK (env:Env): ∀ (l:List (Str×C1)) (c:List (Str×B5)) (y:Str),(y,C1.free)∈l-> ∃a,(l.foldl (fun c x=>cm env x c) c).lookup y=some a
 |(n,k)::r,c,y,h=>by
  rcases zA.mp h with e|h
  ·obtain⟨rfl,rfl⟩:=Prod.mk.inj e
   refine nz env r _ y ⟨(env.cells.lookup y).getD 0,?_⟩
   show (cm env (y,.free) c).lookup y=_
   unfold cm
   rw[if_pos (by rfl),Am]
   simp
  ·exact pK env r _ y h
structure CScope (X:Cx)(ls:List Str)(scope:Cn):Prop where
 kind:scope.kind=.function
 nocell: ∀y∈scope.names,y.2≠.cell
 names: ∀y∈scope.names,y.2=.local ->scope.names.lookup y.1=some .local
 loc: ∀y,scope.names.lookup y=some .local ->y∈ls
 free: ∀y∈scope.names,y.2=.free->X.env.kindOf y.1=some .cell\/X.env.kindOf y.1=some .free
 noq: ∀y∈ls,∀k,scope.names.lookup ⟨#[63]++y.cps⟩≠some k
noncomputable def hid (ls:List Str)(y:Str):Str:=if ls.contains y then⟨#[63]++y.cps⟩ else y
def cxC (X:Cx)(ls:List Str)(scope:Cn)(C:B5)(s2:B6)(H2:Hp)(fp:List B5):Cx where
 prog:=X.prog
 w:=X.w
 K:=X.K
 mg:=X.mg
 base:=X.base
 A:=X.A
 N:=ls++X.N.map (hid ls)
 s₀:=s2
 H₀:=H2
 env:=compEnvC scope (DO scope X.env) C X.env
 outer:=X.stack
 stack:=X.stack
 ex:=fp
 calm:=X.calm
 fn:=fun _=>false
 pn:=[]
 xe:=fun _ _=>False
theorem b3 {env:Env}{y:Str}: ∀ {names:List (Str×C1)}{k:C1},(names.map fun (n,k)=>if (k==C1.free && env.scope.kind==.function && env.kindOf n==some .cell) then (n,C1.cell) else (n,k)).lookup y=some k->
  names.lookup y=some k\/(names.lookup y=some .free/\k=.cell)
 |[],_,h=>by simp at h
 |(n,j)::r,k,h=>by
  have ih:= @b3 env y r k
  replace h:Ap y ((if (j==C1.free && env.scope.kind==.function && env.kindOf n==some .cell)=true then (n,C1.cell) else (n,j))::(r.map fun (n,k)=>if (k==C1.free && env.scope.kind==.function && env.kindOf n==some .cell) then (n,C1.cell) else (n,k)))=some k:=h
  by_cases hc:(j==C1.free && env.scope.kind==.function && env.kindOf n==some .cell)=true
  ·rw[if_pos hc,Am] at h
   rw[Am]
   cases hx:y==n with
   |true=>
    rw[hx] at h
    simp only[zI] at hc
    have hj:j=.free:=by simpa using hc.1.1
    subst hj
    have h:some C1.cell=some k:=h
    cases h
    exact .inr ⟨rfl,rfl⟩
   |false=>
    rw[hx] at h
    exact ih h
  ·rw[if_neg hc,Am] at h
   rw[Am]
   cases hx:y==n with
   |true=>rw[hx] at h;exact .inl h
   |false=>rw[hx] at h;exact ih h
def Eg (N ls:List Str)(σ:St):Bool:=true
theorem qv {X:Cx}{pins:List (B5×B7)}{σ:St}{H2:Hp}{s2:B6}{ls:List Str}{scope:Cn}{fp:List B5}{C:B5}{h1:B4}{m:Str->Option BZ}{tk:Nat}
  (I:Inv X pins σ H2 s2)(S:CScope X ls scope)(hh:Eg X.N ls σ=true)(f2: ∀b∈fp,Dn X pins H2 b)(ho: ∀b∈fp,∃o,s2.heap.get? b=some o)(hC:s2.heap.objs.size<=C)(hn:h1.Ns C m)
  (old: ∀b o,s2.heap.get? b=some o->h1.get? b=some o):
  Inv (cxC X ls scope C s2 H2 fp) [] (List.replicate ls.length none++σ) H2 {s2 with heap:=h1,toks:=tk}:=by
 have cf: ∀p∈scope.names,p.2=.free-> ∃c,X.env.cells.lookup p.1=some c:=fun p hp e=>I.ok.has _ (S.free p hp e)
 have c1: ∀y a,(DO scope X.env).lookup y=some a->X.env.cells.lookup y=some a:=jK X.env scope.names [] cf (fun y a e=>by simp at e)
 have c2: ∀y,scope.names.lookup y=some .free-> ∃a,(DO scope X.env).lookup y=some a:=fun y hy=>pK X.env scope.names [] y (PySem.mem_of_lookup hy)
 have lt2: ∀b∈fp,b<s2.heap.objs.size:=fun b hb=>let ⟨o,e⟩:=ho b hb;zy e
 have kinds: ∀y k,(C8 scope X.env).names.lookup y=some k->k=.cell\/k=.free->scope.names.lookup y=some .free:=fun y k h hk=>by
  rcases b3 (env:=X.env) h with q|⟨q,_⟩
  ·rcases hk with rfl|rfl
   ·exact absurd rfl (S.nocell _ (PySem.mem_of_lookup q))
   ·exact q
  ·exact q
 refine⟨⟨I.ok.mod,S.kind,I.ok.glob,I.ok.blt,hC,fun x y c e1 e2=>I.ok.inj x y c (c1 x c e1) (c1 y c e2),fun x hx=>?_,fun x c h=>absurd h zC,I.ok.hd,I.ok.frames,.inl rfl,fun b hb=>⟨?_,fun x c e=>(f2 b hb).2.2.2.2.1 x c (c1 x c e)⟩,I.bs,zJ I.ok.bsz I.sz,fun b o e hb=>?_,fun b hb hz=>?_,I.stack,I.stkFree⟩,
  rfl,I.bare,Un.kept old,⟨m,hn,fun i y v e1 e2 e3=>?_⟩,fun x c e=>?_,I.hok.fresh hC,fun x c e=>I.freeC x c (c1 x c e),fun p hp=>absurd (show p∈([]:List (B5×B7)) from hp) (by simp),I.hok.kept old,?_⟩
 ·have hx:(C8 scope X.env).names.lookup x=some .cell\/(C8 scope X.env).names.lookup x=some .free:=hx
  rcases hx with hx|hx
  ·exact c2 x (kinds x _ hx (.inl rfl))
  ·exact c2 x (kinds x _ hx (.inr rfl))
 ·exact zN (zH (lt2 b hb) hC)
 ·rcases (f2 b hb).2.2.2.1 with z|z
  ·exact I.ok.noex b o e z
  ·exact absurd (zH (zy e) (zJ I.ok.bsz z)) (Aq _)
 ·rcases zA.mp (I.stkSub b hz) with z|z
  ·exact (f2 b hb).2.1 z
  ·exact (f2 b hb).2.2.1 z
 ·have e1:(ls++X.N.map (hid ls))[i]?=some y:=e1
  by_cases hi:i<ls.length
  ·rw[Aa (by simpa using hi),Bd] at e2
   rw[if_pos hi] at e2
   cases e2
  ·rw[As (by omega)] at e1
   rw[As (by simpa using hi),At] at e2
   rw[zG] at e1
   obtain⟨y0,e1',ey⟩:=zM.mp e1
   have e3:(C8 scope X.env).names.lookup y=some .local \/(C8 scope X.env).names.lookup y=some .cell\/(C8 scope X.env).names.lookup y=some .free:=e3
   have ny:y0 ∉ ls:=fun hm=>by
    unfold hid at ey
    rw[if_pos (by simpa using hm)] at ey
    subst ey
    have no: ∀k,(C8 scope X.env).names.lookup ⟨#[63]++y0.cps⟩=some k->False:=fun k q=>by
     rcases b3 (env:=X.env) q with z|⟨z,_⟩
     ·exact S.noq y0 hm _ z
     ·exact S.noq y0 hm _ z
    rcases e3 with q|q|q<;>exact no _ q
   unfold hid at ey
   rw[if_neg (by simpa using ny)] at ey
   rw[ey] at e1' ny
   have e1:=e1'
   have fr:scope.names.lookup y=some .free:=by
    rcases e3 with q|q|q
    ·rcases b3 (env:=X.env) q with z|⟨_,z⟩
     ·exact absurd (S.loc y z) ny
     ·cases z
    ·exact kinds y _ q (.inl rfl)
    ·exact kinds y _ q (.inr rfl)
   have kx:=S.free _ (PySem.mem_of_lookup fr) rfl
   obtain⟨m2,_,hl⟩:=I.loc
   obtain⟨u,r,l⟩:=hl _ y v e1 e2 (.inr kx)
   refine⟨u,r,?_⟩
   have knd:(C8 scope X.env).names.lookup y=some .cell\/(C8 scope X.env).names.lookup y=some .free:=by
    rcases e3 with q|q
    ·rcases b3 (env:=X.env) q with z|⟨_,z⟩
     ·exact absurd (S.loc y z) ny
     ·cases z
    ·exact q
   rcases l with⟨k1,_⟩|⟨_,c,hc,hcell⟩
   ·have kx:X.env.kindOf y=some .cell\/X.env.kindOf y=some .free:=kx
    rcases kx with z|z<;>(rw[k1] at z;cases z)
   ·obtain⟨c',hc'⟩:=c2 y fr
    have:=c1 y c' hc'
    rw[hc] at this
    cases this
    refine .inr ⟨knd,c,hc',?_⟩
    obtain⟨o,ho,hd⟩:=hcell
    exact⟨o,old _ _ ho,hd⟩
 ·obtain⟨v,o,ho,hd⟩:=I.cell x c (c1 x c e)
  exact⟨v,o,old _ _ ho,hd⟩
 ·show (List.replicate ls.length none++σ).length=(ls++X.N.map (hid ls)).length
  rw[zv,zv,At,zr,I.len]
theorem su {X:Cx}{pins:List (B5×B7)}{σ σ':St}{H2 H3:Hp}{s2 s':B6}{ls:List Str}{scope:Cn}{fp:List B5}{C D:B5}{h':B4}{ys:List V}{its:List BZ}{n:Nat}{pl:List (B5×B7)}
  (I:Inv X pins σ H2 s2)(f2: ∀b∈fp,Dn X pins H2 b)(J:Inv (cxC X ls scope C s2 H2 fp) pl σ' H3 s')(hD:s2.heap.objs.size<=D)(hC:s2.heap.objs.size<=C)(hDC:D≠C)
  (sb:AF C s'.heap h')(hD3:H3 D=none)(e:s'.heap.get? D=some {cls:=.type "list",data:=.seq its.toArray n})(r:Vals ys its)(z:ys.length<=sizeLine):Inv X pins σ (upd H3 D (.lst ys)) {s' with heap:=h'}:=by
 have ext: ∀b o,b≠C->s'.heap.get? b=some o->h'.get? b=some o:=fun b o hb e=>sb.extBut b o hb e
 have neD: ∀b,b<s2.heap.objs.size->b≠D:=fun b hb=>zN (zH hb hD)
 have neC: ∀b,b<s2.heap.objs.size->b≠C:=fun b hb=>zN (zH hb hC)
 have lt: ∀b u,H2 b=some u->b<s2.heap.objs.size:=fun b u q=>by
  apply Classical.byContradiction
  intro hb
  have:=I.hok.fresh (Nat.le_of_not_lt hb)
  rw[this] at q
  cases q
 have fC:H3 C=none:=J.free
 refine I.call' (s':={s' with heap:=h'}) (ch:=fp) J.os ⟨fun b o q n hb hx=>?_,fun b o q n hb hx=>?_,fun b o q n hx=>?_,fun b o q hx=>?_,fun b xs q=>?_,fun b o u q=>?_,fun b ps q=>?_⟩ (fun b u q=>?_) J.bare fun b hb=>?_
 ·exact ext b o (neC b (zy q)) (J.base.keep b o q n hb hx)
 ·obtain⟨sl,w⟩:=J.base.slot b o q n hb hx
  exact⟨sl,ext b _ (neC b (zy q)) w⟩
 ·rw[ar (neD b (zy q))]
  exact J.base.free b o q n hx
 ·obtain⟨o',w⟩:=J.base.there b o q hx
  exact⟨o',ext b _ (neC b (zy q)) w⟩
 ·rw[ar (neD b (lt b _ q))];exact J.base.tups b xs q
 ·rw[ar (neD b (lt b _ q))];exact J.base.frzs b o u q
 ·rw[ar (neD b (lt b _ q))];exact J.base.tbls b ps q
 ·by_cases hb:b=D
  ·subst hb
   rw[aM] at q
   cases q
   exact⟨z,its,n,r,ext _ _ hDC e⟩
  ·rw[ar hb] at q
   have ne1:b≠C:=fun w=>by rw[w,fC] at q;cases q
   have ow: ∀c u,H3 c=some u->c≠D:=fun c u w z=>by rw[z,hD3] at w;cases w
   have oc: ∀c u,H3 c=some u->c≠C:=fun c u w z=>by rw[z,fC] at w;cases w
   refine (J.hok b u q).stay (fun c v hc w=>ext c v ?_ w) (fun c w=>by rw[ar (ow c _ w)];exact w) fun c xs w=>by rw[ar (ow c _ w)];exact w
   rcases hc with rfl|hc
   ·exact ne1
   ·exact oc c _ hc
 ·obtain⟨a1,a2,a3,a4,a5,a6⟩:=f2 b hb
  exact⟨a4,a2,a5,a6⟩
def Ds (X:Cx)(ifs:List Expr)(t:TT):Prop:=
 ∀ (pins:List (B5×B7)) (s:B6) (σ:St) (H:Hp) (Q:Bool->Hp->Prop),Inv X pins σ H s->t σ H Q->
   Ca (Cb X.prog X.w) X.A (forIn ifs true fun c r=>if r=true then do let ok<-isTrue c X.env (Cp c X.env);pure (ForInStep.yield ok) else pure (ForInStep.yield r)) (TP X pins σ Q) X.xe s
def Ht:TT:=fun _ H Q=>Q true H
theorem kY {X:Cx}:Ds X [] Ht:=fun _ _ _ H _ I h=>wpAny_tests_nil ⟨H,I,h⟩
theorem tV {X:Cx}{c:Expr}{t:TT}(h:PT X c t):Ds X [c] t:=fun pins s σ H Q I q=>wpAny_tests_one (h pins s σ H Q I q)
def Dg (J:It)(ls:List Str)(g:TG)(tt:TT)(te:TE)(σ:St)(H1:Hp)(Q:VK):Prop:= ∃W:Nat->Nat->List V->Hp->Prop,(∃m,W 0 m [] H1)/\ ∀i m ys H,W i m ys H->
 (J.stop i H/\ ∀D,H D=none->Q (.ref D) (upd H D (.lst ys)))\/
 (J.go i H/\ ∃R:List V->Hp->Prop,(∀ys' H',R ys' H'-> ∃m',m'<m/\W (i+1) m' ys' H')/\ ∀y H',J.yld i H y H'->
  g y (List.replicate ls.length none++σ) H' fun σ2 H2=>σ2.drop ls.length=σ/\σ2.length=ls.length+σ.length/\tt σ2 H2 fun b H3=>if b=true then te σ2 H3 fun v H4=>ys.length<sizeLine/\R (ys++[v]) H4 else R ys H3)
def Hl (N ls:List Str)(wi:TI)(g:TG)(tt:TT)(te:TE):TE:=fun σ H Q=>Eg N ls σ=true/\wi σ H fun J H1=>Dg J ls g tt te σ H1 Q
theorem f7 {prog:B2}{w:B3}{A:B8}{R:Result->B6->Prop}{s:B6}{elt target iter:Expr}{ifs:List Expr}{scope:Cn}{pos:Ct}{it acc:BZ}{env:Env}(I:Nat->B6->Prop)
  (turn: ∀n s,I n s->Ca (Cb prog w) A (pyNext it) (fun r s₁=>match r with
   |none=>R (.ok .next) s₁
   |some v=>Ca (Cb prog w) A (CK target it v) (fun _ s₁=>Ca (Cb prog w) A (assign target env v) (fun _ s₂=>
    Ca (Cb prog w) A (forIn ifs true fun c r=>if r=true then do let ok<-isTrue c env (Cp c env);pure (ForInStep.yield ok) else pure (ForInStep.yield r)) (fun ok s₃=>
     if ok=true then Ca (Cb prog w) A (Cp elt env) (fun x s₄=>
      Ca (Cb prog w) A (call (.builtin "list.append") [acc,x]) (fun _ s₅=> ∃m,m<n/\I m s₅) (notedBy (Cb prog w) A env fun e s'=>R (.error e) s') s₄) (notedBy (Cb prog w) A env fun e s'=>R (.error e) s') s₃
     else∃m,m<n/\I m s₃) (notedBy (Cb prog w) A env fun e s'=>R (.error e) s') s₂) (notedBy (Cb prog w) A env fun e s'=>R (.error e) s') s₁) (notedBy (Cb prog w) A env fun e s'=>R (.error e) s') s₁) (notedBy (Cb prog w) A env fun e s'=>R (.error e) s') s)
  (n:Nat)(h:I n s):
  codeAny (Cb prog w) A (.compLoop (.ListComp elt [⟨target,iter,ifs,0⟩] scope pos) 0 it acc env) R s:=by
 refine codeAny_loop rfl I (fun n s hI=>?_) n h
 show Ca _ A ((compTurn (.ListComp elt [⟨target,iter,ifs,0⟩] scope pos) 0 it acc env).onRaise (fun x=>do noteFrame x env;theTreesLotGoes x)) _ _ s
 refine wpAny_noted ?_
 rw[compTurn_list]
 refine Cc (wpAny_standAt (Cc (Cy (turn n s hI) (fun r s₁ h₁=>?_) fun _ _ h'=>h')))
 cases r with
 |none=>exact Cd h₁
 |some v=>
  refine Cc (Cy h₁ (fun _ s₁ h₁=>?_) fun _ _ h'=>h')
  refine Cc (Cy h₁ (fun _ s₂ h₂=>Cc (Cy h₂ (fun ok s₃ h₃=>?_) fun _ _ h'=>h')) fun _ _ h'=>h')
  cases ok with
  |false=>exact Cd ⟨rfl,h₃⟩
  |true=>
   exact Cc (Cc (Cy h₃ (fun x s₄ h₄=>Cc (Cy h₄ (fun _ s₅ h₅=>Cd (Cd ⟨rfl,h₅⟩)) fun _ _ h'=>h')) fun _ _ h'=>h'))
theorem thx {α:Type}{t:Sem α}{Q Q':α->B6->Prop}{M:Model}{A:B8}{E:BZ->B6->Prop}{s:B6}(h:Ca M A t Q (fun _ _=>False) s)(hQ: ∀a s,Q a s->Q' a s):Ca M A t Q' E s:=Cy h hQ fun _ _ x=>x.elim
section
variable {X:Cx}{elt iter tg:Expr}{ifs:List Expr}{scope:Cn}{pos:Ct}{ls:List Str}{wi:TI}{g:TG}{tt:TT}{te:TE}
theorem kq {use:Option (BZ->Sem Unit)}{pins:List (B5×B7)}{s:B6}{σ:St}{H:Hp}{Q:VK}{QQ:BZ->B6->Prop}{pos':Ct}(hcalm:X.calm=true)(S:CScope X ls scope)(hi:PI X tg iter wi)
  (hg: ∀C s2 H2 fp,PG (cxC X ls scope C s2 H2 fp) tg g)(ht: ∀C s2 H2 fp,Ds (cxC X ls scope C s2 H2 fp) ifs tt)(he: ∀C s2 H2 fp,PE (cxC X ls scope C s2 H2 fp) elt te)
  (hs: ∀x,CL iter X.env x=pure x)(I:Inv X pins σ H s)(h:Hl X.N ls wi g tt te σ H Q)
  (hQQ: ∀ (D C:B5) (s':B6) (H':Hp),(∃m,s'.heap.Ns C m)->Dn X pins H' C->(∀h',AF C s'.heap h'->Inv X pins σ H' {s' with heap:=h'})->Q (.ref D) H'->compPost (Cb X.prog X.w) X.A X.xe use QQ (.ref D) C (.ok .next) s'):
  Ca (Cb X.prog X.w) X.A (comprehension (.ListComp elt [⟨tg,iter,ifs,0⟩] scope pos) scope X.env pos' (newList []) false (Cp iter X.env) use) QQ X.xe s:=by
 obtain⟨hh,h⟩:=h
 have cf: ∀p∈scope.names,p.2=.free-> ∃c,X.env.cells.lookup p.1=some c:=fun p hp e=>I.ok.has _ (S.free p hp e)
 refine wpAny_comprehension_free (use:=use) rfl hs (oJ cf) S.kind S.names (thn (hi pins s σ H _ I h) fun v s1 h1=>thn h1 fun itv s2 h2=>?_)
 obtain⟨it,fp,tn,J,H2,rfl,I2,T,st2,f2,W,⟨m0,w0⟩,turn⟩:=h2
 refine C3 (wpAny_newFunctionEnv S.nocell (by intro y hy;simp at hy) (fun h₁ hns₁ hsb₁=>?_) S.kind)
 dsimp only at hns₁ hsb₁ ⊢
 generalize hH2:s2.heap.push {cls:=.type "list",dict:=none,data:=.seq ([]:List BZ).toArray}=G2 at hns₁ hsb₁ ⊢
 have hC:G2.objs.size=s2.heap.objs.size+1:=by rw[<-hH2,Ba]
 have hDC:s2.heap.objs.size≠G2.objs.size:=by rw[hC];exact zN (Bb _)
 have hCle:s2.heap.objs.size<=G2.objs.size:=by rw[hC];exact Bc _
 have old: ∀b o,s2.heap.get? b=some o->h₁.get? b=some o:=fun b o e=>hsb₁.extBut b o (zN (zH (zy e) hCle)) (zP _ (hH2▸zP _ e))
 have hacc:h₁.get? s2.heap.objs.size=some {cls:=.type "list",data:=.seq ([]:List BZ).toArray}:=hsb₁.extBut _ _ hDC (zP _ (hH2▸Af _ rfl))
 have hobj: ∀b∈fp,∃o,s2.heap.get? b=some o:=fun b hb=>let ⟨o,e,_⟩:=T.obj 0 _ st2 b hb;⟨o,e⟩
 have ltf: ∀b∈fp,b<s2.heap.objs.size:=fun b hb=>let ⟨o,e⟩:=hobj b hb;zy e
 have nofD:s2.heap.objs.size ∉ (cxC X ls scope G2.objs.size s2 H2 fp).fs:=fun z=>by
  rcases zA.mp (I2.stkSub _ z) with z|z
  ·exact absurd I2.lt (by rw[<-z];exact Aq _)
  ·exact I2.nofs (zu _) z
 have st1:tn 0 h₁:=T.keep 0 _ _ st2 fun b _ o e=>old b o e
 have J0: ∀tk,Inv (cxC X ls scope G2.objs.size s2 H2 fp) [] (List.replicate ls.length none++σ) H2 {s2 with heap:=h₁,toks:=tk}:=fun tk=>qv I2 S hh f2 hobj hCle hns₁ old
 have fpY: ∀ (Hx:Hp) (pl:List (B5×B7)),(∀b∈fp,Hx b=none)->(∀p∈pl,s2.heap.objs.size<=p.1)-> ∀b∈fp,Dn (cxC X ls scope G2.objs.size s2 H2 fp) pl Hx b:=fun Hx pl hx hp b hb=>
  ⟨hx b hb,((J0 0).ok.exf b hb).1,(J0 0).ok.exfs b hb,.inl hb,((J0 0).ok.exf b hb).2,fun p hpp=>by
   have hpp:p∈pl:=by simpa [cxC] using hpp
   exact Nat.ne_of_gt (zH (ltf b hb) (hp p hpp))⟩
 have loop: ∀s₃:B6,s₃={s2 with heap:=h₁,toks:=s2.toks+([]:List (Str×BZ)).length}->
   codeAny (Cb X.prog X.w) X.A (.compLoop (.ListComp elt [⟨tg,iter,ifs,0⟩] scope pos) 0 (.ref it) (.ref s2.heap.objs.size) (compEnvC scope (DO scope X.env) G2.objs.size X.env))
    (compPost (Cb X.prog X.w) X.A X.xe use QQ (.ref s2.heap.objs.size) G2.objs.size) s₃:=by
  rintro s₃ rfl
  refine f7 (fun n s'=> ∃ (i:Nat) (ys:List V) (its:List BZ) (k:Nat) (H':Hp),Inv (cxC X ls scope G2.objs.size s2 H2 fp) [] (List.replicate ls.length none++σ) H' s'/\tn i s'.heap/\(∀b∈fp,H' b=none)/\H' s2.heap.objs.size=none/\
   s'.heap.get? s2.heap.objs.size=some {cls:=.type "list",data:=.seq its.toArray k}/\Vals ys its/\ys.length<=sizeLine/\W i n ys H') ?_ m0
   ⟨0,[],[],0,H2,J0 _,st1,fun b hb=>(f2 b hb).1,I2.hok.fresh (zu _),hacc,.nil,zL _,w0⟩
  rintro n s3 ⟨i,ys,its,k,H3,I3,st3,fr3,d3,e3,r3,z3,w3⟩
  have big: ∀p∈[((s2.heap.objs.size:B5),({cls:=.type "list",data:=.seq its.toArray k}:B7))],s2.heap.objs.size<=p.1:=fun p hp=>by
   have this:=zT.mp hp
   subst this
   exact zu _
  rcases turn i n ys H3 w3 with⟨stop,qn⟩|⟨go,R,hR,step⟩
  ·
   have P3:Inv (cxC X ls scope G2.objs.size s2 H2 fp) [(s2.heap.objs.size,{cls:=.type "list",data:=.seq its.toArray k})] (List.replicate ls.length none++σ) H3 s3:=I3.pins_of fun p hp=>by
    have this:=zT.mp hp
    subst this
    exact⟨e3,d3,hDC,nofD,fun v z=>by cases z⟩
   refine thx (T.done (cxC X ls scope G2.objs.size s2 H2 fp) rfl rfl rfl hcalm i _ s3 _ H3 (fun _ _=>False) P3 (fpY H3 _ fr3 big) st3 stop) fun r s4 qz=>?_
   obtain⟨hr,I4⟩:=qz
   subst hr
   obtain⟨m,hm,_⟩:=I4.loc
   have e4:=(I4.pin _ (Ak _ (zT.mpr rfl))).1
   exact hQQ _ _ s4 _ ⟨m,hm⟩ (I2.fpOk hCle (by rw[ar (Ne.symm hDC)];exact I4.free)) (fun h' sb=>su I2 f2 I4 (zu _) hCle hDC sb d3 e4 r3 z3) (qn _ d3)
  ·
   have P3:Inv (cxC X ls scope G2.objs.size s2 H2 fp) [(s2.heap.objs.size,{cls:=.type "list",data:=.seq its.toArray k})] (List.replicate ls.length none++σ) H3 s3:=I3.pins_of fun p hp=>by
    have this:=zT.mp hp
    subst this
    exact⟨e3,d3,hDC,nofD,fun v z=>by cases z⟩
   refine thx (T.item (cxC X ls scope G2.objs.size s2 H2 fp) rfl rfl rfl hcalm i _ s3 _ H3 (fun _ _=>False) P3 (fpY H3 _ fr3 big) st3 go) fun r s4 qz=>?_
   obtain⟨u,hr,h4⟩:=qz
   subst hr
   refine thx h4 fun _ s5 qz=>?_
   obtain⟨x,H5,I5,r5,y5,st5,fr5⟩:=qz
   have I5':=I5.pinned (fpY H5 _ fr5 big) (T.obj _ _ st5)
   refine thx (hg _ _ _ _ _ s5 _ H5 x u _ I5' r5 (step x H5 y5)) fun _ s6 qz=>?_
   obtain⟨σ6,H6,I6,q6⟩:=qz
   obtain⟨dr,ln,q6⟩:=q6
   have back: ∀ {s7:B6}{H7:Hp},Inv (cxC X ls scope G2.objs.size s2 H2 fp) ([((s2.heap.objs.size:B5),({cls:=.type "list",data:=.seq its.toArray k}:B7))]++jo fp s5.heap) σ6 H7 s7->
     Inv (cxC X ls scope G2.objs.size s2 H2 fp) [] (List.replicate ls.length none++σ) H7 s7/\tn (i+1) s7.heap/\(∀b∈fp,H7 b=none)/\H7 s2.heap.objs.size=none/\s7.heap.get? s2.heap.objs.size=some {cls:=.type "list",data:=.seq its.toArray k}:=fun{s7 H7} I7=>by
    have pD:=I7.pin _ (Ak _ (A8 _ (zT.mpr rfl)))
    have pF: ∀b∈fp,∀o,s5.heap.get? b=some o->s7.heap.get? b=some o/\H7 b=none:=fun b hb o e=>by
     have q:=I7.pin (b,o) (Ak _ (Ak _ (gD hb e)))
     exact⟨q.1,q.2.1⟩
    refine⟨(I7.pins_of (pins':=[]) fun p hp=>absurd hp (by simp)).weak ?_ ?_,T.keep _ _ _ st5 fun b hb o e=>(pF b hb o e).1,fun b hb=>?_,pD.2.1,pD.1⟩
    ·rw[ln,zv,At]
    ·intro j v ej
     by_cases hj:j<ls.length
     ·rw[Aa (by simpa using hj),Bd,if_pos hj] at ej
      cases ej
     ·rw[As (by simpa using hj),At,<-dr,Bh] at ej
      rw[<-ej]
      congr 1
      omega
    ·obtain⟨o,e,_⟩:=T.obj _ _ st5 b hb
     exact (pF b hb o e).2
   refine thx (ht _ _ _ _ _ s6 σ6 H6 _ I6 q6) fun b s7 qz=>?_
   obtain⟨H7,I7,q7⟩:=qz
   cases b with
   |false=>
    rw[if_neg zC] at q7 ⊢
    obtain⟨m',hm,w7⟩:=hR _ _ q7
    obtain⟨a1,a2,a3,a4,a5⟩:=back I7
    exact⟨m',hm,i+1,ys,its,k,H7,a1,a2,a3,a4,a5,r3,z3,w7⟩
   |true=>
    rw[if_pos rfl] at q7 ⊢
    refine thx (he _ _ _ _ _ s7 σ6 H7 _ I7 q7) fun y s8 qz=>?_
    obtain⟨v,H8,I8,r8,z8,q8⟩:=qz
    obtain⟨m',hm,w8⟩:=hR _ _ q8
    obtain⟨a1,a2,a3,a4,a5⟩:=back I8
    have pl:s8.heap.PlainList s2.heap.objs.size its.toArray:=⟨k,a5⟩
    refine wpAny_list_append_plain (hsz:=by rw[zF,<-r3.length];exact z3) pl fun h9 hl9 hs9=>?_
    obtain⟨k9,e9⟩:=hl9
    have cellN: ∀ (y:Str) (c:B5),(cxC X ls scope G2.objs.size s2 H2 fp).env.cells.lookup y=some c->c≠s2.heap.objs.size:=fun y c e=>by
     have e1:X.env.cells.lookup y=some c:=jK X.env scope.names [] cf (fun y a e=>by simp at e) y c e
     obtain⟨v,o,ho,_⟩:=I2.cell y c e1
     exact zN (zy ho)
    have I9:Inv (cxC X ls scope G2.objs.size s2 H2 fp) [] (List.replicate ls.length none++σ) H8 {s8 with heap:=h9}:=
     a1.turned (t':=s8.toks) (fun b o hb e=>hs9.extBut b o hb e) a4 hDC (.inr (zu _)) cellN (fun p hp=>absurd (show p∈([]:List (B5×B7)) from hp) (by simp))
    refine⟨m',hm,i+1,ys++[v],its++[y],k9,H8,I9,T.keep _ _ _ a2 fun b hb o e=>hs9.extBut b o (zN (ltf b hb)) e,a3,a4,?_,r3.append (.cons r8 .nil),?_,w8⟩
    ·simpa using e9
    ·rw[zv,zU];exact z8
 exact codeAny_compStart_list (loop _ rfl) (T.self _ 0 _ _ _ st1 (loop _ rfl))
theorem kZ (hcalm:X.calm=true)(S:CScope X ls scope)(hi:PI X tg iter wi)
  (hg: ∀C s2 H2 fp,PG (cxC X ls scope C s2 H2 fp) tg g)(ht: ∀C s2 H2 fp,Ds (cxC X ls scope C s2 H2 fp) ifs tt)(he: ∀C s2 H2 fp,PE (cxC X ls scope C s2 H2 fp) elt te)
  (hs: ∀x,CL iter X.env x=pure x:=by intro _;rfl):PE X (.ListComp elt [⟨tg,iter,ifs,0⟩] scope pos) (Hl X.N ls wi g tt te):=by
 intro pins s σ H Q I h
 rw[eval_ListComp]
 refine kq (use:=none) hcalm S hi hg ht he hs I h fun D C s' H' hm _ hI q=>?_
 obtain⟨m,hm⟩:=hm
 exact⟨m,hm,fun h' sb=>⟨.ref D,H',hI h' sb,rfl,q⟩⟩
theorem jk {i:Nat}{x:Str}{px spos:Ct}(hN:X.N.Nodup)(hx1:X.N[i]?=some x)(hx:X.env.scope.names.lookup x=some .local)(hcalm:X.calm=true)(S:CScope X ls scope)(hi:PI X tg iter wi)
  (hg: ∀C s2 H2 fp,PG (cxC X ls scope C s2 H2 fp) tg g)(ht: ∀C s2 H2 fp,Ds (cxC X ls scope C s2 H2 fp) ifs tt)(he: ∀C s2 H2 fp,PE (cxC X ls scope C s2 H2 fp) elt te)
  (hsw:swapsWith (.ListComp elt [⟨tg,iter,ifs,0⟩] scope pos) (some (.Name x px)) spos.line X.env=pure true:=by rfl)
  (hs: ∀x,CL iter X.env x=pure x:=by intro _;rfl):PS X (.Assign [.Name x px] (.ListComp elt [⟨tg,iter,ifs,0⟩] scope pos) spos) (Hk (Hl X.N ls wi g tt te) (Ed i)):=by
 intro pins s σ H D I h
 rw[exec_Assign_Name_used _ _ _ _ hsw]
 refine Cc (wpAny_standAt (Cc ?_))
 show Ca _ X.A (do let _<-comprehension (.ListComp elt [⟨tg,iter,ifs,0⟩] scope pos) scope X.env _ (newList []) false (Cp iter X.env) (some (assign (.Name x px) X.env))) _ _ s
 refine Cc (Cy (kq (use:=some (assign (.Name x px) X.env)) (QQ:=fun _ s'=>SP X pins D .next s') hcalm S hi hg ht he hs I h fun Dd C s' H' hm hf hI q=>?_) (fun _ s' hq=>Cd (Cd hq)) fun _ _ e=>e)
 obtain⟨m,hm⟩:=hm
 have I1:Inv X pins σ H' s':=hI s'.heap (.refl ..)
 show Ca _ X.A (assign (.Name x px) X.env (.ref Dd)) _ _ _
 refine wpAny_assign_Name (ka (v:=.ref Dd) I1 hN hx1 (.inl hx) rfl (fun s2 I2 ch=>?_) (.inr hx))
 obtain⟨f0,f1,f2,f3,f4,f5⟩:=hf
 obtain⟨a,sb,ha⟩:=ch
 have hne:C≠a:=by
  rcases ha with ha|ha
  ·rw[ha];exact f1
  ·exact Ne.symm (f4 _ _ ha)
 refine⟨m,hm.sameBut sb hne,fun h' sb'=>?_⟩
 exact⟨_,H',I2.turned (t':=s2.toks) (fun b o hb e=>sb'.extBut b o hb e) f0 f1 f3 f4 f5,q⟩
end
end
section
noncomputable def pI (ls:List Str)(sc outer:Cn):Bool:=(sc.kind==.function && ls.all fun y=>(sc.names.lookup ⟨#[63]++y.cps⟩).isNone) && sc.names.all fun y=>(y.2 !=.cell) && (y.2 !=.local ||(sc.names.lookup y.1==some .local && ls.contains y.1)) && (y.2 !=.free||outer.names.lookup y.1==some .cell||outer.names.lookup y.1==some .free)
theorem CScope.of {X:Cx}{ls:List Str}{scope:Cn}(outer:Cn)(h:pI ls scope outer=true:=by decide+kernel)(ho:X.env.scope=outer:=by rfl):CScope X ls scope:=by
 unfold pI at h
 rw[zI,zR] at h
 obtain⟨h0,h⟩:=h
 rw[zI,zR] at h0
 obtain⟨h0,hq⟩:=h0
 refine⟨by simpa using h0,fun y hy e=>?_,fun y hy e=>?_,fun y hy=>?_,fun y hy e=>?_,fun y hy k e=>by have q:=hq y hy;rw[e] at q;cases q⟩
 ·have q:=h y hy
  simp [e] at q
 ·have q:=h y hy
  simp [e] at q
  exact q.1
 ·have q:=h _ (PySem.mem_of_lookup hy)
  simp at q
  exact q.2
 ·have q:=h y hy
  simp [e] at q
  show X.env.scope.names.lookup y.1=_\/X.env.scope.names.lookup y.1=_
  rw[ho]
  exact q
noncomputable def CMulB (i j:Int):Prop:=i.natAbs<2 ^ 65536/\j.natAbs<2 ^ 65536
theorem pM {i:Int}{n:Nat}(h:i.natAbs<2 ^ n):B1.Int.intBits i<=n:=by
 unfold B1.Int.intBits
 split
 ·exact zL _
 ·rename_i hz
  have hz':i.natAbs≠0:=by
   intro e
   exact hz (by simp_all)
  have:=(AQ hz').mpr h
  omega
theorem CMulB.ok {i j:Int}(h:CMulB i j):IntMulOk i j:=.of_bits (zJ (pM h.1) (by decide)) (zJ (pM h.2) (by decide))
section
variable {X:Cx}
theorem iF: ∀ {ns:List Int}{us:List BZ},Vals (ns.map V.int) us->IntsAre us ns
 |[],_,.nil=>.nil
 |n::r,_,.cons h t=>by
  obtain⟨tk,rfl⟩:=h
  exact .cons n tk (iF t)
theorem sK (hc:X.calm=true):CallR X (.builtin "sum") (fun xs H Q=> ∃ (p:B5) (ns:List Int),xs=[.ref p]/\SqL X.K H p (ns.map V.int)/\Q (.int ns.sum) H):=by
 intro pins s σ H xs us Q I r h
 obtain⟨p,ns,rfl,hq,q⟩:=h
 obtain⟨u,rfl,ru⟩:=Hz r
 cases ru
 obtain⟨its,rv,pl,hz⟩:=I.list hq
 have hi:=iF rv
 obtain⟨xs,e⟩:=hi.allInts.items
 have hl:s.heap.IsList p (intItems xs):=by rw[<-e];exact pl.isList
 refine sum_intListG (I.ok.hd hc) hl fun h' tk t' hk=>?_
 have es:preSum (numAt xs) xs.size=ns.sum:=by
  rw[preSum_eq,Bi (by simp),<-nums_intItems,<-e]
  rw[show its.toArray.toList=its from rfl,hi.numsOf]
 exact⟨.int ns.sum,H,I.kept (t':=tk) hk,⟨t',by rw[es]⟩,q⟩
theorem DI:CallR X (.builtin "isinstance") (fun xs H Q=> ∃ (x c:V) (cv t:BZ) (b:Bool),xs=[x,c]/\RelV c cv/\DA X.K H x t/\kitOne X.K t cv=some b/\Q (.bl b) H):=by
 intro pins s σ H xs us Q I r h
 obtain⟨x,c,cv,t,b,rfl,rc,ty,e,q⟩:=h
 obtain⟨u,u',rfl,ru,ru'⟩:=HA r
 have:u'=cv:=by
  cases c with
  |ref a=>cases rc;cases ru';rfl
  |ty n=>cases rc;cases ru';rfl
  |non=>cases rc;cases ru';rfl
  |bl _=>cases rc;cases ru';rfl
  |int _=>obtain⟨t1,rfl⟩:=rc;exact absurd e (by simp [kitOne,PySem.W.kitCls];intro h;cases ty<;>cases h)
  |str _=>obtain⟨t1,rfl⟩:=rc;exact absurd e (by simp [kitOne,PySem.W.kitCls];intro h;cases ty<;>cases h)
  |byt _=>obtain⟨t1,rfl⟩:=rc;exact absurd e (by simp [kitOne,PySem.W.kitCls];intro h;cases ty<;>cases h)
  |flt _=>obtain⟨t1,rfl⟩:=rc;exact absurd e (by simp [kitOne,PySem.W.kitCls];intro h;cases ty<;>cases h)
 subst this
 exact qp I ru ty e fun tk=>⟨.bl b,H,I.tok tk,rfl,q⟩
mutual
inductive Den (K:PySem.W.Frag)(H:Hp):V->C9->Prop
 |non:Den K H .non .none
 |bl (b):Den K H (.bl b) (.bool b)
 |int (i):Den K H (.int i) (.int i)
 |str (x):Den K H (.str x) (.str x)
 |lst {a xs ds}:SqL K H a xs->Di K H xs ds->Den K H (.ref a) (.list ds)
 |tup {a xs ds}:SqT K H a xs->Di K H xs ds->Den K H (.ref a) (.tuple ds)
inductive Di (K:PySem.W.Frag)(H:Hp):List V->List C9->Prop
 |nil:Di K H [] []
 |cons {x xs d ds}:Den K H x d->Di K H xs ds->Di K H (x::xs) (d::ds)
end
mutual
theorem eI {pins:List (B5×B7)}{σ:St}{H:Hp}{s:B6}(I:Inv X pins σ H s): ∀ {x:V}{d:C9}{u:BZ},Den X.K H x d->RelV x u-> ∃as,Reads s.heap u d as
 |_,_,_,.non,r=>by cases r;exact⟨_,.none⟩
 |_,_,_,.bl b,r=>by cases r;exact⟨_,.bool b⟩
 |_,_,_,.int i,r=>by obtain⟨t,rfl⟩:=r;exact⟨_,.int i t⟩
 |_,_,_,.str i,r=>by obtain⟨t,rfl⟩:=r;exact⟨_,.str i t⟩
 |_,_,_,.lst hq ha,r=>by
  cases r
  obtain⟨its,rv,⟨o,n,e1,e2,e3,e4⟩,hz⟩:=I.list hq
  obtain⟨as,h⟩:=e5 I ha rv
  exact⟨_,.list e1 e2 e4 (by simpa using h)⟩
 |_,_,_,.tup hq ha,r=>by
  cases r
  obtain⟨its,rv,⟨o,e1,e2,n,e3⟩,hz⟩:=I.tuple hq
  obtain⟨as,h⟩:=e5 I ha rv
  exact⟨_,.tuple e1 e2 e3 (by simpa using h)⟩
theorem e5 {pins:List (B5×B7)}{σ:St}{H:Hp}{s:B6}(I:Inv X pins σ H s): ∀ {xs:List V}{ds:List C9}{us:List BZ},Di X.K H xs ds->Vals xs us-> ∃as,ReadsAll s.heap us ds as
 |_,_,_,.nil,.nil=>⟨_,.nil⟩
 |_,_,_,.cons h t,.cons r rs=>by
  obtain⟨as,h1⟩:=eI I h r
  obtain⟨bs,h2⟩:=e5 I t rs
  exact⟨_,.cons h1 h2⟩
end
def Gk (K:PySem.W.Frag)(A:B8)(neg:Bool):R2:=fun x y H Q=> ∃d e,Den K H x d/\Den K H y e/\d.canLay0=true/\e.canLay0=true/\A.units+min d.depth e.depth<B9/\Q (.bl (if neg then !C9.eqv d e else C9.eqv d e)) H
theorem wJ:OpR X (Cz .Eq) (Gk X.K X.A false):=by
 intro pins s σ H x y v u Q I rx ry h
 obtain⟨d,e,hd,he,cd,ce,hu,q⟩:=h
 obtain⟨as,ra⟩:=eI I hd rx
 obtain⟨bs,rb⟩:=eI I he ry
 exact SeqAt.compareEq_reads ra rb cd ce hu ⟨.bl _,H,I,rfl,q⟩
theorem wG:OpR X (Cz .NotEq) (Gk X.K X.A true):=by
 intro pins s σ H x y v u Q I rx ry h
 obtain⟨d,e,hd,he,cd,ce,hu,q⟩:=h
 obtain⟨as,ra⟩:=eI I hd rx
 obtain⟨bs,rb⟩:=eI I he ry
 exact SeqAt.compareNe_reads ra rb cd ce hu ⟨.bl _,H,I,rfl,q⟩
end
end
section
def CXx (P:B2)(w:B3):CXT:=fun outer H s E e s'=>
 ∃ (ea:B5) (cls a0:BZ) (H':Hp) (B:B4),e=.ref ea/\s'.os=s.os/\Co s'.gens/\Un (frs outer) [] H H' s.heap s'.heap/\HOk P w H' s'.heap/\B4.FlyingW B outer ea cls a0 s'.heap/\
   (∀b o,s'.heap.get? b=some o->b ∉ frs outer->(H' b≠none\/ ∃o',s.heap.get? b=some o')->B.get? b=some o)/\s.heap.get? ea=none/\H' ea=none/\E cls none H'
theorem HOk.there {P:B2}{w:B3}{H:Hp}{h:B4}(x:HOk P w H h){a:B5}{o:HO}(e:H a=some o): ∃ob,h.get? a=some ob:=by
 have q:=x a o e
 cases o with
 |lst xs=>obtain⟨_,its,n,_,e⟩:=q;exact⟨_,e⟩
 |tup xs=>obtain⟨_,its,_,⟨ob,e,_⟩,_⟩:=q;exact⟨_,e⟩
 |dK kvs=>obtain⟨_,_,vs,_,ob,es,ep,e,_⟩:=q;exact⟨_,e⟩
 |dT kvs=>obtain⟨_,_,xs,_,ob,es,ep,e,_⟩:=q;exact⟨_,e⟩
 |dN b xs ep=>obtain⟨_,_,xs,_,ob,es,e,_⟩:=q;exact⟨_,e⟩
 |set S n=>obtain⟨ob,_,_,_,e,_⟩:=q;exact⟨_,e⟩
 |ins C dx fs=>obtain⟨_,_,_,e,_⟩:=q;exact⟨_,e⟩
 |own y=>exact q
 |xd fs=>obtain⟨_,⟨_,_,_,e,_⟩,_⟩:=q;exact⟨_,e⟩
 |met f y=>exact⟨_,q⟩
 |rng lo hi=>obtain⟨_,_,_,e⟩:=q;exact⟨_,e⟩
 |frz ob u=>exact⟨_,q.1⟩
 |tbl ps=>exact⟨_,q⟩
 |ext φ=>exact q.2.1
structure InDef (X:Cx):Prop where
 stk:X.stack=X.env::X.outer
 fr:X.env.frame=some X.env.locals
 ex:X.ex=[]
theorem InDef.frs {X:Cx}(D:InDef X):frs X.stack=X.env.locals::X.fs:=by
 rw[D.stk]
 unfold L2.frs
 rw[An,D.fr]
 rfl
section
variable {X:Cx}{pins:List (B5×B7)}{σ:St}{H:Hp}{s:B6}
theorem Inv.frame_obj (I:Inv X pins σ H s){b:B5}(hb:b∈frs X.stack): ∃o,s.heap.get? b=some o/\ ∀vs,o.data≠.fields vs:=(I.stack.mem hb).2
theorem mW (I:Inv X pins σ H s)(D:InDef X){h':B4}{e:B5}{C:BZ}{args:List BZ}(hx:Bj s.heap h' e C args){M:Model}{Q:Unit->B6->Prop}{E:BZ->B6->Prop}
  (hQ: ∀ (h'':B4) (a0:BZ) (B:B4),B4.FlyingW B X.outer e C a0 h''->(∀b o,s.heap.get? b=some o->b ∉ frs X.stack->B.get? b=some o)->(∀b∈frs X.stack,B.get? b=none)->s.heap.UpToSlots h''->Q () {s with heap:=h''}):
  Ca M X.A (leaving X.env (.ref e)) Q E {s with heap:=h'}:=by
 have hin: ∀env∈X.stack,∀b,env.frame=some b->b∈frs X.stack:=fun env he b hb=>A9.mpr ⟨env,he,hb⟩
 have hl:=PySem.W.funFrames_hide I.stack hin
 have fr:=I.ok.frames
 rw[D.stk] at fr
 have hl':s.heap.FunFrames (PySem.W.hideAll s.heap (frs X.stack)) (X.env::X.outer):=by rw[<-D.stk];exact hl
 exact wpAny_leaves_madeW (s:={s with heap:=h'}) fr D.fr (fun b o q=>PySem.W.of_hideAll _ q) hl' hx fun h'' t x1 x2 x3 x4=>
  hQ h'' (.ref t) _ x1 (fun b o q hb=>PySem.W.hideAll_get _ q hb) (fun b hb=>PySem.W.hideAll_none _ hb) ((B4.UpToSlots.of_keeps hx.keeps).trans x4)
end
section
variable {P:B2}{w:B3}{K:PySem.W.Frag}{mg:Str->Option BZ}{base:B4}{N:List Str}{qual:Str}{scope:Cn}{f:B5}{cd:BZ}{A:B8}{outer:List Env}{s:B6}{H:Hp}{E:XK}
theorem jF {CX:CXT}:InDef (DU CX P w K mg base N qual scope f cd A outer s H E):=⟨rfl,rfl,rfl⟩
theorem kR {pins:List (B5×B7)}{σ:St}{H1:Hp}{s1:B6}{h':B4}{e:B5}{C:BZ}{args:List BZ}(I:Inv (DU (CXx P w) P w K mg base N qual scope f cd A outer s H E) pins σ H1 s1)
  (hx:Bj s1.heap h' e C args)(hE:E C none H1):(DU (CXx P w) P w K mg base N qual scope f cd A outer s H E).xe (.ref e) {s1 with heap:=h'}:=by
 refine mW I jF hx fun h'' a0 B fl cov nof up=>?_
 have fr2: ∀b,b∈frs (DU (CXx P w) P w K mg base N qual scope f cd A outer s H E).stack↔b=s.heap.objs.size\/b∈frs outer:=fun b=>by
  rw[(jF (CX:=CXx P w)).frs]
  exact zA
 have old: ∀b o,s.heap.get? b=some o->b≠s.heap.objs.size:=fun b o q=>zN (zy q)
 have keepB: ∀b o,s1.heap.get? b=some o->b≠s.heap.objs.size->b ∉ frs outer->h''.get? b=some o:=fun b o q h1 h2=>fl.1 b o (cov b o q fun z=>((fr2 b).mp z).elim h1 h2)
 have tr: ∀b u,H1 b=some u->b≠s.heap.objs.size/\b ∉ frs outer:=fun b u q=>by
  refine⟨fun z=>?_,fun z=>?_⟩
  ·have:=I.stkFree b ((fr2 b).mpr (.inl z));rw[this] at q;cases q
  ·have:=I.stkFree b ((fr2 b).mpr (.inr z));rw[this] at q;cases q
 have slotB: ∀b o,s1.heap.get? b=some o->b∈frs outer-> ∃sl,h''.get? b=some {o with slots:=sl}:=fun b o q hb=>by
  obtain⟨o',e',nd⟩:=I.frame_obj ((fr2 b).mpr (.inr hb))
  rw[q] at e';cases e'
  exact up b o q nd
 have baseU:Un (frs outer) [] H H1 s.heap s1.heap:=I.base
 refine⟨e,C,a0,H1,B,rfl,I.os,I.bare,⟨fun b o q n hb hx=>?_,fun b o q n hb hx=>?_,fun b o q n hx=>baseU.free b o q n hx,fun b o q hx=>?_,baseU.tups,baseU.frzs,baseU.tbls⟩,fun b u q=>?_,fl,fun b o q hb hh=>?_,?_,?_,hE⟩
 ·exact keepB b o (baseU.keep b o q n hb hx) (old b o q) hb
 ·obtain⟨sl,q1⟩:=baseU.slot b o q n hb hx
  obtain⟨sl',q2⟩:=slotB b _ q1 hb
  exact⟨sl',q2⟩
 ·obtain⟨o',q1⟩:=baseU.there b o q hx
  by_cases hb:b∈frs outer
  ·obtain⟨sl',q2⟩:=slotB b _ q1 hb
   exact⟨_,q2⟩
  ·exact⟨o',keepB b o' q1 (old b o q) hb⟩
 ·refine (I.hok b u q).stay (fun c v hc r=>?_) (fun _ r=>r) fun _ _ r=>r
  have: ∃u,H1 c=some u:=by
   rcases hc with rfl|hc
   ·exact⟨u,q⟩
   ·exact⟨_,hc⟩
  obtain⟨u',qu⟩:=this
  exact keepB c v r (tr c u' qu).1 (tr c u' qu).2
 ·have: ∃o1,s1.heap.get? b=some o1/\b≠s.heap.objs.size:=by
   rcases hh with hh|⟨o',hh⟩
   ·cases qu:H1 b with
    |none=>exact absurd qu hh
    |some u=>
     obtain⟨o1,q1⟩:=I.hok.there qu
     exact⟨o1,q1,(tr b u qu).1⟩
   ·obtain⟨o1,q1⟩:=baseU.there b o' hh (by simp)
    exact⟨o1,q1,old b o' hh⟩
  obtain⟨o1,q1,hne⟩:=this
  have q2:=keepB b o1 q1 hne hb
  rw[q] at q2
  cases q2
  exact cov b o q1 fun z=>((fr2 b).mp z).elim hne hb
 ·cases q:s.heap.get? e with
  |none=>rfl
  |some o'=>
   obtain⟨o1,q1⟩:=baseU.there e o' q (by simp)
   rw[hx.new] at q1;cases q1
 ·cases q:H1 e with
  |none=>rfl
  |some u=>
   obtain⟨o1,q1⟩:=I.hok.there q
   rw[hx.new] at q1;cases q1
theorem dG:fm (CXx P w) (DU (CXx P w) P w K mg base N qual scope f cd A outer s H E) E:=by
 intro pins σ H1 s1 e s2 I hc
 obtain⟨ea,cls,a0,H2,B,rfl,os,bare,un,hok,fly,cov,new,hn,hE⟩:=hc
 have frm:=I.ok.frames
 refine wpAny_leaves_onW (show (A.deeper (C2 qual scope s.heap.objs.size f cd)).frames=some (C2 qual scope s.heap.objs.size f cd::outer) from frm) rfl fly fun h' fl up=>?_
 have fr2: ∀b,b∈frs (DU (CXx P w) P w K mg base N qual scope f cd A outer s H E).stack↔b=s.heap.objs.size\/b∈frs outer:=fun b=>by
  rw[(jF (CX:=CXx P w)).frs]
  exact zA
 have old: ∀b o,s.heap.get? b=some o->b≠s.heap.objs.size:=fun b o q=>zN (zy q)
 have baseU:Un (frs outer) [] H H1 s.heap s1.heap:=I.base
 have frN: ∀b,b∈frs (DU (CXx P w) P w K mg base N qual scope f cd A outer s H E).stack->H2 b=none:=fun b hb=>by
  obtain⟨o,q,_⟩:=I.frame_obj hb
  exact un.free b o q (I.stkFree b hb) (by simp)
 have tr: ∀b u,H2 b=some u->b ∉ frs (DU (CXx P w) P w K mg base N qual scope f cd A outer s H E).stack:=fun b u q z=>by rw[frN b z] at q;cases q
 have slotB: ∀b o,s2.heap.get? b=some o->b∈frs (DU (CXx P w) P w K mg base N qual scope f cd A outer s H E).stack-> ∃sl,h'.get? b=some {o with slots:=sl}:=fun b o q hb=>by
  obtain⟨o',e',nd⟩:=(fly.2.2.1.mem hb).2
  rw[q] at e';cases e'
  exact up b o q nd
 have noSt: ∀b o,s.heap.get? b=some o->b ∉ frs outer->b ∉ frs (DU (CXx P w) P w K mg base N qual scope f cd A outer s H E).stack:=fun b o q hb z=>((fr2 b).mp z).elim (old b o q) hb
 refine⟨ea,cls,a0,H2,B,rfl,os.trans I.os,bare,⟨fun b o q n hb hx=>?_,fun b o q n hb hx=>?_,fun b o q n hx=>?_,fun b o q hx=>?_,fun b xs q=>un.tups b xs (baseU.tups b xs q),fun b o u q=>un.frzs b o u (baseU.frzs b o u q),fun b ps q=>?_⟩,fun b u q=>?_,fl,fun b o q hb hh=>?_,?_,hn,hE⟩
 ·have q1:=baseU.keep b o q n hb hx
  have q2:=un.keep b o q1 (baseU.free b o q n hx) (noSt b o q hb) hx
  exact fl.1 b o (cov b o q2 (noSt b o q hb) (.inr ⟨o,q1⟩))
 ·obtain⟨sl,q1⟩:=baseU.slot b o q n hb hx
  obtain⟨sl2,q2⟩:=un.slot b _ q1 (baseU.free b o q n hx) ((fr2 b).mpr (.inr hb)) hx
  obtain⟨sl3,q3⟩:=slotB b _ q2 ((fr2 b).mpr (.inr hb))
  exact⟨sl3,q3⟩
 ·obtain⟨o1,q1⟩:=baseU.there b o q hx
  exact un.free b o1 q1 (baseU.free b o q n hx) hx
 ·obtain⟨o1,q1⟩:=baseU.there b o q hx
  obtain⟨o2,q2⟩:=un.there b o1 q1 hx
  by_cases hb:b∈frs outer
  ·obtain⟨sl,q3⟩:=slotB b o2 q2 ((fr2 b).mpr (.inr hb))
   exact⟨_,q3⟩
  ·exact⟨o2,fl.1 b o2 (cov b o2 q2 (noSt b o q hb) (.inr ⟨o1,q1⟩))⟩
 ·obtain⟨m1,e1⟩:=baseU.tbls b ps q
  obtain⟨m2,e2⟩:=un.tbls b _ e1
  exact⟨m1++m2,by rw[e2,Bz]⟩
 ·refine (hok b u q).stay (fun c v hc r=>?_) (fun _ r=>r) fun _ _ r=>r
  have: ∃u,H2 c=some u:=by
   rcases hc with rfl|hc
   ·exact⟨u,q⟩
   ·exact⟨_,hc⟩
  obtain⟨u',qu⟩:=this
  exact fl.1 c v (cov c v r (tr c u' qu) (.inl (by rw[qu];simp)))
 ·have: ∃o2,s2.heap.get? b=some o2/\B.get? b=some o2:=by
   rcases hh with hh|⟨o',hh⟩
   ·cases qu:H2 b with
    |none=>exact absurd qu hh
    |some u=>
     obtain⟨o2,q2⟩:=hok.there qu
     exact⟨o2,q2,cov b o2 q2 (tr b u qu) (.inl hh)⟩
   ·obtain⟨o1,q1⟩:=baseU.there b o' hh (by simp)
    obtain⟨o2,q2⟩:=un.there b o1 q1 (by simp)
    exact⟨o2,q2,cov b o2 q2 (noSt b o' hh hb) (.inr ⟨o1,q1⟩)⟩
  obtain⟨o2,q2,q3⟩:=this
  have q4:=fl.1 b o2 q3
  rw[q] at q4
  cases q4
  exact q3
 ·cases q:s.heap.get? ea with
  |none=>rfl
  |some o'=>
   obtain⟨o1,q1⟩:=baseU.there ea o' q (by simp)
   rw[new] at q1;cases q1
end
end
section
noncomputable def Its (x:Str):It:=⟨fun i _=>i<x.cps.size,fun i H v H'=>H'=H/\ ∃c,x.cps.toList[i]?=some c/\v=.str ⟨#[c]⟩,fun i _=>i=x.cps.size⟩
theorem nO (x:Str):["enumerate", "zip", "dict_itemiterator", "dict_reverseitemiterator", "odict_iterator", "itertools.zip_longest", "itertools.pairwise"].contains (Da x)=false:=by
 unfold Da
 split<;>decide
theorem j4 {prog:B2}{w:B3}{A:B8}(hh:A.handled=none)(I:B5)(x:Str)(t:Tok):Walks prog w A I [I] [I] x.cps.size (SignAt x) (fun i h=>h.IsStrIter I (Da x) x t i):=by
 unfold Da
 split
 ·exact Walks.strAscii hh I x t
 ·exact Walks.strWide hh I x t
theorem qm {prog:B2}{w:B3}{A:B8}{E:BZ->B6->Prop}{s:B6}{it:B5}{x:Str}{t:Tok}{i:Nat}{Q:BZ->B6->Prop}(hit:s.heap.IsStrIter it (Da x) x t i)(h:Q (.ref it) s):
  Ca (Cb prog w) A (pyIter (.ref it)) Q E s:=by
 unfold Da at hit
 split at hit
 ·exact wpAny_pyIter_striter_ascii hit h
 ·exact wpAny_pyIter_striter_wide hit h
theorem qM {P:B2}{w:B3}{K:PySem.W.Frag}{tg:Expr}(it:B5)(x:Str)(t:Tok):Dz P w K tg (Its x) [it] it (fun i h=>h.IsStrIter it (Da x) x t i) where
 mem:=by simp
 obj:=fun i h st b hb=>by
  have e:b=it:=by simpa using hb
  subst e
  obtain⟨o,e,c,d⟩:=st
  exact⟨o,e,fun v z=>by rw[d] at z;cases z⟩
 keep:=fun i h h' st k=>by
  obtain⟨o,e,r⟩:=st
  exact⟨o,k it (by simp) o e,r⟩
 item:=by
  intro X hP hw hK hc i pins s σ H E I hf st hg
  subst hP hw hK
  obtain⟨f0,f1,f2,f3,f4,f5⟩:=hf it (by simp)
  refine (j4 (I.ok.hd hc) it x t).item i s _ _ hg st fun v h' tk hv st' kk=>?_
  obtain⟨c,u,hcu,rfl⟩:=hv
  have I1:Inv X pins σ H {s with heap:=h',toks:=tk}:=I.turned (fun b o hb e=>kk b o (by simpa using hb) e) f0 f1 f3 f4 f5
  obtain⟨o,e,c',d⟩:=id st'
  exact⟨_,rfl,py (s:={s with heap:=h',toks:=tk}) e c' d (nO x) ⟨.str ⟨#[c]⟩,H,I1,⟨u,rfl⟩,⟨rfl,c,by simpa using hcu,rfl⟩,st',fun b hb=>(hf b hb).1⟩⟩
 done:=by
  intro X hP hw hK hc i pins s σ H E I hf st hg
  subst hP hw hK
  obtain⟨f0,f1,f2,f3,f4,f5⟩:=hf it (by simp)
  have hg:i=x.cps.size:=hg
  subst hg
  exact (j4 (I.ok.hd hc) it x t).done s _ _ st fun h' tk kk=>⟨rfl,I.turned (fun b o hb e=>kk b o (by simpa using hb) e) f0 f1 f3 f4 f5⟩
 self:=fun _ _ _ _ _ st h=>qm st h
section
variable {X:Cx}{tg:Expr}
def iStr (tl:TE):TI:=fun σ H R=>tl σ H fun v H1=> ∃x,v=.str x/\R (Its x) H1
theorem oq {l:Expr}{tl:TE}(hl:PE X l tl):PI X tg l (iStr tl):=by
 intro pins s σ H R I h
 refine thn (hl pins s σ H _ I h) fun v s1 qz=>?_
 obtain⟨y,H1,I1,r1,q1⟩:=qz
 obtain⟨x,rfl,q⟩:=q1
 obtain⟨t,rfl⟩:=r1
 refine wpAny_pyIter_strU ?_
 refine⟨s1.heap.objs.size,[s1.heap.objs.size],_,_,H1,rfl,I1.kept (t':=s1.toks) fun b o e=>zP _ e,qM _ x t,⟨_,Af _ rfl,rfl,rfl⟩,fun b hb=>?_,q⟩
 have e:b=s1.heap.objs.size:=by simpa using hb
 subst e
 exact I1.fpOk (zu _) (I1.hok.fresh (zu _))
end
theorem zd {x:Str}{g:TG}{tb:TS}{D:Dj}{σ:St}{H:Hp}(Pv:Nat->St->Hp->Prop)(h0:Pv 0 σ H)
  (hs: ∀i c σ H,x.cps.toList[i]?=some c->Pv i σ H->g (.str ⟨#[c]⟩) σ H fun σ2 H2=>tb {D with nx:=Pv (i+1),ct:=Pv (i+1),bk:=D.nx} σ2 H2)(hd: ∀σ H,Pv x.cps.size σ H->D.nx σ H):
  ∃W:Nat->Nat->St->Hp->Prop,(∃m,W 0 m σ H)/\ ∀i m σ H,W i m σ H->
   ((Its x).stop i H/\D.nx σ H)\/((Its x).go i H/\ ∃N:St->Hp->Prop,(∀σ' H',N σ' H'-> ∃m',m'<m/\W (i+1) m' σ' H')/\ ∀v H',(Its x).yld i H v H'->g v σ H' fun σ2 H2=>tb {D with nx:=N,ct:=N,bk:=D.nx} σ2 H2):=by
 refine⟨fun i m σ H=>m=x.cps.size - i/\i<=x.cps.size/\Pv i σ H,⟨x.cps.size,by simp,zL _,h0⟩,?_⟩
 rintro i m σ H ⟨rfl,hi,p⟩
 by_cases hlt:i<x.cps.size
 ·refine .inr ⟨hlt,Pv (i+1),fun σ' H' p'=>⟨x.cps.size - (i+1),by omega,rfl,hlt,p'⟩,fun v H' y=>?_⟩
  obtain⟨e,c,hc,rfl⟩:=y
  subst e
  exact hs i c σ _ hc p
 ·have e:i=x.cps.size:=by omega
  subst e
  exact .inl ⟨rfl,hd σ H p⟩
theorem nu {x:Str}{ls:List Str}{g:TG}{tt:TT}{te:TE}{σ:St}{H:Hp}{Q:VK}(Pv:Nat->List V->Hp->Prop)(h0:Pv 0 [] H)
  (hs: ∀i c ys H,x.cps.toList[i]?=some c->Pv i ys H->g (.str ⟨#[c]⟩) (List.replicate ls.length none++σ) H fun σ2 H2=>σ2.drop ls.length=σ/\σ2.length=ls.length+σ.length/\tt σ2 H2 fun b H3=>if b=true then te σ2 H3 fun v H4=>ys.length<sizeLine/\Pv (i+1) (ys++[v]) H4 else Pv (i+1) ys H3)
  (hd: ∀ys H,Pv x.cps.size ys H-> ∀D,H D=none->Q (.ref D) (upd H D (.lst ys))):Dg (Its x) ls g tt te σ H Q:=by
 refine⟨fun i m ys H=>m=x.cps.size - i/\i<=x.cps.size/\Pv i ys H,⟨x.cps.size,by simp,zL _,h0⟩,?_⟩
 rintro i m ys H ⟨rfl,hi,p⟩
 by_cases hlt:i<x.cps.size
 ·refine .inr ⟨hlt,Pv (i+1),fun ys' H' p'=>⟨x.cps.size - (i+1),by omega,rfl,hlt,p'⟩,fun v H' y=>?_⟩
  obtain⟨e,c,hc,rfl⟩:=y
  subst e
  exact hs i c ys _ hc p
 ·have e:i=x.cps.size:=by omega
  subst e
  exact .inl ⟨rfl,hd ys H p⟩
section
variable {X:Cx}
theorem nH: ∀ {bs:List Bool}{us:List BZ},Vals (bs.map V.bl) us->LSm.BoolsAre us bs
 |[],_,.nil=>.nil
 |b::r,_,.cons h t=>by
  have h:_=BZ.bool b:=h
  subst h
  exact .cons b (nH t)
theorem nB (hc:X.calm=true):CallR X (.builtin "all") (fun xs H Q=> ∃ (p:B5) (bs:List Bool),xs=[.ref p]/\SqL X.K H p (bs.map V.bl)/\Q (.bl (bs.all id)) H):=by
 intro pins s σ H xs us Q I r h
 obtain⟨p,bs,rfl,hq,q⟩:=h
 obtain⟨u,rfl,ru⟩:=Hz r
 cases ru
 obtain⟨its,rv,pl,hz⟩:=I.list hq
 have hb:=nH rv
 have hl:=pl.isList
 have hlt:p<s.heap.objs.size:=by obtain⟨_,e,_⟩:=hl;exact zy e
 refine call_all_walk (wpAny_pyIter_list hl ?_)
 refine⟨s.heap.objs.size,[s.heap.objs.size,p],[s.heap.objs.size],its.toArray.size,_,_,fun i=>(bs[i]?).getD true,rfl,Walks.list (A:=X.A.in1) (I.ok.hd hc) _ p (zN hlt) its.toArray,
  ⟨⟨_,Af _ rfl,rfl,rfl⟩,hl.push _⟩,fun i v s' Q' E' hP hQ=>?_,fun h' tk hk=>?_⟩
 ·obtain⟨b,e,rfl⟩:=hb.get i v (by simpa using hP)
  simp only[e,Bk] at hQ
  exact Cf hQ
 ·have e:((List.range its.toArray.size).all fun i=>(bs[i]?).getD true)=bs.all id:=by
   rw[zF,hb.length];exact LSm.range_all bs
  rw[e]
  exact⟨.bl _,H,I.kept (t':=tk) (LSm.kept_iter hk),rfl,q⟩
theorem GX:SlR X (fun x lo hi H Q=> ∃z,x=.str z/\z.length<=sizeLine/\Q (.str (StrLaws.sliceText z lo hi)) H):=by
 intro pins s σ H x v vl vu lo hi sl Q I rx hs pl pu h
 obtain⟨z,rfl,hz,q⟩:=h
 obtain⟨t,rfl⟩:=rx
 have part: ∀ {v:BZ}{o:Option Int},IsPart v o-> ∃p:Option (Int×Tok),v=partValue p/\p.map (·.1)=o:=fun{v o} h=>by
  cases h with
  |none=>exact⟨none,rfl,rfl⟩
  |int i t=>exact⟨some (i,t),rfl,rfl⟩
 obtain⟨l,rfl,el⟩:=part pl
 obtain⟨u,rfl,eu⟩:=part pu
 refine⟨"str",_,slot_str_getitem.lookup,C4 s z t,?_⟩
 obtain⟨o,h1,h2,h3⟩:=hs
 refine wpAny_getItem_str_slice (l:=l) (u:=u) (st:=none) ⟨o,h1,h2,h3⟩ rfl ?_
 subst el eu
 unfold sliceMade slicePicked
 unfold StrLaws.sliceText at q
 simp only[Option.map_none,Be]
 split
 ·rename_i hc
  rw[if_pos hc] at q
  exact⟨.str z,H,I,⟨t,rfl⟩,q⟩
 ·rename_i hc
  rw[if_neg hc] at q
  refine⟨?_,.str _,H,I.tok _,⟨_,rfl⟩,q⟩
  show ((_:List Nat).toArray).size<=sizeLine
  rw[zF]
  exact zJ (BC _ _) (zJ (sliceIndices_le _ _ _) hz)
theorem hJ:CallR X (.type "int") (fun xs H Q=> ∃ (z:Str) (n:Int),xs=[.str z]/\PySem.intText? z=some n/\z.length<=640/\Q (.int n) H):=by
 intro pins s σ H xs us Q I r h
 obtain⟨z,n,rfl,hn,hl,q⟩:=h
 obtain⟨u,rfl,t,rfl⟩:=Hz r
 exact PySem.W.KIN.call_text hn hl ⟨.int n,H,I.tok _,⟨_,rfl⟩,q⟩
theorem lN:CallR X (.type "str") (fun xs H Q=> ∃ (z:Str),xs=[.str z]/\Q (.str z) H):=by
 intro pins s σ H xs us Q I r h
 obtain⟨z,rfl,q⟩:=h
 obtain⟨u,rfl,t,rfl⟩:=Hz r
 exact P.str_of_str ⟨.str z,H,I,⟨_,rfl⟩,q⟩
theorem FO:OpR X (CO .Mult) (fun x y H Q=> ∃ (z:Str) (n:Int),x=.str z/\y=.int n/\MulOk z n/\Q (.str (Txt.mul z n)) H):=by
 intro pins s σ H x y v u Q I rx ry h
 obtain⟨z,n,rfl,rfl,ho,q⟩:=h
 obtain⟨t,rfl⟩:=rx
 obtain⟨t',rfl⟩:=ry
 exact SB.mul ho fun t' k=>⟨.str _,H,I.tok k,⟨_,rfl⟩,q⟩
end
theorem oF (x:Str)(c:Nat):(!(B1.Str.occurrences x ⟨#[c]⟩ 0 x.length 1).isEmpty)=decide (c∈x.cps.toList):=StrLaws.found_one x c
def pO (X:Cx)(E:XK):Prop:= ∀ (pins:List (B5×B7)) (σ:St) (H:Hp) (s:B6) (h':B4) (e:B5) (C:BZ) (args:List BZ),Inv X pins σ H s->Bj s.heap h' e C args->E C none H->X.xe (.ref e) {s with heap:=h'}
theorem eB {P:B2}{w:B3}{K:PySem.W.Frag}{mg:Str->Option BZ}{base:B4}{N:List Str}{qual:Str}{scope:Cn}{f:B5}{cd:BZ}{A:B8}{outer:List Env}{s:B6}{H:Hp}{E:XK}:
 pO (DU (CXx P w) P w K mg base N qual scope f cd A outer s H E) E:=fun _ _ _ _ _ _ _ _ I hx hE=>kR I hx hE
def vN (C:BZ)(E:XK)(t:TA):TS:=fun _ σ H=>t σ H fun vs H1=>vs.length<=sizeLine/\E C none H1
noncomputable abbrev DE:List BZ:=[.type "ValueError",.type "Exception",.type "BaseException",.type "object"]
section
variable {X:Cx}{C:B5}{E:XK}{x:Str}{np cpos pos:Ct}{a:Expr}{es:List Expr}{t:TA}
theorem eC (hX:pO X E)(hc:X.calm=true)(hg:Gl X x)(hm:X.mg x=some (.ref C))(q:PySem.W.excIn X.K C DE "ValueError.__new__"=true)(ha:PA X (a::es) t)
  (he:Cv (a::es) X.env=(false,Cp a X.env)::Cv es X.env:=by rfl)(hplain:(Cu cpos (Cv es X.env)).any (·.1)=false:=by rfl)(hd:(x==("__debug__":Str))=false:=by decide):
  PS X (.Raise (some (.Call (.Name x np) (a::es) [] cpos)) none pos) (vN (.ref C) E t):=by
 intro pins s σ H D I h
 unfold PySem.W.excIn at q
 split at q
 ·rename_i dd cd sl ho
  split at q
  ·rename_i C' bm k0 k1 k2 k3 n k5 hm' hs
   simp only[zI,beq_iff_eq,Bool.not_eq_true'] at q
   obtain⟨⟨⟨⟨⟨rfl,rfl⟩,hdel⟩,ht⟩,hok⟩,hni⟩:=q
   obtain⟨nm,bs,mro,ns,qn,hd',sn,sub,ab,col,del⟩:=cd
   dsimp only at hm' hdel hok hni
   subst hm' hdel
   have hsl:sl= #[k0,k1,k2,k3,some (.builtin "ValueError.__new__"),k5]:=by
    obtain⟨l⟩:=sl
    simp only at hs
    rw[hs]
   subst hsl
   have obj: ∀ {hh:B4},X.K.In hh->_:=fun{hh} (XX:X.K.In hh)=>(⟨XX _ _ ho,PySem.Heap.Ns.of_isNs (PySem.W.isNs_of_in XX hok),PySem.W.nsMap_none_of_in XX hok hni,PySem.W.tail_of_in XX ht⟩:
    hh.get? C'=some (excClassObj nm qn C' ns bs bm hd' sn sub ab col dd k0 k1 k2 k3 k5 "ValueError.__new__")/\hh.Ns ns (hh.nsMap ns)/\hh.nsMap ns "__init__"=none/\OwnTail hh DE bm)
   have o0:=obj I.ok.mod.kin
   refine wpAny_Raise_call_subT (C:=C') (nm:=nm) (q:=qn) (N:=ns) (bs:=bs) (bm:=bm) (hdct:=hd') (sn:=sn) (sub:=sub) (ab:=ab) (col:=col) (dd:=dd) (k0:=k0) (k1:=k1) (k2:=k2) (k3:=k3) (k5:=k5)
    F.excBase_ValueError (mN:=X.base.nsMap ns) (o0.2.2.2.hasType F.excBase_ValueError.hasBase) (I.ok.hd hc) (by rw[he];show (false||(Cu cpos (Cv es X.env)).any (·.1))=false;rw[hplain];rfl) o0.2.2.1 (gZ I hg hm ⟨rfl,?_⟩ hd)
   rw[he]
   refine Calls.evalArgs_plain ?_
   have hq:=ha cpos pins s σ H _ I h
   rw[he] at hq
   refine thn hq fun us s2 qz=>?_
   obtain⟨vs,H1,I1,r1,z,q1⟩:=qz
   have kp: ∀b o,X.base.get? b=some o->s2.heap.get? b=some o:=I1.bk
   exact⟨rfl,by rw[<-r1.length];exact z,(obj I1.kIn).1,o0.2.1.keeps kp,(obj I1.kIn).2.2.2,fun h' e hx=>hX pins σ H1 s2 h' e _ _ I1 hx q1⟩
  ·cases q
 ·cases q
end
end
section
noncomputable def excO (ea:B5)(cls:BZ):HO:=.ext fun h=> ∃o vs,h.get? ea=some o/\o.cls=cls/\o.data=.fields vs
section
variable {X:Cx}{pins:List (B5×B7)}{σ:St}{H:Hp}{s:B6}{pn:List (B5×B7)}{xe:BZ->B6->Prop}
end
section
variable {X:Cx}{CX:CXT}{k:Nat}{f C:B5}{fd:CW}{ps:List Str}{sp:Sp}{dvs:List V}{ds:List BZ}{Z:St->XK}{x m:Str}{p pos apos:Ct}{e o:Expr}{es:List Expr}{ta:TE}{t:TA}
end
section
variable {X:Cx}{x:Str}{C:BZ}{body suite:List Cw}{b0:Cw}{np hpos pos:Ct}{tb:(St->XK)->TS}{ts:TS}
end
section
variable {P:B2}{w:B3}{K:PySem.W.Frag}{mg:Str->Option BZ}{base:B4}
theorem Fun.okX {x qual:Str}{st:Cw}{f:B5}{fd:CW}{N ps:List Str}{k:Nat}{sp:Sp}(F:Fun K x qual st f fd)(S:Dm N ps (ae st))(len: ∀vs H Q E,sp vs H Q E->vs.length=ps.length)
  (hbody: ∀ (cdv:BZ) (A:B8) (outer:List Env) (s:B6) (H:Hp) (vs:List V) (Q:VK) (E:XK),Room k (A.deeper (C2 qual (ae st) s.heap.objs.size f cdv))->sp vs H Q E->
   ∃t,PSs (DU (CXx P w) P w K mg base N qual (ae st) f cdv A outer s H E) (bo st) t/\t {nx:=fun _ H'=>Q .non H',rt:=Q} (Hd N vs) H):FnOk P w K mg base (CXx P w) (k+1) f fd ps sp:=by
 obtain⟨oc,od,kV,doc,pm,an,cdv,ct,osl,rfl,lk,hcd⟩:=F.ex
 exact vB lk hcd S len fun A outer s H vs Q E hr hsp=>hbody cdv A outer s H vs Q E hr hsp
end
end
section
section
variable {X:Cx}
end
end
section
section
variable {X:Cx}
end
def Ite (K:PySem.W.Frag)(a:B5):It:=
 ⟨fun i H=> ∃xs x,SqL K H a xs/\xs[i]?=some x,fun i H v H'=> ∃T x,H T=none/\v=.ref T/\(∀xs,SqL K H a xs->xs[i]?=some x)/\H'=upd H T (.tup [.int i,x]),fun i H=> ∃xs,SqL K H a xs/\xs.length=i⟩
theorem pQ {P:B2}{w:B3}{K:PySem.W.Frag}{elts:List Expr}{x1}{tpos:Ct}(a e it:B5)(hei:e≠it):Dz P w K (.Tuple elts x1 tpos) (Ite K a) [e,it] e (fun i h=>(∃old,IsEnum h e it i old)/\h.IsListIter it a i) where
 mem:=by simp
 obj:=fun i h st b hb=>by
  obtain⟨⟨old,he⟩,st⟩:=st
  rcases zA.mp hb with rfl|hb
  ·exact⟨_,he,fun v z=>by cases z⟩
  ·have e':b=it:=by simpa using hb
   subst e'
   obtain⟨o,e,c,d⟩:=st
   exact⟨o,e,fun v z=>by rw[d] at z;cases z⟩
 keep:=fun i h h' st k=>⟨let ⟨old,he⟩:=st.1;⟨old,k e (by simp) _ he⟩,st.2.at fun o e=>k it (by simp) o e⟩
 item:=by
  intro X hP hw hK hc i pins s σ H E I hf st hg
  subst hP hw hK
  obtain⟨⟨old,he⟩,st⟩:=st
  obtain⟨xs,x,hq,hx⟩:=hg
  obtain⟨its,rv,p,hz⟩:=I.list hq
  obtain⟨u,hu,ru⟩:=rv.get hx
  have fe:=hf e (by simp)
  have fi:=hf it (by simp)
  obtain⟨oi,hoi,hoc,hod⟩:=id st
  have nai:a≠it:=fun z=>by
   obtain⟨o,h1,h2,_⟩:=p.isList
   rw[z,hoi] at h1
   cases h1
   rw[hoc] at h2
   exact absurd h2 (by decide)
  have nae:e≠a:=fun z=>by
   obtain⟨o,h1,h2,_⟩:=p.isList
   rw[<-z,show s.heap.get? e=_ from he] at h1
   cases h1
   exact absurd (show BZ.type "enumerate"=BZ.type "list" from h2) (by decide)
  have D:=Draws.list (prog:=X.prog) (w:=X.w) (A:=X.A.in1) (I.ok.hd hc) it a nai its.toArray
  refine wpAny_pyNext_enum_itemD D he ⟨st,p.isList⟩ (by
   have:=zO.mp hu
   obtain⟨z,_⟩:=this
   simpa using z) hei (by simp [hei,nae]) fun v h' tk hP hout hst hT hsz hk=>?_
  have hv:v=u:=by
   have hP:its.toArray[i]?=some v:=hP
   rw[BD,hu] at hP
   exact (Option.some.inj hP).symm
  subst hv
  have nT:H s.heap.objs.size=none:=I.hok.fresh (zu _)
  have lt: ∀b o,s.heap.get? b=some o->b≠s.heap.objs.size:=fun b o q=>zN (zy q)
  have ltH: ∀b o,H b=some o->b≠s.heap.objs.size:=fun b o q z=>by rw[z,nT] at q;cases q
  have neH: ∀b o,H b=some o->b≠e/\b≠it:=fun b o q=>⟨fun z=>by (rw[z,fe.1] at q;cases q),fun z=>by (rw[z,fi.1] at q;cases q)⟩
  have I1:Inv X pins σ (upd H s.heap.objs.size (.tup [.int i,x])) {s with heap:=h',toks:=tk+1}:=by
   refine I.call' (s':={s with heap:=h',toks:=tk+1}) (ch:=[e,it]) rfl ⟨fun b o q n hb hx=>?_,fun b o q n hb hx=>?_,fun b o q n hx=>?_,fun b o q hx=>?_,fun b xs q=>?_,fun b o u q=>?_,fun b ps q=>?_⟩ (fun b o q=>?_) I.bare fun b hb=>?_
   ·exact hk b o (fun z=>hx (by simp [z])) (fun z=>hx (by simp [z])) q
   ·exact⟨o.slots,hk b o (fun z=>hx (by simp [z])) (fun z=>hx (by simp [z])) q⟩
   ·rw[ar (lt b o q)];exact n
   ·exact⟨o,hk b o (fun z=>hx (by simp [z])) (fun z=>hx (by simp [z])) q⟩
   ·rw[ar (ltH b _ q)];exact q
   ·rw[ar (ltH b _ q)];exact q
   ·exact⟨#[],by rw[ar (ltH b _ q),q];simp⟩
   ·by_cases hb:b=s.heap.objs.size
    ·subst hb
     rw[aM] at q
     cases q
     exact⟨by show 2<=sizeLine;decide,_,.cons ⟨tk,rfl⟩ (.cons ru .nil),⟨_,hT,rfl,_,rfl⟩,_,hT,rfl⟩
    ·rw[ar hb] at q
     refine (I.hok b o q).stay (fun c v hc r=>?_) (fun c r=>by rw[ar (ltH c _ r)];exact r) fun c xs r=>by rw[ar (ltH c _ r)];exact r
     have: ∃o,H c=some o:=by
      rcases hc with rfl|hc
      ·exact⟨o,q⟩
      ·exact⟨_,hc⟩
     obtain⟨o',qo⟩:=this
     exact hk c v (neH c o' qo).1 (neH c o' qo).2 r
   ·have fb:Dn X pins H b:=by
     rcases zA.mp hb with rfl|hb
     ·exact fe
     ·have e':b=it:=by simpa using hb
      subst e';exact fi
    exact⟨fb.2.2.2.1,fb.2.1,fb.2.2.2.2.1,fb.2.2.2.2.2⟩
  refine⟨_,rfl,wpAny_letOwnedTupleGo_enum (s:={s with heap:=h',toks:=tk+1}) hout fun h2 he2 hs2=>?_⟩
  have neT: ∀b∈[e,it],b≠s.heap.objs.size:=fun b hb=>by
   rcases zA.mp hb with rfl|hb
   ·exact lt _ _ he
   ·have e':b=it:=by simpa using hb
    subst e';exact lt _ _ hoi
  have fe':(upd H s.heap.objs.size (.tup [.int i,x])) e=none:=by rw[ar (neT e (by simp))];exact fe.1
  refine⟨.ref s.heap.objs.size,upd H s.heap.objs.size (.tup [.int i,x]),?_,rfl,⟨s.heap.objs.size,x,nT,rfl,fun ys hy=>by rw[I.list_inj hy hq];exact hx,rfl⟩,⟨⟨_,by simpa using he2⟩,hst.1.at fun o eo=>(hs2.2 it (Ne.symm hei)).trans eo⟩,fun b hb=>?_⟩
  ·exact I1.turned (t':=tk+1) (fun b o hb eo=>(hs2.2 b hb).trans eo) fe' fe.2.1 fe.2.2.2.1 fe.2.2.2.2.1 fe.2.2.2.2.2
  ·rw[ar (neT b hb)]
   exact (hf b hb).1
 done:=by
  intro X hP hw hK hc i pins s σ H E I hf st hg
  subst hP hw hK
  obtain⟨⟨old,he⟩,st⟩:=st
  obtain⟨xs,hq,hx⟩:=hg
  obtain⟨its,rv,p,hz⟩:=I.list hq
  have fi:=hf it (by simp)
  obtain⟨oi,hoi,hoc,hod⟩:=id st
  have nai:a≠it:=fun z=>by
   obtain⟨o,h1,h2,_⟩:=p.isList
   rw[z,hoi] at h1
   cases h1
   rw[hoc] at h2
   exact absurd h2 (by decide)
  have D:=Draws.list (prog:=X.prog) (w:=X.w) (A:=X.A.in1) (I.ok.hd hc) it a nai its.toArray
  have ei:i=its.toArray.size:=by rw[zF,<-rv.length];exact hx.symm
  refine wpAny_pyNext_enum_endD D he (by rw[<-ei];exact⟨st,p.isList⟩) fun h' eb=>⟨rfl,I.turned (t':=s.toks) (fun b o hb e=>eb b o hb e) fi.1 fi.2.1 fi.2.2.2.1 fi.2.2.2.2.1 fi.2.2.2.2.2⟩
 self:=fun _ _ _ _ _ st h=>let ⟨_,he⟩:=st.1;wpAny_pyIter_enum he h
section
variable {X:Cx}
def iEnum (K:PySem.W.Frag)(ta:TA):TI:=fun σ H R=>ta σ H fun vs H1=> ∃a,vs=[.ref a]/\(∃xs,SqL K H1 a xs)/\R (Ite K a) H1
theorem tY {a:Expr}{ta:TA}{p pos:Ct}{elts:List Expr}{x1}{tpos:Ct}(hg:Gl X "enumerate")(hm:X.mg "enumerate"=none)(ha:PA X [a] ta)(hs:Cv [a] X.env=[(false,Cp a X.env)]:=by rfl):PI X (.Tuple elts x1 tpos) (.Call (.Name "enumerate" p) [a] [] pos) (iEnum X.K ta):=by
 intro pins s σ H R I h
 refine Call_ (jB I hg hm boot_enumerate (PyProof.Rows.callWith_type1 (thn (ha pos pins s σ H _ I h) fun us s1 qz=>?_) hs rfl))
 obtain⟨vs,H1,I1,r1,q1⟩:=qz
 obtain⟨b,e,⟨xs,hq⟩,q⟩:=q1
 subst e
 cases r1 with
 |cons r rr=>
  cases rr
  cases r
  obtain⟨its,rv,pl,hz⟩:=I1.list hq
  refine call_enumerate_list pl.isList fun h' he hi hsz hk=>?_
  refine wpAny_pyIter_enum he ?_
  have I2:Inv X pins σ H1 {s1 with heap:=h'}:=I1.kept (t':=s1.toks) hk
  refine⟨s1.heap.objs.size+1,[s1.heap.objs.size+1,s1.heap.objs.size],_,_,H1,rfl,I2,pQ b _ _ (by simp),⟨⟨_,he⟩,hi⟩,fun c hc=>?_,q⟩
  have hc':s1.heap.objs.size<=c:=by
   rcases zA.mp hc with rfl|hc
   ·exact Bc _
   ·have:c=s1.heap.objs.size:=by simpa using hc
    exact AH this.symm
  exact I1.fpOk hc' (I1.hok.fresh hc')
end
end
end L2
namespace L2
open PySem PySem.Spec PyProof.Rows PySem.W
section
variable {prog:B2}{w:B3}{A:B8}{E:BZ->B6->Prop}{h:B4}{g:Array GenState}{d:Drawn}{t:Nat}{os:OsState}{a C:B5}{o:B7}{K:PySem.W.Frag}
end
section
variable {X:Cx}
end
section
section
variable {X:Cx}{pins:List (B5×B7)}{σ:St}{H:Hp}{s:B6}
end
section
variable {X:Cx}{x n:Str}{C:BZ}{body suite:List Cw}{b0:Cw}{np hpos pos:Ct}{tb:(St->XK)->TS}{ts:TS}{i:Nat}
end
end
end L2
namespace L2
open PySem PySem.Spec PyProof.Rows
theorem oS: ∀ {ts:List Str}{us:List BZ},Vals (ts.map V.str) us-> ∃l:List (Str×Tok),us=strValues l/\l.map (·.1)=ts
 |[],_,.nil=>⟨[],rfl,rfl⟩
 |t::ts,_,.cons h r=>by
  obtain⟨k,rfl⟩:=h
  obtain⟨l,e,e2⟩:=oS r
  exact⟨(t,k)::l,by rw[e];rfl,by rw[<-e2];rfl⟩
theorem pN (a b:Str):(a++b).length=a.length+b.length:=by
 show (a.cps++b.cps).size=_
 rw[BE];rfl
theorem jC (sep:Str): ∀ (ts:List Str),(Str.join sep ts).length<=(ts.map (·.length)).sum+ts.length * sep.length
 |[]=>zL _
 |[x]=>by
  show x.length<=_
  simp
 |x::y::r=>by
  show (x++sep++Str.join sep (y::r)).length<=_
  have ih:=jC sep (y::r)
  rw[pN,pN,zD,Av,zx]
  have:((y::r).length+1) * sep.length=(y::r).length * sep.length+sep.length:=by rw[Nat.succ_mul]
  omega
section
variable {X:Cx}
def rJoin (K:PySem.W.Frag):V->List V->Hp->VK->Prop:=fun x vs H Q=> ∃ (sep:Str) (p:B5) (ts:List Str),x=.str sep/\vs=[.ref p]/\SqL K H p (ts.map V.str)/\(ts.map (·.length)).sum+ts.length * sep.length<=sizeLine/\Q (.str (Str.join sep ts)) H
theorem uo:MtM X "str.join" (rJoin X.K):=by
 intro pins s σ H x vs v us Q I rx rv h
 obtain⟨sep,p,ts,rfl,rfl,hq,hz,q⟩:=h
 obtain⟨t,rfl⟩:=rx
 obtain⟨u,rfl,ru⟩:=rv.one
 cases ru
 obtain⟨its,r,pl,_⟩:=I.list hq
 obtain⟨l,rfl,rfl⟩:=oS r
 refine C6 F.slot_str_join (C4 s sep t) F.entry_str_join (F.args_str_join_2 _ _) (meets_str_join_list sep t p l (by
  rw[StrLaws.joinTotal]
  unfold B1.Str.tooLong
  exact decide_eq_false (by omega))) ⟨pl.isList,?_⟩
 cases l with
 |nil=>exact⟨by rw[StrLaws.glued_eq_join];exact zJ (jC sep _) hz,.str _,H,I.tok _,⟨_,by rw[StrLaws.glued_eq_join]⟩,q⟩
 |cons a l=>
  cases l with
  |nil=>exact⟨.str a.1,H,I,⟨a.2,rfl⟩,q⟩
  |cons b l=>exact⟨by rw[StrLaws.glued_eq_join];exact zJ (jC sep _) hz,.str _,H,I.tok _,⟨_,by rw[StrLaws.glued_eq_join]⟩,q⟩
end
section
variable {X:Cx}
end
end L2
namespace L2
open PySem
end L2
namespace L2
open PySem PySem.Spec PyProof.Rows
open Sem (wp)
open Builtin
section
variable {prog:B2}{w:B3}{A:B8}{E:BZ->B6->Prop}{s:B6}
end
section
variable {prog:B2}{w:B3}{A:B8}{E:BZ->B6->Prop}{s:B6}
end
section
variable {X:Cx}
end
section
open Sem (wp)
open Builtin
noncomputable def SeqAt (h:B4)(T:String)(l:B5)(its:Array BZ):Prop:=(T= "list_iterator"/\h.IsList l its)\/(T= "tuple_iterator"/\h.IsTuple l its)
section
variable {prog:B2}{w:B3}{A:B8}{E:BZ->B6->Prop}{s:B6}
end
section
variable {prog:B2}{w:B3}{A:B8}{E:BZ->B6->Prop}{s:B6}
end
end
section
section
variable {X:Cx}{pins:List (B5×B7)}{σ:St}{H:Hp}{s:B6}{a:B5}{xs ys:List V}{k:Bool}
end
section
variable {X:Cx}
end
end
section
open Builtin
section
variable {prog:B2}{w:B3}{A:B8}{E:BZ->B6->Prop}
end
section
variable {X:Cx}
end
end
section
section
variable {X:Cx}
variable {o e:Expr}{es:List Expr}{to:TE}{t:TA}{name:Str}{apos cpos:Ct}{id:String}{r:V->List V->Hp->VK->Prop}
end
end
section
section
variable {X:Cx}
end
end
section
inductive W where
 |ty (n:String)|exc (c:Str)|cls (c:Str)|non|bl (b:Bool)|int (i:Int)|str (x:Str)
 |tup (l:List W)|tl (l:List W)|cl (l:List W)|dv (ks:List Key)(ws:List W)|dn (b:Bool)(ks:List PKy)(ws:List W)|kt (ks:List Key)|loc (k:Nat)
inductive Ob where
 |lst (l:List W)|dic (ks:List Key)(ws:List W)|dit (ks:List (List Key))(ws:List W)|din (b:Bool)(ks:List PKy)(ws:List W)|ins (c:Str)(ns:List Str)(ws:List W)|gone
structure Wo where
 mu:Nat->B5
 h:List Ob
 H:Hp
noncomputable def Lv (o:Wo)(a:B5):Prop:= ∃k b,o.h[k]?=some b/\b≠.gone/\o.mu k=a
def FrL (K:PySem.W.Frag)(a:B5)(xs:List V):Prop:= ∃ (o:B7) (its:Array BZ) (n:Nat),K.lookup a=some o/\o.cls=.type "list"/\o.dict=none/\o.data=.seq its n/\its.size<=sizeLine/\Vals xs its.toList
def KeyN (K:PySem.W.Frag)(H:Hp)(b:Bool)(c:B5)(k:PKy):Prop:= ∃d,SqT K H c (match b with
 |false=>[.int k.1,.ref d]
 |true=>[.ref d,.int k.1])/\SqT K H d (k.2.map V.int)
mutual
def Rv (K:PySem.W.Frag)(o:Wo):W->V->Prop
 |.ty n,v=>v=.ty n
 |.exc c,v=> ∃a C,v=.ref a/\BY K Cj c=some (some (.ref C))/\o.H a=some (excO a (.ref C))
 |.cls c,v=> ∃C,v=.ref C/\BY K Cj c=some (some (.ref C))
 |.non,v=>v=.non
 |.bl b,v=>v=.bl b
 |.int i,v=>v=.int i
 |.str x,v=>v=.str x
 |.tup l,v=> ∃a vs,v=.ref a/\SqT K o.H a vs/\Rvs K o l vs
 |.tl l,v=> ∃a vs,v=.ref a/\o.H a=some (.lst vs)/\ ¬Lv o a/\Rvs K o l vs
 |.cl l,v=> ∃a vs,v=.ref a/\((Rd o.H a (.lst vs)/\ ¬Lv o a)\/FrL K a vs)/\Rvs K o l vs
 |.dv ks ws,v=> ∃a kvs,v=.ref a/\Rd o.H a (.dK kvs)/\ ¬Lv o a/\kvs.map (·.1)=ks/\Rvs K o ws (kvs.map (·.2))
 |.dn b ks ws,v=> ∃a,∃xs:List (PKy×B5×V)×Nat,v=.ref a/\o.H a=some (.dN b xs.1 xs.2)/\ ¬Lv o a/\xs.1.map (·.1)=ks/\(∀x∈xs.1,KeyN K o.H b x.2.1 x.1)/\Rvs K o ws (xs.1.map (·.2.2))
 |.kt ks,v=> ∃a,v=.ref a/\o.H a=some (.tup (ks.map kV))
 |.loc k,v=>k<o.h.length/\v=.ref (o.mu k)
def Rvs (K:PySem.W.Frag)(o:Wo):List W->List V->Prop
 |[],vs=>vs=[]
 |w::l,vs=> ∃v r,vs=v::r/\Rv K o w v/\Rvs K o l r
end
def Ro (K:PySem.W.Frag)(o:Wo)(a:B5):Ob->Prop
 |.lst l=> ∃vs,o.H a=some (.lst vs)/\Rvs K o l vs
 |.dic ks ws=> ∃kvs,o.H a=some (.dK kvs)/\kvs.map (·.1)=ks/\Rvs K o ws (kvs.map (·.2))
 |.dit ks ws=> ∃kvs,o.H a=some (.dT kvs)/\kvs.map (·.1)=ks/\Rvs K o ws (kvs.map (·.2))
 |.din b ks ws=> ∃xs:List (PKy×B5×V)×Nat,o.H a=some (.dN b xs.1 xs.2)/\xs.1.map (·.1)=ks/\(∀x∈xs.1,KeyN K o.H b x.2.1 x.1)/\Rvs K o ws (xs.1.map (·.2.2))
 |.ins c ns ws=> ∃C dx fs,BY K Cj c=some (some (.ref C))/\o.H a=some (.ins C dx fs)/\fs.map (·.1)=ns/\Rvs K o ws (fs.map (·.2))
 |.gone=>True
structure Rel (K:PySem.W.Frag)(o:Wo):Prop where
 ob: ∀k b,o.h[k]?=some b->Ro K o (o.mu k) b
 inj: ∀j k b c,o.h[j]?=some b->o.h[k]?=some c->b≠.gone->c≠.gone->o.mu j=o.mu k->j=k
structure Ex (o p:Wo):Prop where
 le:o.h.length<=p.h.length
 mu: ∀k,k<o.h.length->p.mu k=o.mu k
 fr: ∀a u,o.H a=some u-> ¬Lv o a->p.H a=some u/\ ¬Lv p a
theorem Ex.refl (o:Wo):Ex o o:=⟨zu _,fun _ _=>rfl,fun _ _ h n=>⟨h,n⟩⟩
theorem Ex.trans {o p q:Wo}(a:Ex o p)(b:Ex p q):Ex o q:=⟨zJ a.le b.le,fun k h=>(b.mu k (zH h a.le)).trans (a.mu k h),fun c u h n=>let ⟨h1,n1⟩:=a.fr c u h n;b.fr c u h1 n1⟩
section
variable {K:PySem.W.Frag}{o p:Wo}
theorem Lv.kind (R:Rel K o){a:B5}(h:Lv o a):(∃vs,o.H a=some (.lst vs))\/(∃kvs,o.H a=some (.dK kvs))\/(∃C dx fs,o.H a=some (.ins C dx fs))\/(∃kvs,o.H a=some (.dT kvs))\/ ∃b,∃xs:List (PKy×B5×V)×Nat,o.H a=some (.dN b xs.1 xs.2):=by
 obtain⟨k,b,hk,hb,rfl⟩:=h
 have q:=R.ob k b hk
 cases b with
 |lst l=>exact .inl (let ⟨vs,e,_⟩:=q;⟨vs,e⟩)
 |dic ks ws=>exact .inr (.inl (let ⟨vs,e,_⟩:=q;⟨vs,e⟩))
 |ins c ns ws=>exact .inr (.inr (.inl (let ⟨C,dx,fs,_,e,_⟩:=q;⟨C,dx,fs,e⟩)))
 |dit ks ws=>exact .inr (.inr (.inr (.inl (let ⟨vs,e,_⟩:=q;⟨vs,e⟩))))
 |din b ks ws=>exact .inr (.inr (.inr (.inr (let ⟨vs,e,_⟩:=q;⟨b,vs,e⟩))))
 |gone=>exact absurd rfl hb
theorem Ex.keep (X:Ex o p)(R:Rel K o){a:B5}{u:HO}(h:o.H a=some u)(n1: ∀vs,u≠.lst vs)(n2: ∀kvs,u≠.dK kvs)(n3: ∀C dx fs,u≠.ins C dx fs)(n4: ∀kvs,u≠.dT kvs)(n5: ∀b (xs:List (PKy×B5×V)×Nat),u≠.dN b xs.1 xs.2):p.H a=some u:=by
 refine (X.fr a u h fun l=>?_).1
 rcases l.kind R with⟨vs,e⟩|⟨vs,e⟩|⟨C,dx,fs,e⟩|⟨vs,e⟩|⟨b,vs,e⟩
 ·rw[h] at e;exact n1 vs (Option.some.inj e)
 ·rw[h] at e;exact n2 vs (Option.some.inj e)
 ·rw[h] at e;exact n3 C dx fs (Option.some.inj e)
 ·rw[h] at e;exact n4 vs (Option.some.inj e)
 ·rw[h] at e;exact n5 b vs (Option.some.inj e)
theorem Ex.rdT (X:Ex o p)(R:Rel K o){a:B5}{vs:List V}(h:SqT K o.H a vs):SqT K p.H a vs:=by
 rcases h with (h|⟨ob,h⟩)|h
 ·exact .inl (.inl (X.keep R h (fun _ z=>nomatch z) (fun _ z=>nomatch z) (fun _ _ _ z=>nomatch z) (fun _ z=>nomatch z) fun _ _ z=>nomatch z))
 ·exact .inl (.inr ⟨ob,X.keep R h (fun _ z=>nomatch z) (fun _ z=>nomatch z) (fun _ _ _ z=>nomatch z) (fun _ z=>nomatch z) fun _ _ z=>nomatch z⟩)
 ·exact .inr h
theorem KeyN.mono (X:Ex o p)(R:Rel K o){b:Bool}{c:B5}{k:PKy}(h:KeyN K o.H b c k):KeyN K p.H b c k:=by
 obtain⟨d,h1,h2⟩:=h
 exact⟨d,X.rdT R h1,X.rdT R h2⟩
theorem Ex.rd (X:Ex o p){a:B5}{u:HO}(h:Rd o.H a u)(n:¬Lv o a):Rd p.H a u/\ ¬Lv p a:=by
 rcases h with h|⟨ob,h⟩
 ·exact⟨.inl (X.fr a _ h n).1,(X.fr a _ h n).2⟩
 ·exact⟨.inr ⟨ob,(X.fr a _ h n).1⟩,(X.fr a _ h n).2⟩
mutual
theorem Rv.mono (R:Rel K o)(X:Ex o p): ∀ (w:W) (v:V),Rv K o w v->Rv K p w v
 |.ty n,v,h=>h
 |.exc c,v,h=>by
  unfold Rv at h ⊢
  obtain⟨a,C,e,h1,h2⟩:=h
  exact⟨a,C,e,h1,X.keep R h2 (fun _ z=>nomatch z) (fun _ z=>nomatch z) (fun _ _ _ z=>nomatch z) (fun _ z=>nomatch z) fun _ _ z=>nomatch z⟩
 |.cls c,v,h=>by
  unfold Rv at h ⊢
  exact h
 |.non,v,h=>h
 |.bl b,v,h=>h
 |.int i,v,h=>h
 |.str x,v,h=>h
 |.tup l,v,h=>by
  unfold Rv at h ⊢
  obtain⟨a,vs,e,h1,h2⟩:=h
  exact⟨a,vs,e,X.rdT R h1,Rvs.mono R X l vs h2⟩
 |.tl l,v,h=>by
  unfold Rv at h ⊢
  obtain⟨a,vs,e,h1,n,h2⟩:=h
  exact⟨a,vs,e,(X.fr a _ h1 n).1,(X.fr a _ h1 n).2,Rvs.mono R X l vs h2⟩
 |.cl l,v,h=>by
  unfold Rv at h ⊢
  obtain⟨a,vs,e,h1,h2⟩:=h
  refine⟨a,vs,e,?_,Rvs.mono R X l vs h2⟩
  rcases h1 with⟨h1,n⟩|h1
  ·exact .inl (X.rd h1 n)
  ·exact .inr h1
 |.dv ks ws,v,h=>by
  unfold Rv at h ⊢
  obtain⟨a,vs,e,h1,n,h2,h3⟩:=h
  exact⟨a,vs,e,(X.rd h1 n).1,(X.rd h1 n).2,h2,Rvs.mono R X ws _ h3⟩
 |.dn b ks ws,v,h=>by
  unfold Rv at h ⊢
  obtain⟨a,xs,e,h1,n,h2,hn,h3⟩:=h
  exact⟨a,xs,e,(X.fr a _ h1 n).1,(X.fr a _ h1 n).2,h2,fun x hx=>(hn x hx).mono X R,Rvs.mono R X ws _ h3⟩
 |.kt ks,v,h=>by
  unfold Rv at h ⊢
  obtain⟨a,e,h⟩:=h
  exact⟨a,e,X.keep R h (fun _ z=>nomatch z) (fun _ z=>nomatch z) (fun _ _ _ z=>nomatch z) (fun _ z=>nomatch z) fun _ _ z=>nomatch z⟩
 |.loc k,v,h=>by
  unfold Rv at h ⊢
  exact⟨zH h.1 X.le,by rw[X.mu k h.1];exact h.2⟩
theorem Rvs.mono (R:Rel K o)(X:Ex o p): ∀ (l:List W) (vs:List V),Rvs K o l vs->Rvs K p l vs
 |[],vs,h=>h
 |w::l,vs,h=>by
  unfold Rvs at h ⊢
  obtain⟨v,r,e,h1,h2⟩:=h
  exact⟨v,r,e,Rv.mono R X w v h1,Rvs.mono R X l r h2⟩
end
theorem Rel.keep (R:Rel K o)(X:Ex o p)(e1:p.h=o.h)(e2:p.mu=o.mu)(e3: ∀k b,o.h[k]?=some b->b≠.gone->p.H (o.mu k)=o.H (o.mu k)):Rel K p:=by
 refine⟨fun k b hk=>?_,fun j k b c h1 h2=>?_⟩
 ·rw[e1] at hk
  rw[e2]
  have q:=R.ob k b hk
  cases b with
  |lst l=>obtain⟨vs,h1,h2⟩:=q;exact⟨vs,by rw[e3 k _ hk (by simp)];exact h1,h2.mono R X⟩
  |dic ks ws=>obtain⟨vs,h1,h2,h3⟩:=q;exact⟨vs,by rw[e3 k _ hk (by simp)];exact h1,h2,h3.mono R X⟩
  |dit ks ws=>obtain⟨vs,h1,h2,h3⟩:=q;exact⟨vs,by rw[e3 k _ hk (by simp)];exact h1,h2,h3.mono R X⟩
  |din b ks ws=>obtain⟨vs,h1,h2,hn,h3⟩:=q;exact⟨vs,by rw[e3 k _ hk (by simp)];exact h1,h2,fun x hx=>(hn x hx).mono X R,h3.mono R X⟩
  |ins c ns ws=>obtain⟨C,dx,fs,h0,h1,h2,h3⟩:=q;exact⟨C,dx,fs,h0,by rw[e3 k _ hk (by simp)];exact h1,h2,h3.mono R X⟩
  |gone=>trivial
 ·rw[e1] at h1 h2
  rw[e2]
  exact R.inj j k b c h1 h2
theorem Lv.there (R:Rel K o){a:B5}(h:Lv o a):o.H a≠none:=by
 rcases h.kind R with⟨vs,e⟩|⟨vs,e⟩|⟨C,dx,fs,e⟩|⟨vs,e⟩|⟨b,vs,e⟩<;>(rw[e];simp)
theorem Ex.new {q:B5}{u:HO}(h:o.H q=none):Ex o ⟨o.mu,o.h,upd o.H q u⟩:=by
 refine⟨zu _,fun _ _=>rfl,fun a w e n=>⟨?_,n⟩⟩
 show upd o.H q u a=some w
 rw[ar (aY e h)];exact e
theorem Rel.new (R:Rel K o){q:B5}{u:HO}(h:o.H q=none):Rel K ⟨o.mu,o.h,upd o.H q u⟩:=by
 refine R.keep (Ex.new h) rfl rfl fun k b hk hb=>?_
 have l:Lv o (o.mu k):=⟨k,b,hk,hb,rfl⟩
 show upd o.H q u (o.mu k)=_
 rw[ar fun z=>l.there R (by rw[z];exact h)]
theorem Ex.same {H':Hp}(g:Same o.H H'):Ex o ⟨o.mu,o.h,H'⟩:=⟨zu _,fun _ _=>rfl,fun a w e n=>⟨g a w e,n⟩⟩
theorem Rel.same (R:Rel K o){H':Hp}(g:Same o.H H'):Rel K ⟨o.mu,o.h,H'⟩:=by
 refine R.keep (Ex.same g) rfl rfl fun k b hk hb=>?_
 cases e:o.H (o.mu k) with
 |none=>exact absurd e (Lv.there R ⟨k,b,hk,hb,rfl⟩)
 |some u=>exact g _ _ e
def Wo.add (o:Wo)(q:B5)(b:Ob)(u:HO):Wo:=⟨fun k=>if k=o.h.length then q else o.mu k,o.h++[b],upd o.H q u⟩
theorem Ex.add {q:B5}{b:Ob}{u:HO}(h:o.H q=none):Ex o (o.add q b u):=by
 refine⟨by show _<=(o.h++[b]).length;simp,fun k hk=>?_,fun a w e n=>⟨?_,fun l=>?_⟩⟩
 ·show (if k=o.h.length then q else o.mu k)=_
  rw[if_neg (by omega)]
 ·show upd o.H q u a=some w
  rw[ar (aY e h)];exact e
 ·obtain⟨k,c,hk,hc,ha⟩:=l
  have ha:(if k=o.h.length then q else o.mu k)=a:=ha
  have hk:(o.h++[b])[k]?=some c:=hk
  by_cases z:k=o.h.length
  ·rw[if_pos z] at ha
   exact absurd ha.symm (aY e h)
  ·rw[if_neg z] at ha
   have hl:k<o.h.length:=by
    have:=(zO.mp hk).1
    rw[zv,zU] at this
    omega
   rw[Aa hl] at hk
   exact n ⟨k,c,hk,hc,ha⟩
theorem Rel.add (R:Rel K o){q:B5}{b:Ob}{u:HO}(h:o.H q=none)(hb:Ro K (o.add q b u) q b):Rel K (o.add q b u):=by
 have X:Ex o (o.add q b u):=Ex.add h
 have old: ∀ {k:Nat}{c:Ob},(o.add q b u).h[k]?=some c->k≠o.h.length->o.h[k]?=some c/\(o.add q b u).mu k=o.mu k:=fun{k c} hk z=>by
  have hk:(o.h++[b])[k]?=some c:=hk
  have hl:k<o.h.length:=by
   have:=(zO.mp hk).1
   rw[zv,zU] at this
   omega
  rw[Aa hl] at hk
  exact⟨hk,X.mu k hl⟩
 have new: ∀ {k:Nat}{c:Ob},(o.add q b u).h[k]?=some c->k=o.h.length->c=b/\(o.add q b u).mu k=q:=fun{k c} hk z=>by
  subst z
  have hk:(o.h++[b])[o.h.length]?=some c:=hk
  rw[As (zu _),Bl] at hk
  exact⟨(Option.some.inj hk).symm,if_pos rfl⟩
 have ne: ∀ {k:Nat}{c:Ob},o.h[k]?=some c->c≠.gone->o.mu k≠q:=fun{k c} hk hc z=>Lv.there R ⟨k,c,hk,hc,rfl⟩ (by rw[z];exact h)
 refine⟨fun k c hk=>?_,fun j k c d h1 h2 n1 n2 e=>?_⟩
 ·by_cases z:k=o.h.length
  ·obtain⟨rfl,e⟩:=new hk z
   rw[e];exact hb
  ·obtain⟨hk,e⟩:=old hk z
   rw[e]
   have r:=R.ob k c hk
   have st: ∀ {w:HO},c≠.gone->o.H (o.mu k)=some w->(o.add q b u).H (o.mu k)=some w:=fun{w} hc e=>by
    show upd o.H q u (o.mu k)=some w
    rw[ar (ne hk hc)];exact e
   cases c with
   |lst l=>obtain⟨vs,h1,h2⟩:=r;exact⟨vs,st (by simp) h1,h2.mono R X⟩
   |dic ks ws=>obtain⟨vs,h1,h2,h3⟩:=r;exact⟨vs,st (by simp) h1,h2,h3.mono R X⟩
   |dit ks ws=>obtain⟨vs,h1,h2,h3⟩:=r;exact⟨vs,st (by simp) h1,h2,h3.mono R X⟩
   |din b ks ws=>obtain⟨vs,h1,h2,hn,h3⟩:=r;exact⟨vs,st (by simp) h1,h2,fun x hx=>(hn x hx).mono X R,h3.mono R X⟩
   |ins c ns ws=>obtain⟨C,dx,fs,h0,h1,h2,h3⟩:=r;exact⟨C,dx,fs,h0,st (by simp) h1,h2,h3.mono R X⟩
   |gone=>trivial
 ·by_cases z1:j=o.h.length
  ·by_cases z2:k=o.h.length
   ·omega
   ·obtain⟨_,e1⟩:=new h1 z1
    obtain⟨hk,e2⟩:=old h2 z2
    rw[e1,e2] at e
    exact absurd e.symm (ne hk n2)
  ·obtain⟨hj,e1⟩:=old h1 z1
   by_cases z2:k=o.h.length
   ·obtain⟨_,e2⟩:=new h2 z2
    rw[e1,e2] at e
    exact absurd e (ne hj n1)
   ·obtain⟨hk,e2⟩:=old h2 z2
    rw[e1,e2] at e
    exact R.inj j k c d hj hk n1 n2 e
theorem Rel.addL (R:Rel K o){q:B5}{l:List W}{vs:List V}(h:o.H q=none)(hl:Rvs K o l vs):Rel K (o.add q (.lst l) (.lst vs)):=R.add h ⟨vs,aM,hl.mono R (Ex.add h)⟩
def Wo.put (o:Wo)(k:Nat)(b:Ob)(u:HO):Wo:=⟨o.mu,o.h.set k b,upd o.H (o.mu k) u⟩
theorem Lv.put {k:Nat}{b c:Ob}{u:HO}{a:B5}(hk:o.h[k]?=some c)(hc:c≠.gone)(h:Lv (o.put k b u) a):Lv o a:=by
 obtain⟨j,d,hj,hd,rfl⟩:=h
 have hj:(o.h.set k b)[j]?=some d:=hj
 by_cases z:j=k
 ·subst z;exact⟨j,c,hk,hc,rfl⟩
 ·rw[zt (Ne.symm z)] at hj
  exact⟨j,d,hj,hd,rfl⟩
theorem Ex.put {k:Nat}{b c:Ob}{u:HO}(hk:o.h[k]?=some c)(hc:c≠.gone):Ex o (o.put k b u):=by
 refine⟨by show _<=(o.h.set k b).length;simp,fun _ _=>rfl,fun a w e n=>⟨?_,fun l=>n (l.put hk hc)⟩⟩
 show upd o.H (o.mu k) u a=some w
 rw[ar fun z=>n ⟨k,c,hk,hc,z.symm⟩];exact e
theorem Rel.put (R:Rel K o){k:Nat}{b c:Ob}{u:HO}(hk:o.h[k]?=some c)(hc:c≠.gone)(hb:Ro K (o.put k b u) (o.mu k) b):Rel K (o.put k b u):=by
 have X:Ex o (o.put k b u):=Ex.put hk hc
 have old: ∀ {j:Nat}{d:Ob},(o.put k b u).h[j]?=some d->j≠k->o.h[j]?=some d:=fun{j d} hj z=>by
  have hj:(o.h.set k b)[j]?=some d:=hj
  rw[zt (Ne.symm z)] at hj
  exact hj
 refine⟨fun j d hj=>?_,fun i j d e h1 h2 n1 n2 q=>?_⟩
 ·by_cases z:j=k
  ·subst z
   have hl:=(zO.mp hk).1
   have hj:(o.h.set j b)[j]?=some d:=hj
   rw[Az hl] at hj
   cases hj
   exact hb
  ·have hj:=old hj z
   have r:=R.ob j d hj
   have st: ∀ {w:HO},d≠.gone->o.H (o.mu j)=some w->(o.put k b u).H (o.mu j)=some w:=fun{w} hd e=>by
    show upd o.H (o.mu k) u (o.mu j)=some w
    rw[ar fun q=>z (R.inj j k d c hj hk hd hc q)];exact e
   cases d with
   |lst l=>obtain⟨vs,h1,h2⟩:=r;exact⟨vs,st (by simp) h1,h2.mono R X⟩
   |dic ks ws=>obtain⟨vs,h1,h2,h3⟩:=r;exact⟨vs,st (by simp) h1,h2,h3.mono R X⟩
   |dit ks ws=>obtain⟨vs,h1,h2,h3⟩:=r;exact⟨vs,st (by simp) h1,h2,h3.mono R X⟩
   |din b ks ws=>obtain⟨vs,h1,h2,hn,h3⟩:=r;exact⟨vs,st (by simp) h1,h2,fun x hx=>(hn x hx).mono X R,h3.mono R X⟩
   |ins c ns ws=>obtain⟨C,dx,fs,h0,h1,h2,h3⟩:=r;exact⟨C,dx,fs,h0,st (by simp) h1,h2,h3.mono R X⟩
   |gone=>trivial
 ·have ex: ∀ {j:Nat}{d:Ob},(o.put k b u).h[j]?=some d->d≠.gone-> ∃d',o.h[j]?=some d'/\d'≠.gone:=fun{j d} hj n=>by
   by_cases z:j=k
   ·subst z;exact⟨c,hk,hc⟩
   ·exact⟨d,old hj z,n⟩
  obtain⟨d',h1',n1'⟩:=ex h1 n1
  obtain⟨e',h2',n2'⟩:=ex h2 n2
  exact R.inj i j d' e' h1' h2' n1' n2' q
theorem Rel.putL (R:Rel K o){k:Nat}{c:Ob}{l:List W}{vs:List V}(hk:o.h[k]?=some c)(hc:c≠.gone)(hl:Rvs K o l vs):Rel K (o.put k (.lst l) (.lst vs)):=R.put hk hc ⟨vs,aM,hl.mono R (Ex.put hk hc)⟩
noncomputable def Wo.ice (o:Wo)(k:Nat):Wo:=⟨o.mu,o.h.set k .gone,o.H⟩
theorem Lv.ice {k:Nat}{a:B5}(h:Lv (o.ice k) a): ∃j b,j≠k/\o.h[j]?=some b/\b≠.gone/\o.mu j=a:=by
 obtain⟨j,d,hj,hd,e⟩:=h
 have hj:(o.h.set k .gone)[j]?=some d:=hj
 by_cases z:j=k
 ·subst z
  have hl:=(zO.mp hj).1
  rw[zW] at hl
  rw[Az hl] at hj
  cases hj
  exact absurd rfl hd
 ·rw[zt (Ne.symm z)] at hj
  exact⟨j,d,z,hj,hd,e⟩
theorem Ex.ice {k:Nat}:Ex o (o.ice k):=by
 refine⟨by show _<=(o.h.set k .gone).length;simp,fun _ _=>rfl,fun a w e n=>⟨e,fun l=>?_⟩⟩
 obtain⟨j,b,_,h1,h2,h3⟩:=l.ice
 exact n ⟨j,b,h1,h2,h3⟩
theorem Rel.ice (R:Rel K o){k:Nat}:Rel K (o.ice k):=by
 have X:Ex o (o.ice k):=Ex.ice
 have old: ∀ {j:Nat}{d:Ob},(o.ice k).h[j]?=some d->d≠.gone->o.h[j]?=some d:=fun{j d} hj n=>by
  have hj:(o.h.set k .gone)[j]?=some d:=hj
  by_cases z:j=k
  ·subst z
   have hl:=(zO.mp hj).1
   rw[zW] at hl
   rw[Az hl] at hj
   cases hj
   exact absurd rfl n
  ·rw[zt (Ne.symm z)] at hj
   exact hj
 refine⟨fun j d hj=>?_,fun i j d e h1 h2 n1 n2 q=>R.inj i j d e (old h1 n1) (old h2 n2) n1 n2 q⟩
 cases d with
 |lst l=>obtain⟨vs,h1,h2⟩:=R.ob j _ (old hj (by simp));exact⟨vs,h1,h2.mono R X⟩
 |dic ks ws=>obtain⟨vs,h1,h2,h3⟩:=R.ob j _ (old hj (by simp));exact⟨vs,h1,h2,h3.mono R X⟩
 |dit ks ws=>obtain⟨vs,h1,h2,h3⟩:=R.ob j _ (old hj (by simp));exact⟨vs,h1,h2,h3.mono R X⟩
 |din b ks ws=>obtain⟨vs,h1,h2,hn,h3⟩:=R.ob j _ (old hj (by simp));exact⟨vs,h1,h2,fun x hx=>(hn x hx).mono X R,h3.mono R X⟩
 |ins c ns ws=>obtain⟨C,dx,fs,h0,h1,h2,h3⟩:=R.ob j _ (old hj (by simp));exact⟨C,dx,fs,h0,h1,h2,h3.mono R X⟩
 |gone=>trivial
theorem Rv.iceL (R:Rel K o){k:Nat}{l:List W}(hk:o.h[k]?=some (.lst l)):Rv K (o.ice k) (.tl l) (.ref (o.mu k)):=by
 obtain⟨vs,h1,h2⟩:=R.ob k _ hk
 unfold Rv
 refine⟨_,vs,rfl,h1,fun z=>?_,h2.mono R Ex.ice⟩
 obtain⟨j,b,n,q1,q2,q3⟩:=z.ice
 exact n (R.inj j k b _ q1 hk q2 (by simp) q3)
theorem Rv.iceD (R:Rel K o){k:Nat}{ks:List Key}{ws:List W}(hk:o.h[k]?=some (.dic ks ws)):Rv K (o.ice k) (.dv ks ws) (.ref (o.mu k)):=by
 obtain⟨vs,h1,h0,h2⟩:=R.ob k _ hk
 unfold Rv
 refine⟨_,vs,rfl,.inl h1,fun z=>?_,h0,h2.mono R Ex.ice⟩
 obtain⟨j,b,n,q1,q2,q3⟩:=z.ice
 exact n (R.inj j k b _ q1 hk q2 (by simp) q3)
theorem Rv.iceN (R:Rel K o){k:Nat}{b:Bool}{ks:List PKy}{ws:List W}(hk:o.h[k]?=some (.din b ks ws)):Rv K (o.ice k) (.dn b ks ws) (.ref (o.mu k)):=by
 obtain⟨vs,h1,h0,hn,h2⟩:=R.ob k _ hk
 unfold Rv
 refine⟨_,vs,rfl,h1,fun z=>?_,h0,fun x hx=>(hn x hx).mono Ex.ice R,h2.mono R Ex.ice⟩
 obtain⟨j,b,n,q1,q2,q3⟩:=z.ice
 exact n (R.inj j k b _ q1 hk q2 (by simp) q3)
theorem Rvs.len: ∀ {l:List W}{vs:List V},Rvs K o l vs->vs.length=l.length
 |[],_,h=>by unfold Rvs at h;rw[h];rfl
 |w::l,_,h=>by unfold Rvs at h;obtain⟨v,r,rfl,_,h2⟩:=h;rw[zx,zx,Rvs.len h2]
theorem Rvs.get: ∀ {l:List W}{vs:List V}{i:Nat}{w:W},Rvs K o l vs->l[i]?=some w-> ∃v,vs[i]?=some v/\Rv K o w v
 |[],_,_,_,_,e=>by simp at e
 |x::l,_,0,w,h,e=>by unfold Rvs at h;obtain⟨v,r,rfl,h1,h2⟩:=h;cases e;exact⟨v,rfl,h1⟩
 |x::l,_,i+1,w,h,e=>by unfold Rvs at h;obtain⟨v,r,rfl,h1,h2⟩:=h;obtain⟨u,q1,q2⟩:=Rvs.get (l:=l) (i:=i) (w:=w) h2 (by simpa using e);exact⟨u,by simpa using q1,q2⟩
theorem Rvs.nil:Rvs K o [] []:=by unfold Rvs;rfl
theorem Rvs.cons {w:W}{v:V}{l:List W}{vs:List V}(h:Rv K o w v)(t:Rvs K o l vs):Rvs K o (w::l) (v::vs):=by unfold Rvs;exact⟨v,vs,rfl,h,t⟩
theorem Rvs.app: ∀ {l m:List W}{vs us:List V},Rvs K o l vs->Rvs K o m us->Rvs K o (l++m) (vs++us)
 |[],_,_,_,h,t=>by unfold Rvs at h;rw[h];exact t
 |w::l,m,_,us,h,t=>by unfold Rvs at h;obtain⟨v,r,rfl,h1,h2⟩:=h;exact Rvs.cons h1 (Rvs.app h2 t)
theorem Rvs.take: ∀ {l:List W}{vs:List V} (n:Nat),Rvs K o l vs->Rvs K o (l.take n) (vs.take n)
 |[],_,n,h=>by unfold Rvs at h;rw[h,List.take_nil,List.take_nil];exact Rvs.nil
 |w::l,_,0,h=>by rw[List.take_zero,List.take_zero];exact Rvs.nil
 |w::l,_,n+1,h=>by unfold Rvs at h;obtain⟨v,r,rfl,h1,h2⟩:=h;exact Rvs.cons h1 (Rvs.take n h2)
theorem Rvs.drop: ∀ {l:List W}{vs:List V} (n:Nat),Rvs K o l vs->Rvs K o (l.drop n) (vs.drop n)
 |[],_,n,h=>by unfold Rvs at h;rw[h,List.drop_nil,List.drop_nil];exact Rvs.nil
 |w::l,_,0,h=>h
 |w::l,_,n+1,h=>by unfold Rvs at h;obtain⟨v,r,rfl,h1,h2⟩:=h;exact Rvs.drop n h2
noncomputable abbrev Dl:=List (Option W)
def RvO (K:PySem.W.Frag)(o:Wo):Option W->Option V->Prop
 |some w,s=> ∃v,s=some v/\Rv K o w v
 |none,s=>s=none
def Re (K:PySem.W.Frag)(o:Wo):Dl->St->Prop
 |[],s=>s=[]
 |w::r,s=> ∃x t,s=x::t/\RvO K o w x/\Re K o r t
theorem RvO.mono (R:Rel K o)(X:Ex o p): ∀ {w:Option W}{s:Option V},RvO K o w s->RvO K p w s
 |some w,_,⟨v,e,h⟩=>⟨v,e,h.mono R X⟩
 |none,_,h=>h
theorem Re.mono (R:Rel K o)(X:Ex o p): ∀ {r:Dl}{s:St},Re K o r s->Re K p r s
 |[],_,h=>h
 |w::r,_,⟨x,t,e,h1,h2⟩=>⟨x,t,e,h1.mono R X,Re.mono R X h2⟩
theorem Re.get: ∀ {r:Dl}{s:St}{i:Nat}{w:W},Re K o r s->r[i]?=some (some w)-> ∃v,s[i]?=some (some v)/\Rv K o w v
 |[],_,_,_,_,e=>by simp at e
 |x::r,_,0,w,⟨y,t,rfl,h1,h2⟩,e=>by cases e;obtain⟨v,rfl,q⟩:=h1;exact⟨v,rfl,q⟩
 |x::r,_,i+1,w,⟨y,t,rfl,h1,h2⟩,e=>by obtain⟨u,q1,q2⟩:=Re.get (r:=r) (i:=i) (w:=w) h2 (by simpa using e);exact⟨u,by simpa using q1,q2⟩
theorem Re.set {w:W}{v:V}(q:Rv K o w v): ∀ {r:Dl}{s:St} (i:Nat),Re K o r s->Re K o (r.set i (some w)) (s.set i (some v))
 |[],_,_,h=>by rw[show _=[] from h];rfl
 |x::r,_,0,⟨y,t,rfl,h1,h2⟩=>⟨_,_,rfl,⟨v,rfl,q⟩,h2⟩
 |x::r,_,i+1,⟨y,t,rfl,h1,h2⟩=>⟨_,_,rfl,h1,Re.set q i h2⟩
theorem Re.front: ∀ {r:Dl}{s:St} (n:Nat),Re K o r s->Re K o (List.replicate n none++r) (List.replicate n none++s)
 |_,_,0,h=>h
 |_,_,n+1,h=>⟨none,_,rfl,rfl,Re.front n h⟩
theorem Re.args: ∀ {ws:List W}{vs:List V} (n:Nat),Rvs K o ws vs->Re K o (ws.map some++List.replicate n none) (vs.map some++List.replicate n none)
 |[],_,n,h=>by
  unfold Rvs at h;rw[h]
  induction n with
  |zero=>rfl
  |succ n ih=>exact⟨none,_,rfl,rfl,ih⟩
 |w::l,_,n,h=>by unfold Rvs at h;obtain⟨v,r,rfl,h1,h2⟩:=h;exact⟨_,_,rfl,⟨v,rfl,h1⟩,Re.args n h2⟩
end
inductive Rs (α:Type) where
 |ok (a:α)(h:List Ob)|ex (c:Str)(h:List Ob)|bad
noncomputable abbrev M (α:Type):=List Ob->Rs α
def bd {α β:Type}(f:M α)(g:α->M β):M β:=fun h=>match f h with
 |.ok a h'=>g a h'
 |.ex c h'=>.ex c h'
 |.bad=>.bad
def pr {α:Type}(a:α):M α:=fun h=>.ok a h
def no {α:Type}:M α:=fun _=>.bad
def gd {α:Type}(p:Prop) [Decidable p] (m:M α):M α:=fun h=>if p then m h else .bad
structure Cg where
 K:PySem.W.Frag
 mg:Str->Option BZ
 E:XK
def Ps {α β:Type}(c:Cg)(r:Wo->α->β->Prop)(o:Wo)(R:Rs α)(Q:β->Hp->Prop):Prop:=match R with
 |.ok a h'=> ∀p b,p.h=h'->Ex o p->Rel c.K p->r p a b->Q b p.H
 |.ex x h'=> ∃u,c.mg x=some u/\ ∀p,p.h=h'->Ex o p->Rel c.K p->c.E u none p.H
 |.bad=>False
def tG {α β:Type}(c:Cg)(r:Wo->α->β->Prop)(f:Dl->M α)(σ:St)(H:Hp)(Q:β->Hp->Prop):Prop:= ∃o ρ,o.H=H/\Rel c.K o/\Re c.K o ρ σ/\Ps c r o (f ρ o.h) Q
noncomputable abbrev tM (c:Cg)(f:Dl->M W):TE:=tG c (Rv c.K) f
noncomputable abbrev tT (c:Cg)(f:Dl->M Bool):TT:=tG c (fun _ a b=>a=b) f
noncomputable abbrev tA (c:Cg)(f:Dl->M (List W)):TA:=tG c (Rvs c.K) f
section
variable {c:Cg}{o p:Wo}{α β γ δ:Type}{r:Wo->α->β->Prop}{r2:Wo->γ->δ->Prop}
theorem Ps.after {R:Rs α}{Q:β->Hp->Prop}(X:Ex o p)(h:Ps c r o R Q):Ps c r p R Q:=by
 cases R with
 |ok a h'=>exact fun q b e X2 Rq rq=>h q b e (X.trans X2) Rq rq
 |ex x h'=>obtain⟨u,hu,h⟩:=h;exact⟨u,hu,fun q e X2 Rq=>h q e (X.trans X2) Rq⟩
 |bad=>exact h
theorem Ps.bd {f:M α}{g:α->M γ}{Q:δ->Hp->Prop}{N:β->Hp->Prop}(h:Ps c r2 o (bd f g o.h) Q)(k:∀p a b,Ex o p->Rel c.K p->r p a b->Ps c r2 p (g a p.h) Q->N b p.H):Ps c r o (f o.h) N:=by
 unfold L2.bd at h
 cases e:f o.h with
 |ok a h'=>
  rw[e] at h
  intro p b hp X R rb
  subst hp
  exact k p a b X R rb (h.after X)
 |ex x h'=>
  rw[e] at h
  exact h
 |bad=>
  rw[e] at h
  exact h
theorem Ps.pr {a:α}{Q:β->Hp->Prop}{b:β}(h:Ps c r o (pr a o.h) Q)(R:Rel c.K o)(hb:r o a b):Q b o.H:=h o b rfl (Ex.refl _) R hb
theorem Ps.at {a:α}{h':List Ob}{Q:β->Hp->Prop}{b:β}(h:Ps c r o (.ok a h') Q)(e:p.h=h')(X:Ex o p)(R:Rel c.K p)(hb:r p a b):Q b p.H:=h p b e X R hb
theorem Ps.gd {P:Prop} [Decidable P] {m:M α}{Q:β->Hp->Prop}(h:Ps c r o (gd P m o.h) Q):P/\Ps c r o (m o.h) Q:=by
 unfold L2.gd at h
 by_cases q:P
 ·rw[if_pos q] at h;exact⟨q,h⟩
 ·rw[if_neg q] at h;exact h.elim
end
end
section
noncomputable abbrev cg (X:Cx)(E:XK):Cg:=⟨X.K,X.mg,E⟩
def tF (c:Cg)(f:Dl->M (List W)):TE:=fun σ H Q=>tG c (Rvs c.K) f σ H fun vs H1=> ∀q,H1 q=none->Q (.ref q) (upd H1 q (.lst vs))
structure JE (X:Cx)(E:XK)(e:Expr)(f:Dl->M W):Prop where
 h:PE X e (tM (cg X E) f)
structure JT (X:Cx)(E:XK)(e:Expr)(f:Dl->M Bool):Prop where
 h:PT X e (tT (cg X E) f)
structure JW (X:Cx)(E:XK)(e:Expr)(f:Dl->M Bool):Prop where
 h:PW X e (tT (cg X E) f)
structure JA (X:Cx)(E:XK)(es:List Expr)(f:Dl->M (List W)):Prop where
 h:PA X es (tA (cg X E) f)
structure JF (X:Cx)(E:XK)(e:Expr)(f:Dl->M (List W)):Prop where
 h:PE X e (tF (cg X E) f)
theorem PE.imp {X:Cx}{E:XK}{e:Expr}{t:TE}{f:Dl->M W}(h:PE X e t)(k:∀σ H Q,tM (cg X E) f σ H Q->t σ H Q):JE X E e f:=⟨fun pins s σ H Q I q=>h pins s σ H Q I (k σ H Q q)⟩
theorem PE.impF {X:Cx}{E:XK}{e:Expr}{t:TE}{f:Dl->M (List W)}(h:PE X e t)(k:∀σ H Q,tF (cg X E) f σ H Q->t σ H Q):JF X E e f:=⟨fun pins s σ H Q I q=>h pins s σ H Q I (k σ H Q q)⟩
theorem PT.imp {X:Cx}{E:XK}{e:Expr}{t:TT}{f:Dl->M Bool}(h:PT X e t)(k:∀σ H Q,tT (cg X E) f σ H Q->t σ H Q):JT X E e f:=⟨fun pins s σ H Q I q=>h pins s σ H Q I (k σ H Q q)⟩
theorem PW.imp {X:Cx}{E:XK}{e:Expr}{t:TT}{f:Dl->M Bool}(h:PW X e t)(k:∀σ H Q,tT (cg X E) f σ H Q->t σ H Q):JW X E e f:=⟨fun w pins s σ H Q I q=>h w pins s σ H Q I (k σ H Q q)⟩
theorem PA.imp {X:Cx}{E:XK}{e:List Expr}{t:TA}{f:Dl->M (List W)}(h:PA X e t)(k:∀σ H Q,tA (cg X E) f σ H Q->t σ H Q):JA X E e f:=⟨fun pos pins s σ H Q I q=>h pos pins s σ H Q I (k σ H Q q)⟩
theorem vt {X:Cx}{E:XK}{e:Expr}{f:Dl->M Bool}(q:JW X E e f):JT X E e f:=⟨(q.h).pt⟩
section
variable {X:Cx}{E:XK}
def Ff (i:Nat):Dl->M W:=fun ρ=>match ρ[i]? with
 |some (some w)=>pr w
 |_=>no
def mC (w:W):Dl->M W:=fun _=>pr w
theorem vP {i:Nat}{σ:St}{H:Hp}{Q:VK}(h:tM (cg X E) (Ff i) σ H Q):Hs i σ H Q:=by
 obtain⟨o,ρ,rfl,R,S,h⟩:=h
 unfold Ff at h
 cases e:ρ[i]? with
 |none=>rw[e] at h;exact h.elim
 |some x=>
  cases x with
  |none=>rw[e] at h;exact h.elim
  |some w=>
   rw[e] at h
   obtain⟨v,e1,r⟩:=S.get e
   exact⟨v,e1,h.pr R r⟩
theorem xf (i:Nat){x:Str}{pos:Ct}(hN:X.N[i]?=some x:=by rfl)(hv:Vis X.env.scope x:=by first|exact Or.inl rfl|exact Or.inr (Or.inl rfl)|exact Or.inr (Or.inr rfl))(hd:(x==("__debug__":Str))=false:=by decide)
 (hcd:(x==("__classdict__":Str))=false:=by decide):JE X E (.Name x pos) (Ff i):=(pv i hN hv hd hcd).imp fun _ _ _ h=>vP h
theorem qQ {w:W}{v:V}(hr: ∀o,Rv X.K o w v){σ:St}{H:Hp}{Q:VK}(h:tM (cg X E) (mC w) σ H Q):tC v σ H Q:=by
 obtain⟨o,ρ,rfl,R,S,h⟩:=h
 exact Ps.pr (c:=cg X E) h R (hr o)
theorem xz {i j pos}:JE X E (.Constant (.int i) j pos) (mC (.int i)):=F7.imp fun _ _ _ h=>qQ (fun o=>by unfold Rv;rfl) h
theorem yM {i j pos}:JE X E (.Constant (.bool i) j pos) (mC (.bl i)):=F4.imp fun _ _ _ h=>qQ (fun o=>by unfold Rv;rfl) h
theorem xj {i j pos}:JE X E (.Constant (.str i) j pos) (mC (.str i)):=F8.imp fun _ _ _ h=>qQ (fun o=>by unfold Rv;rfl) h
theorem lA {x:Str}{w:W}{v:V}{u:BZ}{pos:Ct}(hg:Gl X x)(hm:X.mg x=some u)(r:RelV v u)(hr: ∀o,Rv X.K o w v)(hd:(x==("__debug__":Str))=false:=by decide):JE X E (.Name x pos) (mC w):=
 (cO hg hm r hd).imp fun _ _ _ h=>qQ hr h
def m2 (f:W->W->M W)(fa fb:Dl->M W):Dl->M W:=fun ρ=>bd (fa ρ) fun x=>bd (fb ρ) fun y=>f x y
def OpM (X:Cx)(E:XK)(r:R2)(f:W->W->M W):Prop:= ∀ (o:Wo) (x y:W) (vx vy:V) (Q:VK),Rel X.K o->Rv X.K o x vx->Rv X.K o y vy->Ps (cg X E) (Rv X.K) o (f x y o.h) Q->r vx vy o.H Q
theorem tj {r:R2}{f:W->W->M W}(hf:OpM X E r f){fa fb:Dl->M W}{σ:St}{H:Hp}{Q:VK}(h:tM (cg X E) (m2 f fa fb) σ H Q):tOp r (tM (cg X E) fa) (tM (cg X E) fb) σ H Q:=by
 obtain⟨o,ρ,rfl,R,S,h⟩:=h
 exact⟨o,ρ,rfl,R,S,Ps.bd h fun p x vx e1 R1 r1 h1=>⟨p,ρ,rfl,R1,S.mono R e1,Ps.bd h1 fun q y vy e2 R2 r2 h2=>hf q x y vx vy Q R2 (r1.mono R1 e2) r2 h2⟩⟩
theorem jA {a b:Expr}{pos:Ct}{op:Operator}{r:R2}{f:W->W->M W}{fa fb:Dl->M W}(ho:OpR X (CO op) r)(hf:OpM X E r f)(ha:JE X E a fa)(hb:JE X E b fb):
 JE X E (.BinOp a op b pos) (m2 f fa fb):=(o4 ho ha.h hb.h).imp fun _ _ _ h=>tj hf h
theorem xB {a b:Expr}{pos:Ct}{op:CmpOp}{r:R2}{f:W->W->M W}{fa fb:Dl->M W}(ho:OpR X (Cz op) r)(hf:OpM X E r f)(ha:JE X E a fa)(hb:JE X E b fb)(hm:CA op b=false):
 JE X E (.Compare a [op] [b] pos) (m2 f fa fb):=(gc ho ha.h hb.h hm).imp fun _ _ _ h=>tj hf h
def asB (w:W):M Bool:=match w with
 |.bl b=>pr b
 |_=>no
def mB (f:Dl->M W):Dl->M Bool:=fun ρ=>bd (f ρ) asB
theorem vS {f:Dl->M W}{σ:St}{H:Hp}{Q:Bool->Hp->Prop}(h:tT (cg X E) (mB f) σ H Q):tM (cg X E) f σ H fun x H'=> ∃k,x=.bl k/\Q k H':=by
 obtain⟨o,ρ,rfl,R,S,h⟩:=h
 refine⟨o,ρ,rfl,R,S,Ps.bd h fun p x vx e1 R1 r1 h1=>?_⟩
 unfold asB at h1
 split at h1
 ·rename_i b
  unfold Rv at r1
  exact⟨b,r1,h1.pr R1 rfl⟩
 ·exact h1.elim
theorem wU {a b:Expr}{pos:Ct}{op:CmpOp}{r:R2}{f:W->W->M W}{fa fb:Dl->M W}(ho:OpR X (Cz op) r)(hf:OpM X E r f)(ha:JE X E a fa)(hb:JE X E b fb)(hm:CA op b=false):
 JT X E (.Compare a [op] [b] pos) (mB (m2 f fa fb)):=(c9 ho ha.h hb.h hm).imp fun _ _ _ h=>tj hf (vS h)
theorem wS {e:Expr}{f:Dl->M W}(h:JE X E e f)(he: ∀whole,isTrue e X.env whole=(do let v<-whole;CB e.pos;CC [v] (truthy v)):=by intro _;rfl):JT X E e (mB f):=
 (eN h.h he).imp fun _ _ _ h=>vS h
def EU (f g:Dl->M Bool):Dl->M Bool:=fun ρ=>bd (f ρ) fun b=>if b=true then g ρ else pr false
def mOr (f g:Dl->M Bool):Dl->M Bool:=fun ρ=>bd (f ρ) fun b=>if b=true then pr true else g ρ
def E6 (f:Dl->M Bool):Dl->M Bool:=fun ρ=>bd (f ρ) fun b=>pr (!b)
variable {a b:Expr}{Gm:List Expr}{pos:Ct}{f g:Dl->M Bool}
theorem vL {σ:St}{H:Hp}{Q:Bool->Hp->Prop}(h:tT (cg X E) (EU f g) σ H Q):tAnd (tT (cg X E) f) (tT (cg X E) g) σ H Q:=by
 obtain⟨o,ρ,rfl,R,S,h⟩:=h
 refine⟨o,ρ,rfl,R,S,Ps.bd h fun p x vx e1 R1 r1 h1=>?_⟩
 subst r1
 cases x with
 |true=>exact Ez ⟨p,ρ,rfl,R1,S.mono R e1,h1⟩
 |false=>exact Ey (h1.pr R1 rfl)
theorem yb {σ:St}{H:Hp}{Q:Bool->Hp->Prop}(h:tT (cg X E) (mOr f g) σ H Q):tOr (tT (cg X E) f) (tT (cg X E) g) σ H Q:=by
 obtain⟨o,ρ,rfl,R,S,h⟩:=h
 refine⟨o,ρ,rfl,R,S,Ps.bd h fun p x vx e1 R1 r1 h1=>?_⟩
 subst r1
 cases x with
 |false=>exact Ey ⟨p,ρ,rfl,R1,S.mono R e1,h1⟩
 |true=>exact Ez (h1.pr R1 rfl)
theorem wT (ha:JT X E a f):JT X E (.UnaryOp .Not a pos) (E6 f):=(ol ha.h).imp fun σ H Q h=>by
 obtain⟨o,ρ,rfl,R,S,h⟩:=h
 refine⟨o,ρ,rfl,R,S,Ps.bd h fun p x vx e1 R1 r1 h1=>?_⟩
 subst r1
 exact h1.pr R1 rfl
theorem uk (ha:JT X E a f):JW X E (.BoolOp .And [a] pos) f:=⟨oZ ha.h⟩
theorem wR (ha:JT X E a f):JW X E (.BoolOp .Or [a] pos) f:=⟨oj ha.h⟩
theorem rS (ha:JT X E a f)(hb:JW X E (.BoolOp .And (b::Gm) pos) g):JW X E (.BoolOp .And (a::b::Gm) pos) (EU f g):=(rk ha.h hb.h).imp fun _ _ _ h=>vL h
theorem vo (ha:JT X E a f)(hb:JW X E (.BoolOp .Or (b::Gm) pos) g):JW X E (.BoolOp .Or (a::b::Gm) pos) (mOr f g):=(rj ha.h hb.h).imp fun _ _ _ h=>yb h
def EV (f g:Dl->M W):Dl->M W:=fun ρ=>bd (f ρ) fun w=>bd (asB w) fun b=>if b=true then g ρ else pr (.bl false)
def mOrV (f g:Dl->M W):Dl->M W:=fun ρ=>bd (f ρ) fun w=>bd (asB w) fun b=>if b=true then pr (.bl true) else g ρ
def E7 (f:Dl->M W):Dl->M W:=fun ρ=>bd (f ρ) fun w=>bd (asB w) fun b=>pr (.bl (!b))
theorem oN {α β:Type}{r:Wo->α->β->Prop}{o:Wo}{w:W}{v:V}{k:Bool->M α}{Q:β->Hp->Prop}(hr:Rv X.K o w v)(h:Ps (cg X E) r o (bd (asB w) k o.h) Q): ∃b,w=.bl b/\v=.bl b/\Ps (cg X E) r o (k b o.h) Q:=by
 cases w with
 |bl b=>unfold Rv at hr;exact⟨b,rfl,hr,h⟩
 |_=>exact h.elim
variable {u v:Dl->M W}
theorem xp {op}(h:JE X E a u):JE X E (.BoolOp op [a] pos) u:=⟨ot h.h⟩
theorem xC (ha:JE X E a u)(hb:JE X E (.BoolOp .And (b::Gm) pos) v):JE X E (.BoolOp .And (a::b::Gm) pos) (EV u v):=(ou ha.h hb.h).imp fun σ H Q h=>by
 obtain⟨o,ρ,rfl,R,S,h⟩:=h
 refine⟨o,ρ,rfl,R,S,Ps.bd h fun p x vx e1 R1 r1 h1=>?_⟩
 obtain⟨k,rfl,rfl,h2⟩:=oN r1 h1
 refine⟨k,rfl,?_⟩
 cases k with
 |true=>exact Ez ⟨p,ρ,rfl,R1,S.mono R e1,h2⟩
 |false=>exact Ey (h2.pr R1 (by unfold Rv;rfl))
theorem xq (ha:JE X E a u):JE X E (.UnaryOp .Not a pos) (E7 u):=(rC ha.h).imp fun σ H Q h=>by
 obtain⟨o,ρ,rfl,R,S,h⟩:=h
 refine⟨o,ρ,rfl,R,S,Ps.bd h fun p x vx e1 R1 r1 h1=>?_⟩
 obtain⟨k,rfl,rfl,h2⟩:=oN r1 h1
 exact⟨k,rfl,h2.pr R1 (by unfold Rv;rfl)⟩
def mIf (f:Dl->M Bool)(u v:Dl->M W):Dl->M W:=fun ρ=>bd (f ρ) fun b=>if b=true then u ρ else v ρ
def m1 (f:W->M W)(fa:Dl->M W):Dl->M W:=fun ρ=>bd (fa ρ) f
def Fn (w:W):M W:=match w with
 |.int i=>pr (.int (-i))
 |_=>no
theorem xr (ha:JE X E a u):JE X E (.UnaryOp .USub a pos) (m1 Fn u):=(yg vF ha.h).imp fun σ H Q h=>by
 obtain⟨o,ρ,rfl,R,S,h⟩:=h
 refine⟨o,ρ,rfl,R,S,Ps.bd h fun p x vx e1 R1 r1 h1=>?_⟩
 unfold Fn at h1
 split at h1
 ·unfold Rv at r1
  exact⟨_,r1,h1.pr R1 (by unfold Rv;rfl)⟩
 ·exact h1.elim
def E5:Dl->M (List W):=fun _=>pr []
def EY (fa:Dl->M W)(fr:Dl->M (List W)):Dl->M (List W):=fun ρ=>bd (fa ρ) fun x=>bd (fr ρ) fun l=>pr (x::l)
variable {es:List Expr}{l:Dl->M (List W)}{e:Expr}
theorem xE:JA X E [] E5:=FW.imp fun σ H Q h=>by
 obtain⟨o,ρ,rfl,R,S,h⟩:=h
 exact h.pr R Rvs.nil
theorem uG (ha:JE X E e u)(hr:JA X E es l)(hs:Cv (e::es) X.env=(false,Cp e X.env)::Cv es X.env:=by rfl):JA X E (e::es) (EY u l):=(ai ha.h hr.h hs).imp fun σ H Q h=>by
 obtain⟨o,ρ,rfl,R,S,h⟩:=h
 exact⟨o,ρ,rfl,R,S,Ps.bd h fun p x vx e1 R1 r1 h1=>⟨p,ρ,rfl,R1,S.mono R e1,Ps.bd h1 fun q y vy e2 R2 r2 h2=>h2.pr R2 (Rvs.cons (r1.mono R1 e2) r2)⟩⟩
def tupW (l:List W):M W:=gd (l.length<=sizeLine) (pr (.tup l))
def Fe (l:Dl->M (List W)):Dl->M W:=fun ρ=>bd (l ρ) tupW
theorem Rv.newT {K:PySem.W.Frag}{o:Wo}(R:Rel K o){q:B5}{l:List W}{vs:List V}(h:o.H q=none)(hl:Rvs K o l vs):Rv K ⟨o.mu,o.h,upd o.H q (.tup vs)⟩ (.tup l) (.ref q):=by
 unfold Rv;exact⟨q,vs,rfl,.of aM,hl.mono R (Ex.new h)⟩
theorem Rv.newL {K:PySem.W.Frag}{o:Wo}(R:Rel K o){q:B5}{l:List W}{vs:List V}(h:o.H q=none)(hl:Rvs K o l vs):Rv K ⟨o.mu,o.h,upd o.H q (.lst vs)⟩ (.tl l) (.ref q):=by
 unfold Rv
 exact⟨q,vs,rfl,aM,fun z=>Lv.there R (show Lv o q from z) h,hl.mono R (Ex.new h)⟩
theorem xg {x1}(h:JA X E es l):JE X E (.Tuple es x1 pos) (Fe l):=(jp h.h).imp fun σ H Q h=>by
 obtain⟨o,ρ,rfl,R,S,h⟩:=h
 refine⟨o,ρ,rfl,R,S,Ps.bd h fun p x vx e1 R1 r1 h1=>?_⟩
 obtain⟨hz,h1⟩:=h1.gd
 exact⟨by rw[r1.len];exact hz,fun q hq=>Ps.at (p:=⟨p.mu,p.h,upd p.H q (.tup vx)⟩) h1 rfl (Ex.new hq) (R1.new hq) (Rv.newT R1 hq r1)⟩
def mTl (l:Dl->M (List W)):Dl->M W:=fun ρ=>bd (l ρ) fun x=>pr (.tl x)
def Fp (x:List W):M W:=fun h=>.ok (.loc h.length) (h++[.lst x])
def E4 (l:Dl->M (List W)):Dl->M W:=fun ρ=>bd (l ρ) Fp
theorem r6 (h:JF X E e l):JE X E e (mTl l):=h.h.imp fun σ H Q h=>by
 obtain⟨o,ρ,rfl,R,S,h⟩:=h
 exact⟨o,ρ,rfl,R,S,Ps.bd h fun p x vx e1 R1 r1 h1=>fun q hq=>Ps.at (p:=⟨p.mu,p.h,upd p.H q (.lst vx)⟩) h1 rfl (Ex.new hq) (R1.new hq) (Rv.newL R1 hq r1)⟩
theorem oz (h:JF X E e l):JE X E e (E4 l):=h.h.imp fun σ H Q h=>by
 obtain⟨o,ρ,rfl,R,S,h⟩:=h
 refine⟨o,ρ,rfl,R,S,Ps.bd h fun p x vx e1 R1 r1 h1=>fun q hq=>?_⟩
 refine Ps.at (p:=p.add q (.lst x) (.lst vx)) h1 rfl (Ex.add hq) (R1.addL hq r1) ?_
 unfold Rv
 exact⟨by show _<(p.h++[_]).length;simp,by show V.ref q=V.ref (if p.h.length=p.h.length then q else _);rw[if_pos rfl]⟩
def EO (l:Dl->M (List W)):Dl->M (List W):=fun ρ=>bd (l ρ) fun x=>gd (x.length<=sizeLine) (pr x)
theorem w9 (h:JA X E es l):JF X E (.List es pos) (EO l):=(wm h.h).impF fun σ H Q h=>by
 obtain⟨o,ρ,rfl,R,S,h⟩:=h
 refine⟨o,ρ,rfl,R,S,Ps.bd h fun p x vx e1 R1 r1 h1=>?_⟩
 obtain⟨hz,h1⟩:=h1.gd
 exact⟨by rw[r1.len];exact hz,h1.pr R1 r1⟩
end
end
section
section
variable {X:Cx}{E:XK}
theorem Gu {K:PySem.W.Frag}{o:Wo}{i:Int}{v:V}:Rv K o (.int i) v↔v=.int i:=by unfold Rv;exact Iff.rfl
theorem Gw {K:PySem.W.Frag}{o:Wo}{i:Str}{v:V}:Rv K o (.str i) v↔v=.str i:=by unfold Rv;exact Iff.rfl
theorem Gr {K:PySem.W.Frag}{o:Wo}{i:Bool}{v:V}:Rv K o (.bl i) v↔v=.bl i:=by unfold Rv;exact Iff.rfl
theorem Gv {K:PySem.W.Frag}{o:Wo}{v:V}:Rv K o .non v↔v=.non:=by unfold Rv;exact Iff.rfl
theorem Gx {K:PySem.W.Frag}{o:Wo}{n:String}{v:V}:Rv K o (.ty n) v↔v=.ty n:=by unfold Rv;exact Iff.rfl
def ET (w:W):M (List W):=match w with
 |.tl l=>pr l
 |.cl l=>pr l
 |.loc k=>fun h=>match h[k]? with
  |some (.lst l)=>.ok l h
  |_=>.bad
 |_=>no
theorem eG {α β:Type}{r:Wo->α->β->Prop}{o:Wo}{w:W}{v:V}{k:List W->M α}{Q:β->Hp->Prop}(R:Rel X.K o)(hr:Rv X.K o w v)(h:Ps (cg X E) r o (bd (ET w) k o.h) Q):
  ∃l a vs,v=.ref a/\SqL X.K o.H a vs/\Rvs X.K o l vs/\Ps (cg X E) r o (k l o.h) Q:=by
 cases w with
 |tl l=>unfold Rv at hr;obtain⟨a,vs,e,h1,_,h2⟩:=hr;exact⟨l,a,vs,e,.of h1,h2,h⟩
 |cl l=>
  unfold Rv at hr
  obtain⟨a,vs,e,h1,h2⟩:=hr
  rcases h1 with⟨h1,_⟩|h1
  ·exact⟨l,a,vs,e,.inl h1,h2,h⟩
  ·exact⟨l,a,vs,e,.inr h1,h2,h⟩
 |loc j=>
  unfold Rv at hr
  unfold ET bd at h
  cases e:o.h[j]? with
  |none=>simp only[e] at h;exact h.elim
  |some b=>
   cases b with
   |lst l=>
    simp only[e] at h
    obtain⟨vs,h1,h2⟩:=R.ob j _ e
    exact⟨l,_,vs,hr.2,.of h1,h2,h⟩
   |_=>simp only[e] at h;exact h.elim
 |_=>exact h.elim
def ES (w:W):M (List W):=match w with
 |.tl l=>pr l
 |.loc k=>fun h=>match h[k]? with
  |some (.lst l)=>.ok l h
  |_=>.bad
 |_=>no
theorem dP {α β:Type}{r:Wo->α->β->Prop}{o:Wo}{w:W}{v:V}{k:List W->M α}{Q:β->Hp->Prop}(R:Rel X.K o)(hr:Rv X.K o w v)(h:Ps (cg X E) r o (bd (ES w) k o.h) Q):
  ∃l a vs,v=.ref a/\o.H a=some (.lst vs)/\Rvs X.K o l vs/\Ps (cg X E) r o (k l o.h) Q:=by
 cases w with
 |tl l=>unfold Rv at hr;obtain⟨a,vs,e,h1,_,h2⟩:=hr;exact⟨l,a,vs,e,h1,h2,h⟩
 |loc j=>
  unfold Rv at hr
  unfold ES bd at h
  cases e:o.h[j]? with
  |none=>simp only[e] at h;exact h.elim
  |some b=>
   cases b with
   |lst l=>
    simp only[e] at h
    obtain⟨vs,h1,h2⟩:=R.ob j _ e
    exact⟨l,_,vs,hr.2,h1,h2,h⟩
   |_=>simp only[e] at h;exact h.elim
 |_=>exact h.elim
theorem kT {o:Wo}{q:B5}{l:List W}{vs:List V}{Q:VK}(R:Rel X.K o)(hq:o.H q=none)(hl:Rvs X.K o l vs)(h:Ps (cg X E) (Rv X.K) o (pr (.tup l) o.h) Q):Q (.ref q) (upd o.H q (.tup vs)):=
 Ps.at (p:=⟨o.mu,o.h,upd o.H q (.tup vs)⟩) h rfl (Ex.new hq) (R.new hq) (Rv.newT R hq hl)
theorem gK {o:Wo}{q:B5}{l:List W}{vs:List V}{Q:VK}(R:Rel X.K o)(hq:o.H q=none)(hl:Rvs X.K o l vs)(h:Ps (cg X E) (Rv X.K) o (pr (.tl l) o.h) Q):Q (.ref q) (upd o.H q (.lst vs)):=
 Ps.at (p:=⟨o.mu,o.h,upd o.H q (.lst vs)⟩) h rfl (Ex.new hq) (R.new hq) (Rv.newL R hq hl)
def DC (x y:W):M W:=match x,y with
 |.int i,.int j=>pr (.int (i+j))
 |.str a,.str b=>gd (a.length+b.length<=sizeLine) (pr (.str (a++b)))
 |.tup a,.tup b=>gd (a.isEmpty=false/\a.length+b.length<=sizeLine) (pr (.tup (a++b)))
 |x,y=>bd (ES x) fun a=>bd (ES y) fun b=>gd (a.length+b.length<=sizeLine) (pr (.tl (a++b)))
theorem t9:OpM X E (fun x y H Q=>rI0 (fun i j=>.int (i+j)) x y H Q\/(fun x y H Q=>(fun x y H Q=> ∃i j,x=.str i/\y=.str j/\i.length+j.length<=sizeLine/\Q (.str (i++j)) H) x y H Q\/(fun x y H Q=>Gj X.K x y H Q\/rCat x y H Q) x y H Q) x y H Q) DC:=by
 intro o x y vx vy Q R rx ry h
 unfold DC at h
 split at h
 ·exact .inl ⟨_,_,Gu.mp rx,Gu.mp ry,h.pr R (Gu.mpr rfl)⟩
 ·obtain⟨hz,h⟩:=h.gd
  exact .inr (.inl ⟨_,_,Gw.mp rx,Gw.mp ry,hz,h.pr R (Gw.mpr rfl)⟩)
 ·obtain⟨hz,h⟩:=h.gd
  unfold Rv at rx ry
  obtain⟨a,vs,e1,s1,r1⟩:=rx
  obtain⟨b,us,e2,s2,r2⟩:=ry
  have n1:vs≠ []:=fun z=>by
   have:=r1.len
   rw[z] at this
   have q:=hz.1
   rw[List.eq_nil_of_length_eq_zero this.symm] at q
   cases q
  refine .inr (.inr (.inl ⟨a,b,vs,us,e1,e2,s1,s2,n1,by rw[r1.len,r2.len];exact hz.2,fun z=>?_,fun _ q hq=>kT R hq (r1.app r2) h⟩))
  refine h.pr R ?_
  unfold Rv
  exact⟨a,vs,rfl,s1,by have:=r1.app r2;rw[z,zZ] at this;exact this⟩
 ·obtain⟨l,a,vs,e1,s1,r1,h⟩:=dP R rx h
  obtain⟨m,b,us,e2,s2,r2,h⟩:=dP R ry h
  obtain⟨hz,h⟩:=h.gd
  exact .inr (.inr (.inr ⟨a,b,vs,us,e1,e2,s1,s2,by rw[r1.len,r2.len];exact hz,fun q hq=>gK R hq (r1.app r2) h⟩))
theorem xD {a b:Expr}{pos:Ct}{fa fb:Dl->M W}(ha:JE X E a fa)(hb:JE X E b fb):JE X E (.BinOp a .Add b pos) (m2 DC fa fb):=
 jA (FD.or (FE.or (FG.or rJ))) t9 ha hb
def iiW (C:Int->Int->Prop) [∀i j,Decidable (C i j)] (g:Int->Int->W)(x y:W):M W:=match x,y with
 |.int i,.int j=>gd (C i j) (pr (g i j))
 |_,_=>no
theorem eP {C:Int->Int->Prop} [∀i j,Decidable (C i j)] {g:Int->Int->W}{g':Int->Int->V}(hg: ∀o i j,Rv X.K o (g i j) (g' i j)):OpM X E (rI C g') (iiW C g):=by
 intro o x y vx vy Q R rx ry h
 unfold iiW at h
 split at h
 ·obtain⟨hz,h⟩:=h.gd
  exact⟨_,_,Gu.mp rx,Gu.mp ry,hz,h.pr R (hg _ _ _)⟩
 ·exact h.elim
theorem FC {f:BZ->BZ->Sem BZ}{g':Int->Int->V}(h:OpR X f (rI0 g')):OpR X f (rI (fun _ _=>True) g'):=fun pins s σ H x y v u Q I rx ry q=>h pins s σ H x y v u Q I rx ry (let ⟨i,j,e1,e2,_,q⟩:=q;⟨i,j,e1,e2,q⟩)
noncomputable abbrev CT:Int->Int->Prop:=fun _ _=>True
def Hi:W->W->M W:=iiW CT fun i j=>.int (i - j)
theorem xi {a b:Expr}{pos:Ct}{fa fb:Dl->M W}(ha:JE X E a fa)(hb:JE X E b fb):JE X E (.BinOp a .Sub b pos) (m2 Hi fa fb):=
 jA (FC wC) (eP fun _ _ _=>Gu.mpr rfl) ha hb
noncomputable def Db (i j:Int):Prop:=0<j/\j<2 ^ 200
instance (i j:Int):Decidable (Db i j):=by unfold Db;infer_instance
theorem rH:OpR X (CO .FloorDiv) (rI Db fun i j=>.int (i / j)):=opI fun i j _ _ _ _ _ hc q=>by
 have h1:(0:Int)<j:=hc.1
 have h2:j<2 ^ 200:=hc.2
 refine floordiv_int (by omega) (by rw[BA i (by omega)];exact q) (.inl (PyProof.noPylong_of_log2 ?_))
 have h3:j.natAbs<2 ^ 200:=by omega
 exact zH ((AQ (by omega)).mpr h3) (by decide)
def D5:W->W->M W:=iiW Db fun i j=>.int (i / j)
theorem uF {a b:Expr}{pos:Ct}{fa fb:Dl->M W}(ha:JE X E a fa)(hb:JE X E b fb):JE X E (.BinOp a .FloorDiv b pos) (m2 D5 fa fb):=
 jA rH (eP fun _ _ _=>Gu.mpr rfl) ha hb
noncomputable abbrev CMod:Int->Int->Prop:=fun _ j=>0<j
def Fj:W->W->M W:=iiW CMod fun i j=>.int (i % j)
theorem xu {a b:Expr}{pos:Ct}{fa fb:Dl->M W}(ha:JE X E a fa)(hb:JE X E b fb):JE X E (.BinOp a .Mod b pos) (m2 Fj fa fb):=
 jA wH (eP fun _ _ _=>Gu.mpr rfl) ha hb
instance (i j:Int):Decidable (De i j):=by unfold De;infer_instance
def Gb:W->W->M W:=iiW De fun i j=>.int (i ^ j.toNat)
theorem xo {a b:Expr}{pos:Ct}{fa fb:Dl->M W}(ha:JE X E a fa)(hb:JE X E b fb):JE X E (.BinOp a .Pow b pos) (m2 Gb fa fb):=
 jA wF (eP fun _ _ _=>Gu.mpr rfl) ha hb
noncomputable abbrev CShr:Int->Int->Prop:=fun _ j=>0<=j
def GU:W->W->M W:=iiW CShr fun i j=>.int (i / 2 ^ j.toNat)
theorem xn {a b:Expr}{pos:Ct}{fa fb:Dl->M W}(ha:JE X E a fa)(hb:JE X E b fb):JE X E (.BinOp a .RShift b pos) (m2 GU fa fb):=
 jA wD (eP fun _ _ _=>Gu.mpr rfl) ha hb
theorem ul {z:Str}{n:Int}(h0:0<=n)(h1:n<=10000)(h:z.length<=30000)(hz:z.length * n.toNat<=1000000):MulOk z n:=by
 refine⟨?_,fun a b=>?_,fun a b=>?_⟩
 ·rw[AI,decide_eq_false_iff_not,decide_eq_false_iff_not];omega
 ·have:(100000000000000:Int)<=(2 ^ 63 - 1) / n:=Int.le_ediv_of_mul_le (by omega) (by omega)
  omega
 ·unfold B1.Str.tooLong
  have:sizeLine=16777216:=by decide
  exact decide_eq_false (by omega)
instance (i j:Int):Decidable (CMul i j):=by unfold CMul;infer_instance
instance (i j:Int):Decidable (CMulB i j):=by unfold CMulB;infer_instance
def Dc (i j:Int):Prop:=CMul i j\/CMulB i j
instance (i j:Int):Decidable (Dc i j):=by unfold Dc;infer_instance
theorem FK:OpR X (CO .Mult) (rI Dc fun i j=>.int (i * j)):=opI fun _ _ _ _ _ _ _ hc q=>mul_int q (by rcases hc with h|h;exact h.ok;exact h.ok)
def Fm (x y:W):M W:=match x,y with
 |.int i,.int j=>gd (Dc i j) (pr (.int (i * j)))
 |.str z,.int n=>gd (0<=n/\n<=10000/\z.length<=30000/\z.length * n.toNat<=1000000) (pr (.str (Txt.mul z n)))
 |x,.int n=>bd (ES x) fun l=>gd (0<=n/\n<=1000000/\l.length * n.toNat<=sizeLine) (pr (.tl (List.replicate n.toNat l).flatten))
 |_,_=>no
theorem Rvs.rep {K:PySem.W.Frag}{o:Wo}{l:List W}{vs:List V}(h:Rvs K o l vs): ∀n:Nat,Rvs K o (List.replicate n l).flatten (List.replicate n vs).flatten
 |0=>Rvs.nil
 |n+1=>by rw[Au,Au,AB,AB];exact h.app (Rvs.rep h n)
theorem t7:OpM X E (fun x y H Q=>rI Dc (fun i j=>.int (i * j)) x y H Q\/(fun x y H Q=>(fun x y H Q=> ∃ (z:Str) (n:Int),x=.str z/\y=.int n/\MulOk z n/\Q (.str (Txt.mul z n)) H) x y H Q\/rRep x y H Q) x y H Q) Fm:=by
 intro o x y vx vy Q R rx ry h
 unfold Fm at h
 split at h
 ·obtain⟨hz,h⟩:=h.gd
  exact .inl ⟨_,_,Gu.mp rx,Gu.mp ry,hz,h.pr R (Gu.mpr rfl)⟩
 ·obtain⟨hz,h⟩:=h.gd
  exact .inr (.inl ⟨_,_,Gw.mp rx,Gu.mp ry,ul hz.1 hz.2.1 hz.2.2.1 hz.2.2.2,h.pr R (Gw.mpr rfl)⟩)
 ·obtain⟨l,a,vs,e1,s1,r1,h⟩:=dP R rx h
  obtain⟨hz,h⟩:=h.gd
  exact .inr (.inr ⟨a,_,vs,e1,Gu.mp ry,s1,by omega,by omega,by rw[r1.len];exact hz.2.2,fun q hq=>gK R hq (r1.rep _) h⟩)
 ·exact h.elim
theorem xt {a b:Expr}{pos:Ct}{fa fb:Dl->M W}(ha:JE X E a fa)(hb:JE X E b fb):JE X E (.BinOp a .Mult b pos) (m2 Fm fa fb):=
 jA (FK.or (FO.or wE)) t7 ha hb
def ltW:W->W->M W:=iiW CT fun i j=>.bl (decide (i<j))
def leW:W->W->M W:=iiW CT fun i j=>.bl (decide (i<=j))
def gtW:W->W->M W:=iiW CT fun i j=>.bl (decide (j<i))
def geW:W->W->M W:=iiW CT fun i j=>.bl (decide (j<=i))
theorem wu:OpM X E (rI CT fun i j=>.bl (decide (i<j))) ltW:=eP fun _ _ _=>Gr.mpr rfl
theorem ww:OpM X E (rI CT fun i j=>.bl (decide (i<=j))) leW:=eP fun _ _ _=>Gr.mpr rfl
theorem wz:OpM X E (rI CT fun i j=>.bl (decide (j<i))) gtW:=eP fun _ _ _=>Gr.mpr rfl
theorem wA:OpM X E (rI CT fun i j=>.bl (decide (j<=i))) geW:=eP fun _ _ _=>Gr.mpr rfl
theorem yi:OpR X (Cz .Lt) (rI CT fun i j=>.bl (decide (i<j))):=FC rG
theorem yj:OpR X (Cz .LtE) (rI CT fun i j=>.bl (decide (i<=j))):=FC yq
theorem yl:OpR X (Cz .Gt) (rI CT fun i j=>.bl (decide (j<i))):=FC kg
theorem ym:OpR X (Cz .GtE) (rI CT fun i j=>.bl (decide (j<=i))):=FC yr
noncomputable def vOf:W->Option V
 |.non=>some .non
 |.bl b=>some (.bl b)
 |.int i=>some (.int i)
 |.str x=>some (.str x)
 |_=>none
theorem kE {K:PySem.W.Frag}{o:Wo}{x:W}{v u:V}(e:vOf x=some u)(h:Rv K o x v):v=u:=by
 cases x with
 |non=>cases e;exact Gv.mp h
 |bl _=>cases e;exact Gr.mp h
 |int _=>cases e;exact Gu.mp h
 |str _=>cases e;exact Gw.mp h
 |_=>cases e
theorem lX {x:W}{u:V}(e:vOf x=some u):D7 u=true:=by
 cases x<;>first|(cases e;done)|(cases e;rfl)
def HB:List W->Option (List V)
 |[]=>some []
 |w::l=>match vOf w,HB l with
  |some v,some vs=>some (v::vs)
  |_,_=>none
theorem oP {K:PySem.W.Frag}{o:Wo}: ∀ {l:List W}{vs us:List V},HB l=some us->Rvs K o l vs->vs=us
 |[],vs,us,e,h=>by unfold Rvs at h;cases e;exact h
 |w::l,vs,us,e,h=>by
  unfold Rvs at h
  obtain⟨v,r,rfl,h1,h2⟩:=h
  unfold HB at e
  split at e
  ·rename_i v' vs' e1 e2
   cases e
   rw[kE e1 h1,oP e2 h2]
  ·cases e
theorem j5: ∀ {l:List W}{us:List V},HB l=some us->us.all D7=true
 |[],us,e=>by cases e;rfl
 |w::l,us,e=>by
  unfold HB at e
  split at e
  ·rename_i v' vs' e1 e2
   cases e
   rw[AA,lX e1,j5 e2];rfl
  ·cases e
end
end
section
noncomputable def FV {α β:Type}(f:α->Option β):List α->Option (List β)
 |[]=>some []
 |a::l=>match f a,FV f l with
  |some b,some r=>some (b::r)
  |_,_=>none
def DV (h:List Ob):Nat->W->Option C9
 |0,_=>none
 |_+1,.non=>some .none
 |_+1,.bl b=>some (.bool b)
 |_+1,.int i=>some (.int i)
 |_+1,.str x=>some (.str x)
 |n+1,.tup l=>(FV (DV h n) l).map .tuple
 |n+1,.tl l=>(FV (DV h n) l).map .list
 |n+1,.cl l=>(FV (DV h n) l).map .list
 |n+1,.loc k=>match h[k]? with
  |some (.lst l)=>(FV (DV h n) l).map .list
  |_=>none
 |_+1,_=>none
section
variable {K:PySem.W.Frag}{o:Wo}
theorem jq {n:Nat}(ih: ∀w v d,DV o.h n w=some d->Rv K o w v->Den K o.H v d/\d.depth<=n): ∀ {l:List W}{vs:List V}{ds:List C9},FV (DV o.h n) l=some ds->Rvs K o l vs->Di K o.H vs ds/\C9.depthAll ds<=n
 |[],vs,ds,e,h=>by unfold Rvs at h;cases e;rw[h];exact⟨.nil,by simp [C9.depthAll]⟩
 |w::l,vs,ds,e,h=>by
  unfold Rvs at h
  obtain⟨v,r,rfl,h1,h2⟩:=h
  unfold FV at e
  split at e
  ·rename_i d ds' e1 e2
   cases e
   obtain⟨a1,a2⟩:=ih w v d e1 h1
   obtain⟨b1,b2⟩:=jq ih e2 h2
   exact⟨.cons a1 b1,by rw[C9.depthAll];omega⟩
  ·cases e
theorem iD (R:Rel K o): ∀ (n:Nat) (w:W) (v:V) (d:C9),DV o.h n w=some d->Rv K o w v->Den K o.H v d/\d.depth<=n
 |0,_,_,_,e,_=>by cases e
 |n+1,w,v,d,e,h=>by
  have ih:=iD R n
  have seq: ∀ {l:List W}{a:B5}{vs:List V}{ds:List C9},FV (DV o.h n) l=some ds->SqL K o.H a vs->Rvs K o l vs->Den K o.H (.ref a) (.list ds)/\(C9.list ds).depth<=n+1:=fun{l a vs ds} e s r=>by
   obtain⟨b1,b2⟩:=jq ih e r
   refine⟨.lst s b1,?_⟩
   rw[C9.depth];omega
  cases w with
  |non=>cases e;rw[Gv.mp h];exact⟨.non,by simp [C9.depth]⟩
  |bl b=>cases e;rw[Gr.mp h];exact⟨.bl b,by simp [C9.depth]⟩
  |int b=>cases e;rw[Gu.mp h];exact⟨.int b,by simp [C9.depth]⟩
  |str b=>cases e;rw[Gw.mp h];exact⟨.str b,by simp [C9.depth]⟩
  |ty b=>cases e
  |exc b=>cases e
  |cls b=>cases e
  |dv a b=>cases e
  |dn a b c=>cases e
  |kt a=>cases e
  |tup l=>
   unfold DV at e
   obtain⟨ds,e1,rfl⟩:=zM.mp e
   unfold Rv at h
   obtain⟨a,vs,rfl,s,r⟩:=h
   obtain⟨b1,b2⟩:=jq ih e1 r
   refine⟨.tup s b1,?_⟩
   rw[C9.depth];omega
  |tl l=>
   unfold DV at e
   obtain⟨ds,e1,rfl⟩:=zM.mp e
   unfold Rv at h
   obtain⟨a,vs,rfl,s,_,r⟩:=h
   exact seq e1 (.of s) r
  |cl l=>
   unfold DV at e
   obtain⟨ds,e1,rfl⟩:=zM.mp e
   unfold Rv at h
   obtain⟨a,vs,rfl,s,r⟩:=h
   refine seq e1 ?_ r
   rcases s with⟨s,_⟩|s
   ·exact .inl s
   ·exact .inr s
  |loc k=>
   unfold DV at e
   split at e
   ·rename_i l hk
    obtain⟨ds,e1,rfl⟩:=zM.mp e
    unfold Rv at h
    obtain⟨vs,h1,h2⟩:=R.ob k _ hk
    rw[h.2]
    exact seq e1 (.of h1) h2
   ·cases e
end
def eqB (x y:W)(h:List Ob):Option Bool:=match vOf x,vOf y with
 |some a,some b=>if GQ a b=true then some (decide (a=b)) else match DV h 50 x,DV h 50 y with
  |some d,some e=>if d.canLay0=true/\e.canLay0=true then some (C9.eqv d e) else none
  |_,_=>none
 |_,_=>match DV h 50 x,DV h 50 y with
  |some d,some e=>if d.canLay0=true/\e.canLay0=true then some (C9.eqv d e) else none
  |_,_=>none
def eqW (x y:W):M W:=fun h=>match eqB x y h with
 |some b=>.ok (.bl b) h
 |none=>.bad
def neW (x y:W):M W:=fun h=>match eqB x y h with
 |some b=>.ok (.bl (!b)) h
 |none=>.bad
section
variable {X:Cx}{E:XK}
theorem sF {o:Wo}{x y:W}{vx vy:V}{b:Bool}(hu:X.A.units+64<B9)(R:Rel X.K o)(rx:Rv X.K o x vx)(ry:Rv X.K o y vy)(e:eqB x y o.h=some b):
  (GQ vx vy=true/\b=decide (vx=vy))\/ ∃d e,Den X.K o.H vx d/\Den X.K o.H vy e/\d.canLay0=true/\e.canLay0=true/\X.A.units+min d.depth e.depth<B9/\b=C9.eqv d e:=by
 have deep:(match DV o.h 50 x,DV o.h 50 y with
  |some d,some e=>if d.canLay0=true/\e.canLay0=true then some (C9.eqv d e) else none
  |_,_=>none)=some b-> ∃d e,Den X.K o.H vx d/\Den X.K o.H vy e/\d.canLay0=true/\e.canLay0=true/\X.A.units+min d.depth e.depth<B9/\b=C9.eqv d e:=fun q=>by
  split at q
  ·rename_i d e' e1 e2
   split at q
   ·rename_i hc
    obtain⟨a1,a2⟩:=iD R _ _ _ _ e1 rx
    obtain⟨b1,b2⟩:=iD R _ _ _ _ e2 ry
    exact⟨d,e',a1,b1,hc.1,hc.2,by omega,(Option.some.inj q).symm⟩
   ·cases q
  ·cases q
 unfold eqB at e
 split at e
 ·rename_i a c e1 e2
  split at e
  ·rename_i hs
   rw[kE e1 rx,kE e2 ry]
   exact .inl ⟨hs,(Option.some.inj e).symm⟩
  ·exact .inr (deep e)
 ·exact .inr (deep e)
theorem wB (hu:X.A.units+64<B9):OpM X E (fun x y H Q=>rEq x y H Q\/Gk X.K X.A false x y H Q) eqW:=by
 intro o x y vx vy Q R rx ry h
 unfold eqW at h
 cases e:eqB x y o.h with
 |none=>rw[e] at h;exact h.elim
 |some b=>
  rw[e] at h
  have q:Q (.bl b) o.H:=Ps.pr (c:=cg X E) (r:=Rv X.K) (a:=W.bl b) h R (Gr.mpr rfl)
  rcases sF hu R rx ry e with⟨s,rfl⟩|⟨d,e',a1,a2,a3,a4,a5,rfl⟩
  ·exact .inl ⟨s,q⟩
  ·exact .inr ⟨d,e',a1,a2,a3,a4,a5,by rw[if_neg zC];exact q⟩
theorem wt (hu:X.A.units+64<B9):OpM X E (fun x y H Q=>rNe x y H Q\/Gk X.K X.A true x y H Q) neW:=by
 intro o x y vx vy Q R rx ry h
 unfold neW at h
 cases e:eqB x y o.h with
 |none=>rw[e] at h;exact h.elim
 |some b=>
  rw[e] at h
  have q:Q (.bl (!b)) o.H:=Ps.pr (c:=cg X E) (r:=Rv X.K) (a:=W.bl (!b)) h R (Gr.mpr rfl)
  rcases sF hu R rx ry e with⟨s,rfl⟩|⟨d,e',a1,a2,a3,a4,a5,rfl⟩
  ·exact .inl ⟨s,q⟩
  ·exact .inr ⟨d,e',a1,a2,a3,a4,a5,by rw[if_pos rfl];exact q⟩
theorem yn:OpR X (Cz .Eq) (fun x y H Q=>rEq x y H Q\/Gk X.K X.A false x y H Q):=FH.or wJ
theorem yh:OpR X (Cz .NotEq) (fun x y H Q=>rNe x y H Q\/Gk X.K X.A true x y H Q):=FP.or wG
def EH:W->Option Key
 |.int i=>some (.inl i)
 |.str x=>some (.inr x)
 |_=>none
theorem mR {K:PySem.W.Frag}{o:Wo}{x:W}{v:V}{k:Key}(e:EH x=some k)(h:Rv K o x v):v=kV k:=by
 cases x with
 |int _=>cases e;exact Gu.mp h
 |str _=>cases e;exact Gw.mp h
 |_=>cases e
def DW (w:W)(h:List Ob):Option (List Key×List W):=match w with
 |.dv ks ws=>some (ks,ws)
 |.loc k=>match h[k]? with
  |some (.dic ks ws)=>some (ks,ws)
  |_=>none
 |_=>none
theorem nt {o:Wo}{w:W}{v:V}{ks:List Key}{ws:List W}(R:Rel X.K o)(e:DW w o.h=some (ks,ws))(h:Rv X.K o w v): ∃a kvs,v=.ref a/\Rd o.H a (.dK kvs)/\kvs.map (·.1)=ks/\Rvs X.K o ws (kvs.map (·.2)):=by
 cases w with
 |dv a b=>
  cases e
  unfold Rv at h
  obtain⟨a,kvs,e,h1,_,h2,h3⟩:=h
  exact⟨a,kvs,e,h1,h2,h3⟩
 |loc k=>
  unfold DW at e
  dsimp only at e
  split at e
  ·rename_i a b hk
   cases e
   unfold Rv at h
   obtain⟨kvs,h1,h2,h3⟩:=R.ob k _ hk
   exact⟨_,kvs,h.2,.inl h1,h2,h3⟩
  ·cases e
 |_=>cases e
noncomputable def atK {κ:Type} [DecidableEq κ]:List κ->List W->κ->Option W
 |k::ks,w::ws,x=>if k=x then some w else atK ks ws x
 |_,_,_=>none
theorem lP {κ:Type} [DecidableEq κ] {K:PySem.W.Frag}{o:Wo}{x:κ}: ∀ {ks:List κ}{ws:List W}{kvs:List (κ×V)},kvs.map (·.1)=ks->Rvs K o ws (kvs.map (·.2))->match atK ks ws x with
  |some w=> ∃v,Hy kvs x=some v/\Rv K o w v
  |none=>Hy kvs x=none
 |[],_,[],_,_=>rfl
 |_,_,(k,v)::r,e,h=>by
  subst e
  cases ‹List W› with
  |nil=>unfold Rvs at h;cases h
  |cons w ws=>
   unfold Rvs at h
   obtain⟨v',r',e',h1,h2⟩:=h
   cases e'
   have ih:=lP (x:=x) (ks:=r.map (·.1)) (ws:=ws) (kvs:=r) rfl h2
   show match (if k=x then some w else atK (r.map (·.1)) ws x) with
    |some w=> ∃v',Hy ((k,v)::r) x=some v'/\Rv K o w v'
    |none=>Hy ((k,v)::r) x=none
   by_cases z:k=x
   ·rw[if_pos z]
    exact⟨v,by unfold Hy;rw[List.find?_cons_of_pos (by simpa using z)];rfl,h1⟩
   ·rw[if_neg z]
    have ev:Hy ((k,v)::r) x=Hy r x:=by unfold Hy;rw[List.find?_cons_of_neg (by simpa using z)]
    rw[ev]
    exact ih
def inB (x y:W)(h:List Ob):Option Bool:=match y with
 |.str b=>match x with
  |.str a=>some (!(B1.Str.occurrences b a 0 b.length 1).isEmpty)
  |_=>none
 |.tup l=>match vOf x,HB l with
  |some v,some vs=>some (inV v vs)
  |_,_=>none
 |y=>match DW y h with
  |some (ks,ws)=>match EH x with
   |some k=>some (atK ks ws k).isSome
   |none=>none
  |none=>match ET y h with
   |.ok l _=>match vOf x,HB l with
    |some v,some vs=>some (inV v vs)
    |_,_=>none
   |_=>none
def inW (x y:W):M W:=fun h=>match inB x y h with
 |some b=>.ok (.bl b) h
 |none=>.bad
def b7 (x y:W):M W:=fun h=>match inB x y h with
 |some b=>.ok (.bl (!b)) h
 |none=>.bad
theorem mJ {o:Wo}{w:W}{v:V}{l:List W}{h':List Ob}(R:Rel X.K o)(hr:Rv X.K o w v)(e:ET w o.h=.ok l h'):h'=o.h/\ ∃a vs,v=.ref a/\SqL X.K o.H a vs/\Rvs X.K o l vs:=by
 have hh:h'=o.h:=by
  cases w with
  |tl l'=>cases e;rfl
  |cl l'=>cases e;rfl
  |loc j=>
   unfold ET at e
   dsimp only at e
   split at e
   ·cases e;rfl
   ·cases e
  |_=>cases e
 subst hh
 have h:Ps (cg X (fun _ _ _=>False)) (fun (_:Wo) (a:List W) (b:List W)=>a=b) o (bd (ET w) (fun l=>pr l) o.h) (fun b _=>b=l):=by
  unfold bd
  rw[e]
  intro p b _ _ _ q
  exact q.symm
 obtain⟨m,a,vs,e1,e2,e3,h⟩:=eG R hr h
 have:m=l:=h.pr R rfl
 subst this
 exact⟨rfl,a,vs,e1,e2,e3⟩
def rInD:R2:=fun x y H Q=> ∃a ov,y=.ref a/\Dh H a x ov/\Q (.bl ov.isSome) H
def oX:R2:=fun x y H Q=> ∃a ov,y=.ref a/\Dh H a x ov/\Q (.bl (!ov.isSome)) H
theorem wI (hu:X.A.units+1<B9):OpR X (Cz .In) rInD:=by
 intro pins s σ H x y v u Q I rx ry h
 obtain⟨a,ov,rfl,g,q⟩:=h
 cases ry
 exact zq hu I g rx fun s3 I3=>⟨.bl ov.isSome,H,I3,rfl,q⟩
theorem p7 (hu:X.A.units+1<B9):OpR X (Cz .NotIn) oX:=by
 intro pins s σ H x y v u Q I rx ry h
 obtain⟨a,ov,rfl,g,q⟩:=h
 cases ry
 exact u2 hu I g rx fun s3 I3=>⟨.bl (!ov.isSome),H,I3,rfl,q⟩
theorem sw {o:Wo}{x y:W}{vx vy:V}{b:Bool}(R:Rel X.K o)(rx:Rv X.K o x vx)(ry:Rv X.K o y vy)(e:inB x y o.h=some b):
  (∃i j,vx=.str i/\vy=.str j/\b=(!(B1.Str.occurrences j i 0 j.length 1).isEmpty))\/(∃p xs,vy=.ref p/\(SqL X.K o.H p xs\/SqT X.K o.H p xs)/\D7 vx=true/\xs.all D7=true/\b=inV vx xs)\/ ∃a ov,vy=.ref a/\Dh o.H a vx ov/\b=ov.isSome:=by
 have fl: ∀ {l:List W}{vs:List V},Rvs X.K o l vs->(match vOf x,HB l with
    |some v,some vs=>some (inV v vs)
    |_,_=>none)=some b->D7 vx=true/\vs.all D7=true/\b=inV vx vs:=fun{l vs} r q=>by
  split at q
  ·rename_i v us e1 e2
   rw[kE e1 rx,oP e2 r]
   exact⟨lX e1,j5 e2,(Option.some.inj q).symm⟩
  ·cases q
 unfold inB at e
 split at e
 ·split at e
  ·exact .inl ⟨_,_,Gw.mp rx,Gw.mp ry,(Option.some.inj e).symm⟩
  ·cases e
 ·unfold Rv at ry
  obtain⟨a,vs,rfl,s,r⟩:=ry
  obtain⟨f1,f2,f3⟩:=fl r e
  exact .inr (.inl ⟨a,vs,rfl,.inr s,f1,f2,f3⟩)
 ·split at e
  ·rename_i ks ws hd
   split at e
   ·rename_i k hk
    obtain⟨a,kvs,rfl,h1,h2,h3⟩:=nt R hd ry
    rw[mR hk rx]
    refine .inr (.inr ⟨a,Hy kvs k,rfl,.inl ⟨kvs,k,h1,rfl,rfl⟩,?_⟩)
    rw[<-Option.some.inj e]
    have:=lP (x:=k) h2 h3
    cases q:atK ks ws k with
    |none=>rw[q] at this;rw[show Hy kvs k=none from this];rfl
    |some w=>rw[q] at this;obtain⟨v,hv,_⟩:=this;rw[hv];rfl
   ·cases e
  ·split at e
   ·rename_i l h' hl
    obtain⟨rfl,a,vs,rfl,s,r⟩:=mJ R ry hl
    obtain⟨f1,f2,f3⟩:=fl r e
    exact .inr (.inl ⟨a,vs,rfl,.inl s,f1,f2,f3⟩)
   ·cases e
noncomputable abbrev rInA (X:Cx):R2:=fun x y H Q=>(fun x y H Q=> ∃i j,x=.str i/\y=.str j/\Q (.bl (!(B1.Str.occurrences j i 0 j.length 1).isEmpty)) H) x y H Q\/(fun x y H Q=>rIn X.K false x y H Q\/rInD x y H Q) x y H Q
noncomputable abbrev oY (X:Cx):R2:=fun x y H Q=>(fun x y H Q=> ∃i j,x=.str i/\y=.str j/\Q (.bl (!(!(B1.Str.occurrences j i 0 j.length 1).isEmpty))) H) x y H Q\/(fun x y H Q=>rIn X.K true x y H Q\/oX x y H Q) x y H Q
theorem yk (hu:X.A.units+1<B9):OpR X (Cz .In) (rInA X):=FJ.or (FI.or (wI hu))
theorem rF (hu:X.A.units+1<B9):OpR X (Cz .NotIn) (oY X):=FR.or (FQ.or (p7 hu))
theorem wy:OpM X E (rInA X) inW:=by
 intro o x y vx vy Q R rx ry h
 unfold inW at h
 cases e:inB x y o.h with
 |none=>rw[e] at h;exact h.elim
 |some b=>
  rw[e] at h
  have q:Q (.bl b) o.H:=Ps.pr (c:=cg X E) (r:=Rv X.K) (a:=W.bl b) h R (Gr.mpr rfl)
  rcases sw R rx ry e with⟨i,j,e1,e2,rfl⟩|⟨p,xs,e1,e2,e3,e4,rfl⟩|⟨a,ov,e1,e2,rfl⟩
  ·exact .inl ⟨i,j,e1,e2,q⟩
  ·exact .inr (.inl ⟨p,xs,e1,e2,e3,e4,by rw[if_neg zC];exact q⟩)
  ·exact .inr (.inr ⟨a,ov,e1,e2,q⟩)
theorem p6:OpM X E (oY X) b7:=by
 intro o x y vx vy Q R rx ry h
 unfold b7 at h
 cases e:inB x y o.h with
 |none=>rw[e] at h;exact h.elim
 |some b=>
  rw[e] at h
  have q:Q (.bl (!b)) o.H:=Ps.pr (c:=cg X E) (r:=Rv X.K) (a:=W.bl (!b)) h R (Gr.mpr rfl)
  rcases sw R rx ry e with⟨i,j,e1,e2,rfl⟩|⟨p,xs,e1,e2,e3,e4,rfl⟩|⟨a,ov,e1,e2,rfl⟩
  ·exact .inl ⟨i,j,e1,e2,q⟩
  ·exact .inr (.inl ⟨p,xs,e1,e2,e3,e4,by rw[if_pos rfl];exact q⟩)
  ·exact .inr (.inr ⟨a,ov,e1,e2,q⟩)
theorem Rvs.atI {K:PySem.W.Frag}{o:Wo}{l:List W}{vs:List V}{i:Int}{w:W}(h:Rvs K o l vs)(e:L2.atI l i=some w): ∃v,L2.atI vs i=some v/\Rv K o w v:=by
 unfold L2.atI at e ⊢
 rw[h.len]
 cases q:ixN l.length i with
 |none=>rw[q] at e;cases e
 |some j=>rw[q] at e;exact h.get e
def ixO (x y:W)(h:List Ob):Option W:=match DW x h with
 |some (ks,ws)=>match EH y with
  |some k=>atK ks ws k
  |none=>none
 |none=>match y with
  |.int i=>match x with
   |.str z=>if z.length<=sizeLine then (atI z.cps.toList i).map fun c=>.str ⟨#[c]⟩ else none
   |.tup l=>atI l i
   |x=>match ET x h with
    |.ok l _=>atI l i
    |_=>none
  |_=>none
def ixW (x y:W):M W:=fun h=>match ixO x y h with
 |some w=>.ok w h
 |none=>.bad
def rIxD:R2:=fun x y H Q=> ∃a v,x=.ref a/\Dh H a y (some v)/\Q v H
theorem uP (hu:X.A.units+1<B9):IxR X rIxD:=by
 intro value slice pins s σ H x y v u Q I rx ry h hs
 obtain⟨a,z,rfl,g,q⟩:=h
 cases rx
 exact tail_any (nr I g) PySem.F.slot_dict_getitem.lookup (qC hu I g ry fun w' s3 I3 rw'=>⟨z,H,I3,rw',q⟩) hs
theorem wx:OpM X E (fun x y H Q=>rIx X.K x y H Q\/rIxD x y H Q) ixW:=by
 intro o x y vx vy Q R rx ry h
 unfold ixW at h
 cases e:ixO x y o.h with
 |none=>rw[e] at h;exact h.elim
 |some w=>
  rw[e] at h
  have q: ∀ {v:V},Rv X.K o w v->Q v o.H:=fun{v} hv=>Ps.pr (c:=cg X E) (r:=Rv X.K) (a:=w) h R hv
  unfold ixO at e
  split at e
  ·rename_i ks ws hd
   split at e
   ·rename_i k hk
    obtain⟨a,kvs,rfl,h1,h2,h3⟩:=nt R hd rx
    have:=lP (x:=k) h2 h3
    rw[e] at this
    obtain⟨v,hv,rv⟩:=this
    rw[mR hk ry]
    exact .inr ⟨a,v,rfl,.inl ⟨kvs,k,h1,rfl,hv.symm⟩,q rv⟩
   ·cases e
  ·split at e
   ·split at e
    ·split at e
     ·rename_i hz
      obtain⟨c,hc,rfl⟩:=zM.mp e
      exact .inl (.inr (.inr ⟨_,_,c,Gw.mp rx,Gu.mp ry,hz,hc,q (Gw.mpr rfl)⟩))
     ·cases e
    ·unfold Rv at rx
     obtain⟨a,vs,rfl,s,r⟩:=rx
     obtain⟨v,hv,rv⟩:=r.atI e
     exact .inl (.inr (.inl ⟨a,vs,_,v,rfl,Gu.mp ry,s,hv,q rv⟩))
    ·split at e
     ·rename_i l h' hl
      obtain⟨rfl,a,vs,rfl,s,r⟩:=mJ R rx hl
      obtain⟨v,hv,rv⟩:=r.atI e
      exact .inl (.inl ⟨a,vs,_,v,rfl,Gu.mp ry,s,hv,q rv⟩)
     ·cases e
   ·cases e
theorem yG {a b:Expr}{pos:Ct}{fa fb:Dl->M W}(hu:X.A.units+1<B9)(ha:JE X E a fa)(hb:JE X E b fb)(hs:lT b):JE X E (.Subscript a b pos) (m2 ixW fa fb):=
 (o5 (EC.or (uP hu)) ha.h hb.h hs).imp fun _ _ _ h=>tj wx h
def DS {α:Type}(xs:List α)(lo hi:Option Int):List α:=(xs.drop (HT.sIx xs.length 0 lo)).take (HT.sIx xs.length xs.length hi - HT.sIx xs.length 0 lo)
theorem Rvs.cut {K:PySem.W.Frag}{o:Wo}{l:List W}{vs:List V}(h:Rvs K o l vs)(lo hi:Option Int):Rvs K o (DS l lo hi) (DR vs lo hi):=by
 unfold DS DR
 rw[h.len]
 exact (h.drop _).take _
def aA:Dl->M (Option Int):=fun _=>pr none
def E8 (f:Dl->M W):Dl->M (Option Int):=fun ρ=>bd (f ρ) fun w=>match w with
 |.int i=>pr (some i)
 |_=>no
noncomputable abbrev tP (c:Cg)(f:Dl->M (Option Int)):TO:=tG c (fun _ a b=>a=b) f
structure JO (X:Cx)(E:XK)(e:Option Expr)(f:Dl->M (Option Int)):Prop where
 h:PO X e (tP (cg X E) f)
theorem PO.imp {e:Option Expr}{t:TO}{f:Dl->M (Option Int)}(h:PO X e t)(k:∀σ H Q,tP (cg X E) f σ H Q->t σ H Q):JO X E e f:=⟨fun pins s σ H Q I q=>h pins s σ H Q I (k σ H Q q)⟩
theorem uv:JO X E none aA:=Ga.imp fun σ H Q h=>by
 obtain⟨o,ρ,rfl,R,S,h⟩:=h
 exact h.pr R rfl
theorem uu {e:Expr}{f:Dl->M W}(he:JE X E e f):JO X E (some e) (E8 f):=(kW he.h).imp fun σ H Q h=>by
 obtain⟨o,ρ,rfl,R,S,h⟩:=h
 refine⟨o,ρ,rfl,R,S,Ps.bd h fun p x vx e1 R1 r1 h1=>?_⟩
 cases x with
 |int i=>exact⟨i,Gu.mp r1,h1.pr R1 rfl⟩
 |_=>exact h1.elim
def slW (x:W)(lo hi:Option Int):M W:=match x with
 |.str z=>gd (z.length<=sizeLine) (pr (.str (StrLaws.sliceText z lo hi)))
 |.tup l=>gd (¬(HT.sIx l.length 0 lo=0/\HT.sIx l.length l.length hi=l.length)) (pr (.tup (DS l lo hi)))
 |x=>bd (ET x) fun l=>pr (.tl (DS l lo hi))
def m3 (f:W->Option Int->Option Int->M W)(fa:Dl->M W)(fl fh:Dl->M (Option Int)):Dl->M W:=fun ρ=>bd (fa ρ) fun x=>bd (fl ρ) fun a=>bd (fh ρ) fun b=>f x a b
theorem yD {e:Expr}{lo hi:Option Expr}{p2 pos:Ct}{fa:Dl->M W}{fl fh:Dl->M (Option Int)}(he:JE X E e fa)(hl:JO X E lo fl)(hh:JO X E hi fh):
  JE X E (.Subscript e (.Slice lo hi none p2) pos) (m3 slW fa fl fh):=(mw (GX.or (GY.or tz)) he.h hl.h hh.h).imp fun σ H Q h=>by
 obtain⟨o,ρ,rfl,R,S,h⟩:=h
 refine⟨o,ρ,rfl,R,S,Ps.bd h fun p x vx e1 R1 r1 h1=>⟨p,ρ,rfl,R1,S.mono R e1,Ps.bd h1 fun q a va e2 R2 r2 h2=>⟨q,ρ,rfl,R2,(S.mono R e1).mono R1 e2,Ps.bd h2 fun w b vb e3 R3 r3 h3=>?_⟩⟩⟩
 subst r2 r3
 have rx:=(r1.mono R1 e2).mono R2 e3
 unfold slW at h3
 split at h3
 ·obtain⟨hz,h3⟩:=h3.gd
  exact .inl ⟨_,Gw.mp rx,hz,h3.pr R3 (Gw.mpr rfl)⟩
 ·obtain⟨hz,h3⟩:=h3.gd
  unfold Rv at rx
  obtain⟨a',vs,rfl,s,r⟩:=rx
  refine .inr (.inl ⟨a',vs,rfl,s,by rw[r.len];exact hz,fun q' hq=>kT R3 hq (r.cut _ _) h3⟩)
 ·obtain⟨l,a',vs,rfl,s,r,h3⟩:=eG R3 rx h3
  exact .inr (.inr ⟨a',vs,rfl,s,fun q' hq=>gK R3 hq (r.cut _ _) h3⟩)
def EW (f:List W->M W)(l:Dl->M (List W)):Dl->M W:=fun ρ=>bd (l ρ) f
def Df (X:Cx)(E:XK)(r:List V->Hp->VK->Prop)(f:List W->M W):Prop:= ∀ (o:Wo) (ws:List W) (vs:List V) (Q:VK),Rel X.K o->Rvs X.K o ws vs->Ps (cg X E) (Rv X.K) o (f ws o.h) Q->r vs o.H Q
variable {x:Str}{p pos:Ct}{e:Expr}{es:List Expr}{l:Dl->M (List W)}{f:List W->M W}{r:List V->Hp->VK->Prop}{id T:String}
theorem vg (hf:Df X E r f){σ:St}{H:Hp}{Q:VK}(h:tM (cg X E) (EW f l) σ H Q):tCB r (tA (cg X E) l) σ H Q:=by
 obtain⟨o,ρ,rfl,R,S,h⟩:=h
 exact⟨o,ρ,rfl,R,S,Ps.bd h fun p x vx e1 R1 r1 h1=>hf p x vx Q R1 r1 h1⟩
theorem fZ (hc:CallR X (.builtin id) r)(hf:Df X E r f)(hg:Gl X x)(hm:X.mg x=none)(hv:Ck x=some (.builtin id))(ha:JA X E (e::es) l)(hn:x≠ "__name__":=by decide)(hdb:(x==("__debug__":Str))=false:=by decide)
  (he:Cv (e::es) X.env=(false,Cp e X.env)::Cv es X.env:=by rfl)(hpl:(Cu pos (Cv es X.env)).any (·.1)=false:=by rfl):JE X E (.Call (.Name x p) (e::es) [] pos) (EW f l):=
 (cP hc hg hm hv ha.h hn hdb he hpl).imp fun _ _ _ h=>vg hf h
theorem iu (hc:CallR X (.type T) r)(hf:Df X E r f)(hg:Gl X x)(hm:X.mg x=none)(hv:Ck x=some (.type T))(ha:JA X E (e::es) l)(hn:x≠ "__name__":=by decide)(hdb:(x==("__debug__":Str))=false:=by decide)
  (he:Cv (e::es) X.env=(false,Cp e X.env)::Cv es X.env:=by rfl)(hpl:(Cu pos (Cv es X.env)).any (·.1)=false:=by rfl):JE X E (.Call (.Name x p) (e::es) [] pos) (EW f l):=
 (kf hc hg hm hv ha.h hn hdb he hpl).imp fun _ _ _ h=>vg hf h
variable {CX:CXT}{k:Nat}{fA:B5}{fd:CW}{ps:List Str}
end
end
section
inductive Fl where
 |nx (r:Dl)|bk (r:Dl)|ct (r:Dl)|rt (w:W)
inductive FlV where
 |nx (s:St)|bk (s:St)|ct (s:St)|rt (v:V)
def RFl (K:PySem.W.Frag)(o:Wo):Fl->FlV->Prop
 |.nx r,f=> ∃s,f=.nx s/\Re K o r s
 |.bk r,f=> ∃s,f=.bk s/\Re K o r s
 |.ct r,f=> ∃s,f=.ct s/\Re K o r s
 |.rt w,f=> ∃v,f=.rt v/\Rv K o w v
def DQ (D:Dj):FlV->Hp->Prop
 |.nx s,H=>D.nx s H
 |.bk s,H=>D.bk s H
 |.ct s,H=>D.ct s H
 |.rt v,H=>D.rt v H
def tS (c:Cg)(g:Dl->M Fl):TS:=fun D σ H=>tG c (RFl c.K) g σ H (DQ D)
structure JS (X:Cx)(E:XK)(e:Cw)(f:Dl->M Fl):Prop where
 h:PS X e (tS (cg X E) f)
structure JSs (X:Cx)(E:XK)(e:List Cw)(f:Dl->M Fl):Prop where
 h:PSs X e (tS (cg X E) f)
theorem PSs.imp {X:Cx}{E:XK}{e:List Cw}{t:TS}{f:Dl->M Fl}(h:PSs X e t)(k:∀D σ H,tS (cg X E) f D σ H->t D σ H):JSs X E e f:=⟨fun pins s σ H D I q=>h pins s σ H D I (k D σ H q)⟩
theorem PS.imp {X:Cx}{E:XK}{e:Cw}{t:TS}{f:Dl->M Fl}(h:PS X e t)(k:∀D σ H,tS (cg X E) f D σ H->t D σ H):JS X E e f:=⟨fun pins s σ H D I q=>h pins s σ H D I (k D σ H q)⟩
theorem aa {α β γ:Type}(a:M α)(b:α->M β)(d:β->M γ):bd (bd a b) d=bd a fun x=>bd (b x) d:=by
 funext h
 unfold bd
 cases a h<;>rfl
section
variable {X:Cx}{E:XK}{pos:Ct}
def GC:Dl->M Fl:=fun ρ=>pr (.nx ρ)
def GF (f g:Dl->M Fl):Dl->M Fl:=fun ρ=>bd (f ρ) fun x=>match x with
 |.nx r=>g r
 |x=>pr x
theorem ur:JSs X E [] GC:=Gd.imp fun D σ H h=>by
 obtain⟨o,ρ,rfl,R,S,h⟩:=h
 exact h.pr R ⟨σ,rfl,S⟩
theorem vM {f g:Dl->M Fl}{D:Dj}{σ:St}{H:Hp}(h:tS (cg X E) (GF f g) D σ H):tSeq (tS (cg X E) f) (tS (cg X E) g) D σ H:=by
 obtain⟨o,ρ,rfl,R,S,h⟩:=h
 refine⟨o,ρ,rfl,R,S,Ps.bd h fun p x b e1 R1 r1 h1=>?_⟩
 cases x with
 |nx r=>obtain⟨s,rfl,re⟩:=r1;exact⟨p,r,rfl,R1,re,h1⟩
 |bk r=>have q:=h1.pr R1 r1;obtain⟨s,rfl,re⟩:=r1;exact q
 |ct r=>have q:=h1.pr R1 r1;obtain⟨s,rfl,re⟩:=r1;exact q
 |rt r=>have q:=h1.pr R1 r1;obtain⟨s,rfl,re⟩:=r1;exact q
theorem rX {st:Cw}{Gm:List Cw}{f g:Dl->M Fl}(h1:JS X E st f)(h2:JSs X E Gm g):JSs X E (st::Gm) (GF f g):=(au h1.h h2.h).imp fun D σ H h=>vM h
theorem uq {st:Cw}{f:Dl->M Fl}(h1:JS X E st f):JSs X E [st] f:=⟨aI h1.h⟩
variable {e:Expr}{f:Dl->M W}
def GG (i:Nat)(f:Dl->M W):Dl->M Fl:=fun ρ=>bd (f ρ) fun w=>pr (.nx (ρ.set i (some w)))
theorem wW {i:Nat}{x:Str}{pos':Ct}(hN:X.N.Nodup)(hi:X.N[i]?=some x)(hx:Loc X.env.scope x)(he:JE X E e f)(hs:swapsWith e (some (.Name x pos')) pos.line X.env=pure false:=by rfl)(hf:X.fn x=true\/X.env.scope.names.lookup x=some .local :=by first|exact .inl rfl|exact .inr rfl|assumption):
  JS X E (.Assign [.Name x pos'] e pos) (GG i f):=(c7 hN hi hx he.h hs hf).imp fun D σ H h=>by
 obtain⟨o,ρ,rfl,R,S,h⟩:=h
 exact⟨o,ρ,rfl,R,S,Ps.bd h fun p x b e1 R1 r1 h1=>Ps.pr (b:=FlV.nx (σ.set i (some b))) h1 R1 ⟨_,rfl,(S.mono R e1).set r1 i⟩⟩
def GD (f:Dl->M W):Dl->M Fl:=fun ρ=>bd (f ρ) fun w=>pr (.rt w)
theorem wX (he:JE X E e f):JS X E (.Return (some e) pos) (GD f):=(b5 he.h).imp fun D σ H h=>by
 obtain⟨o,ρ,rfl,R,S,h⟩:=h
 exact⟨o,ρ,rfl,R,S,Ps.bd h fun p x b e1 R1 r1 h1=>Ps.pr (b:=FlV.rt b) h1 R1 ⟨_,rfl,r1⟩⟩
def sEx (f:Dl->M W):Dl->M Fl:=fun ρ=>bd (f ρ) fun _=>pr (.nx ρ)
theorem ut (he:JE X E e f)(hs:swapsWith e none pos.line X.env=pure false:=by rfl):JS X E (.Expr e pos) (sEx f):=(kU he.h hs).imp fun D σ H h=>by
 obtain⟨o,ρ,rfl,R,S,h⟩:=h
 exact⟨o,ρ,rfl,R,S,Ps.bd h fun p x b e1 R1 r1 h1=>Ps.pr (b:=FlV.nx σ) h1 R1 ⟨_,rfl,S.mono R e1⟩⟩
def sIf (t:Dl->M Bool)(f g:Dl->M Fl):Dl->M Fl:=fun ρ=>bd (t ρ) fun b=>if b=true then f ρ else g ρ
theorem yy {c:Expr}{a b:List Cw}{t:Dl->M Bool}{f g:Dl->M Fl}(hc:JT X E c t)(ha:JSs X E a f)(hb:JSs X E b g):JS X E (.If c a b pos) (sIf t f g):=(fu hc.h ha.h hb.h).imp fun D σ H h=>by
 obtain⟨o,ρ,rfl,R,S,h⟩:=h
 refine⟨o,ρ,rfl,R,S,Ps.bd h fun p x vx e1 R1 r1 h1=>?_⟩
 subst r1
 cases x with
 |true=>exact Ez ⟨p,ρ,rfl,R1,S.mono R e1,h1⟩
 |false=>exact Ey ⟨p,ρ,rfl,R1,S.mono R e1,h1⟩
def sPass:Dl->M Fl:=fun ρ=>pr (.nx ρ)
def cN:Dl->M Fl:=fun ρ=>pr (.bk ρ)
def sCont:Dl->M Fl:=fun ρ=>pr (.ct ρ)
def qJ (t:Dl->M Bool)(g:Dl->M Fl):Nat->Dl->M Fl
 |0,_=>no
 |n+1,ρ=>bd (t ρ) fun b=>if b=true then bd (g ρ) fun x=>match x with
   |.nx r=>qJ t g n r
   |.ct r=>qJ t g n r
   |.bk r=>pr (.nx r)
   |.rt w=>pr (.rt w)
  else pr (.nx ρ)
structure Dx (K:PySem.W.Frag)(m:Nat)(g:TG)(t:W->Dl->Option Dl):Prop where
 ok: ∀ (o:Wo) (w:W) (v:V) (ρ ρ2:Dl) (σ:St),Rv K o w v->Re K o ρ σ->t w ρ=some ρ2-> ∃σ2,(∀Q:St->Hp->Prop,Q σ2 o.H->g v σ o.H Q)/\Re K o ρ2 σ2/\σ2.drop m=σ.drop m/\σ2.length=σ.length
def tgN (i:Nat):W->Dl->Option Dl:=fun w ρ=>some (ρ.set i (some w))
theorem cj {K:PySem.W.Frag}(m i:Nat)(h:i<m):Dx K m (Ed i) (tgN i):=⟨fun o w v ρ ρ2 σ rv re e=>by
 cases e
 exact⟨_,fun Q q=>q,re.set rv i,by rw[BF h],by rw[zW]⟩⟩
def gNs:List Nat->TGs
 |[]=>gNil
 |i::r=>Ec (Ed i) (gNs r)
def GR:List Nat->List W->Dl->Option Dl
 |[],[],ρ=>some ρ
 |i::r,w::l,ρ=>GR r l (ρ.set i (some w))
 |_,_,_=>none
theorem oQ {K:PySem.W.Frag}{m:Nat}{o:Wo}: ∀ (is:List Nat) (l:List W) (vs:List V) (ρ ρ2:Dl) (σ:St),(∀i∈is,i<m)->Rvs K o l vs->Re K o ρ σ->GR is l ρ=some ρ2-> ∃σ2,(∀Q:St->Hp->Prop,Q σ2 o.H->gNs is vs σ o.H Q)/\Re K o ρ2 σ2/\σ2.drop m=σ.drop m/\σ2.length=σ.length
 |[],[],vs,ρ,ρ2,σ,_,rv,re,e=>by
  unfold Rvs at rv
  cases e
  exact⟨σ,fun Q q=>⟨rv,q⟩,re,rfl,rfl⟩
 |[],_::_,_,_,_,_,_,_,_,e=>by cases e
 |_::_,[],_,_,_,_,_,_,_,e=>by cases e
 |i::is,w::l,vs,ρ,ρ2,σ,hm,rv,re,e=>by
  unfold Rvs at rv
  obtain⟨v,r,rfl,h1,h2⟩:=rv
  obtain⟨σ2,a,b,c,d⟩:=oQ is l r (ρ.set i (some w)) ρ2 (σ.set i (some v)) (fun j hj=>hm j (zK _ hj)) h2 (re.set h1 i) e
  refine⟨σ2,fun Q q=>⟨v,r,rfl,a Q q⟩,b,?_,?_⟩
  ·rw[c,BF (hm i zB)]
  ·rw[d,zW]
def tgT (is:List Nat):W->Dl->Option Dl:=fun w ρ=>match w with
 |.tup l=>GR is l ρ
 |_=>none
theorem gI: ∀ {is:List Nat}{l:List W}{ρ ρ2:Dl},GR is l ρ=some ρ2->l.length=is.length
 |[],[],_,_,_=>rfl
 |[],_::_,_,_,e=>by cases e
 |_::_,[],_,_,e=>by cases e
 |_::is,_::l,_,_,e=>by rw[zx,zx,gI (is:=is) (l:=l) e]
theorem ii {K:PySem.W.Frag}(m:Nat)(is:List Nat)(h:∀i∈is,i<m):Dx K m (gTup K is.length (gNs is)) (tgT is):=⟨fun o w v ρ ρ2 σ rv re e=>by
 cases w with
 |tup l=>
  unfold Rv at rv
  obtain⟨a,vs,rfl,s,r⟩:=rv
  have e:GR is l ρ=some ρ2:=e
  obtain⟨σ2,a1,a2,a3,a4⟩:=oQ is l vs ρ ρ2 σ h r re e
  exact⟨σ2,fun Q q=>⟨a,vs,rfl,s,by rw[r.len,gI e],a1 Q q⟩,a2,a3,a4⟩
 |_=>cases e⟩
open Classical in
def gdh {α:Type}(G:List Ob->Prop)(m:M α):M α:=fun h=>if G h then m h else .bad
theorem mV {α:Type}(m:M α):gdh (fun _=>True) m=m:=by funext h;unfold gdh;rw[if_pos trivial]
theorem df {α:Type}{G:List Ob->Prop}{m:M α}{h:List Ob}(q:G h):gdh G m h=m h:=by unfold gdh;rw[if_pos q]
theorem Ps.gdh {α β:Type}{c:Cg}{r:Wo->α->β->Prop}{o:Wo}{G:List Ob->Prop}{m:M α}{Q:β->Hp->Prop}(h:Ps c r o (gdh G m o.h) Q):G o.h/\Ps c r o (m o.h) Q:=by
 unfold L2.gdh at h
 by_cases q:G o.h
 ·rw[if_pos q] at h;exact⟨q,h⟩
 ·rw[if_neg q] at h;exact h.elim
structure Sr where
 l:List W
 G:List Ob->Prop
structure Dv (K:PySem.W.Frag)(o0:Wo)(J:It)(s:Sr):Prop where
 stop: ∀o,Ex o0 o->Rel K o->s.G o.h->J.stop s.l.length o.H
 go: ∀o i w,Ex o0 o->Rel K o->s.G o.h->s.l[i]?=some w->J.go i o.H/\ ∀x H',J.yld i o.H x H'-> ∃p,p.H=H'/\p.h=o.h/\Ex o p/\Rel K p/\Rv K p w x
def tI (c:Cg)(src:Dl->M Sr):TI:=fun σ H R=>tG c (fun p s J=>Dv c.K p J s) src σ H R
structure JI (X:Cx)(E:XK)(tg iter:Expr)(f:Dl->M Sr):Prop where
 h:PI X tg iter (tI (cg X E) f)
theorem PI.imp {tg iter:Expr}{t:TI}{f:Dl->M Sr}(h:PI X tg iter t)(k:∀σ H R,tI (cg X E) f σ H R->t σ H R):JI X E tg iter f:=⟨fun pins s σ H R I q=>h pins s σ H R I (k σ H R q)⟩
def G9 (w:W):M Sr:=match w with
 |.tl l=>pr ⟨l,fun _=>True⟩
 |.cl l=>pr ⟨l,fun _=>True⟩
 |.loc k=>fun h=>match h[k]? with
  |some (.lst l)=>.ok ⟨l,fun h=>h[k]?=some (.lst l)⟩ h
  |_=>.bad
 |_=>no
def Fb (f:Dl->M W)(g:W->M Sr):Dl->M Sr:=fun ρ=>bd (f ρ) g
theorem i8 {K:PySem.W.Frag}{o0:Wo}{a:B5}{s:Sr}(h:∀o,Ex o0 o->Rel K o->s.G o.h-> ∃vs,SqL K o.H a vs/\Rvs K o s.l vs):Dv K o0 (Itl K a) s:=by
 refine⟨fun o X R g=>?_,fun o i w X R g e=>?_⟩
 ·obtain⟨vs,s,r⟩:=h o X R g
  exact⟨vs,s,AH r.len⟩
 ·obtain⟨vs,s,r⟩:=h o X R g
  obtain⟨v,hv,rv⟩:=r.get e
  refine⟨⟨vs,v,s,hv⟩,fun x H' y=>?_⟩
  obtain⟨rfl,y⟩:=y
  have:x=v:=by have:=y vs s;rw[hv] at this;exact (Option.some.inj this).symm
  subst this
  exact⟨o,rfl,rfl,Ex.refl _,R,rv⟩
theorem iW {tg l:Expr}{fl:Dl->M W}(hl:JE X E l fl):JI X E tg l (Fb fl G9):=(tX hl.h).imp fun σ H Q h=>by
 obtain⟨o,ρ,rfl,R,S,h⟩:=h
 refine⟨o,ρ,rfl,R,S,Ps.bd h fun p x vx e1 R1 r1 h1=>?_⟩
 cases x with
 |tl l=>
  have r1':=r1
  unfold Rv at r1
  obtain⟨a,vs,rfl,s,n,r⟩:=r1
  refine⟨a,rfl,⟨vs,.of s⟩,h1.pr R1 (i8 fun o X R g=>?_)⟩
  exact⟨vs,.of (X.fr a _ s n).1,r.mono R1 X⟩
 |cl l=>
  unfold Rv at r1
  obtain⟨a,vs,rfl,s,r⟩:=r1
  have sq: ∀o,Ex p o->SqL X.K o.H a vs:=fun o X=>by
   rcases s with⟨s,n⟩|s
   ·exact .inl (X.rd s n).1
   ·exact .inr s
  exact⟨a,rfl,⟨vs,sq p (Ex.refl _)⟩,h1.pr R1 (i8 fun o X R g=>⟨vs,sq o X,r.mono R1 X⟩)⟩
 |loc k=>
  unfold Rv at r1
  obtain⟨hk,rfl⟩:=r1
  unfold G9 at h1
  dsimp only at h1
  split at h1
  ·rename_i l hl
   obtain⟨vs,h3,h4⟩:=R1.ob k _ hl
   refine⟨_,rfl,⟨vs,.of h3⟩,Ps.at (p:=p) h1 rfl (Ex.refl _) R1 (i8 fun o X R g=>?_)⟩
   obtain⟨vs',h5,h6⟩:=R.ob k _ g
   rw[X.mu k hk] at h5
   exact⟨vs',.of h5,h6⟩
  ·exact h1.elim
 |_=>exact h1.elim
def Hb (w:W):M Sr:=match w with
 |.tup l=>pr ⟨l,fun _=>True⟩
 |_=>no
theorem rY {tg l:Expr}{fl:Dl->M W}(hl:JE X E l fl):JI X E tg l (Fb fl Hb):=(we hl.h).imp fun σ H Q h=>by
 obtain⟨o,ρ,rfl,R,S,h⟩:=h
 refine⟨o,ρ,rfl,R,S,Ps.bd h fun p x vx e1 R1 r1 h1=>?_⟩
 cases x with
 |tup l=>
  unfold Rv at r1
  obtain⟨a,vs,rfl,s,r⟩:=r1
  refine⟨a,rfl,⟨vs,s⟩,h1.pr R1 ⟨fun o X R g=>⟨vs,X.rdT R1 s,AH r.len⟩,fun o i w X R g e=>?_⟩⟩
  obtain⟨v,hv,rv⟩:=(r.mono R1 X).get e
  have sq:=X.rdT R1 s
  refine⟨⟨vs,v,sq,hv⟩,fun x H' y=>?_⟩
  obtain⟨rfl,y⟩:=y
  have:x=v:=by have:=y vs sq;rw[hv] at this;exact (Option.some.inj this).symm
  subst this
  exact⟨o,rfl,rfl,Ex.refl _,R,rv⟩
 |_=>exact h1.elim
noncomputable def El (lo:Int):Nat->List W
 |0=>[]
 |n+1=>.int lo::El (lo+1) n
theorem dt: ∀ (n:Nat) (lo:Int),(El lo n).length=n
 |0,_=>rfl
 |n+1,lo=>by rw[El,zx,dt n]
theorem dI: ∀ (n:Nat) (lo:Int) (i:Nat) (w:W),(El lo n)[i]?=some w->w=.int (lo+i)/\i<n
 |0,_,_,_,h=>by simp [El] at h
 |n+1,lo,0,w,h=>by rw[El] at h;cases h;exact⟨by simp,Nat.succ_pos _⟩
 |n+1,lo,i+1,w,h=>by
  rw[El,Bm] at h
  obtain⟨e,l⟩:=dI n (lo+1) i w h
  exact⟨by rw[e];congr 1;omega,by omega⟩
theorem pU {K:PySem.W.Frag}{o0:Wo}{lo:Int}{n:Nat}:Dv K o0 (Itr lo n) ⟨El lo n,fun _=>True⟩:=by
 refine⟨fun o X R g=>?_,fun o i w X R g e=>?_⟩
 ·show n<=(El lo n).length
  rw[dt];exact zu _
 ·obtain⟨rfl,hi⟩:=dI n lo i w e
  refine⟨hi,fun x H' y=>?_⟩
  obtain⟨rfl,rfl⟩:=y
  exact⟨o,rfl,rfl,Ex.refl _,R,Gu.mpr rfl⟩
def Gn (l:List W):M Sr:=match l with
 |[.int j]=>gd (-(2 ^ 62)<=j/\j<2 ^ 62) (pr ⟨El 0 j.toNat,fun _=>True⟩)
 |_=>no
def Fc (f:Dl->M (List W))(g:List W->M Sr):Dl->M Sr:=fun ρ=>bd (f ρ) g
theorem qf {tg a:Expr}{p pos:Ct}{fl:Dl->M (List W)}(hg:Gl X "range")(hm:X.mg "range"=none)(ha:JA X E [a] fl)(hs:Cv [a] X.env=[(false,Cp a X.env)]:=by rfl):JI X E tg (.Call (.Name "range" p) [a] [] pos) (Fc fl Gn):=
 (p5 hg hm ha.h hs).imp fun σ H Q h=>by
 obtain⟨o,ρ,rfl,R,S,h⟩:=h
 refine⟨o,ρ,rfl,R,S,Ps.bd h fun p x vx e1 R1 r1 h1=>?_⟩
 unfold Gn at h1
 split at h1
 ·obtain⟨hz,h1⟩:=h1.gd
  unfold Rvs Rvs at r1
  obtain⟨v,r,rfl,a1,rfl⟩:=r1
  exact⟨_,by rw[Gu.mp a1],hz.1,hz.2,h1.pr R1 pU⟩
 ·exact h1.elim
def Eb (G:List Ob->Prop)(t:W->Dl->Option Dl)(g:Dl->M Fl):List W->Dl->M Fl
 |[],ρ=>gdh G (pr (.nx ρ))
 |w::l,ρ=>gdh G (match t w ρ with
  |none=>no
  |some r=>bd (g r) fun x=>match x with
   |.nx r'=>Eb G t g l r'
   |.ct r'=>Eb G t g l r'
   |.bk r'=>pr (.nx r')
   |.rt v=>pr (.rt v))
def GB (src:Dl->M Sr)(t:W->Dl->Option Dl)(g:Dl->M Fl):Dl->M Fl:=fun ρ=>bd (src ρ) fun s=>Eb s.G t g s.l ρ
theorem wY {tg iter:Expr}{body:List Cw}{src:Dl->M Sr}{t:W->Dl->Option Dl}{gT:TG}{g:Dl->M Fl}{m:Nat}(hp:CI (Cb X.prog X.w) X.A X.env X.xe)(hc:X.calm=true)(hi:JI X E tg iter src)(hg:PG X tg gT)(ht:Dx X.K m gT t)(hb:JSs X E body g)
  (hs: ∀x,CL iter X.env x=pure x:=by intro _;rfl):JS X E (.For tg iter body [] pos) (GB src t g):=(v6 hp hc hi.h hg hb.h hs).imp fun D σ H h=>by
 obtain⟨o,ρ,rfl,R,S,h⟩:=h
 refine⟨o,ρ,rfl,R,S,Ps.bd h fun o1 s J e1 R1 sk h1=>?_⟩
 refine⟨fun i n σ H=>n=s.l.length - i/\i<=s.l.length/\ ∃o ρ,o.H=H/\Ex o1 o/\Rel X.K o/\Re X.K o ρ σ/\Ps (cg X E) (RFl X.K) o (Eb s.G t g (s.l.drop i) ρ o.h) (DQ D),⟨_,rfl,zL _,o1,ρ,rfl,Ex.refl _,R1,S.mono R e1,h1⟩,?_⟩
 rintro i n σ H ⟨rfl,hi,o,ρ,rfl,X1,R,S,h⟩
 by_cases hlt:i<s.l.length
 ·obtain⟨w,hw⟩: ∃w,s.l[i]?=some w:=⟨_,Ah hlt⟩
  have hd:s.l.drop i=w::s.l.drop (i+1):=by
   rw[AJ hlt]
   rw[Ah hlt] at hw
   rw[Option.some.inj hw]
  rw[hd] at h
  unfold Eb at h
  obtain⟨hG,h⟩:=h.gdh
  obtain⟨hgo,hy⟩:=sk.go o i w X1 R hG hw
  refine .inr ⟨hgo,fun σ' H'=> ∃o ρ,o.H=H'/\Ex o1 o/\Rel X.K o/\Re X.K o ρ σ'/\Ps (cg X E) (RFl X.K) o (Eb s.G t g (s.l.drop (i+1)) ρ o.h) (DQ D),fun σ' H' q=>⟨_,by omega,rfl,hlt,q⟩,fun x H' y=>?_⟩
  obtain⟨p,rfl,eh,X2,R2,rv⟩:=hy x H' y
  cases et:t w ρ with
  |none=>rw[et] at h;exact h.elim
  |some r=>
   rw[et] at h
   obtain⟨σ2,k1,k2,_,_⟩:=ht.ok p w x ρ r σ rv (S.mono R X2) et
   refine k1 _ ?_
   have h2:Ps (cg X E) (RFl X.K) p (bd (g r) (fun x=>match x with
    |.nx r'=>Eb s.G t g (s.l.drop (i+1)) r'
    |.ct r'=>Eb s.G t g (s.l.drop (i+1)) r'
    |.bk r'=>pr (.nx r')
    |.rt v=>pr (.rt v)) p.h) (DQ D):=by rw[eh];exact h.after X2
   refine⟨p,r,rfl,R2,k2,Ps.bd h2 fun q x b e3 R3 r3 h3=>?_⟩
   cases x with
   |nx r=>obtain⟨s',rfl,re⟩:=r3;exact⟨q,r,rfl,(X1.trans X2).trans e3,R3,re,h3⟩
   |ct r=>obtain⟨s',rfl,re⟩:=r3;exact⟨q,r,rfl,(X1.trans X2).trans e3,R3,re,h3⟩
   |bk r=>obtain⟨s',rfl,re⟩:=r3;exact h3.pr R3 (b:=.nx s') ⟨s',rfl,re⟩
   |rt w=>obtain⟨v,rfl,rv⟩:=r3;exact h3.pr R3 (b:=.rt v) ⟨v,rfl,rv⟩
 ·have e:i=s.l.length:=by omega
  subst e
  rw[Bn] at h
  unfold Eb at h
  obtain⟨hG,h⟩:=h.gdh
  exact .inl ⟨sk.stop o X1 R hG,Ps.pr (b:=FlV.nx σ) h R ⟨σ,rfl,S⟩⟩
end
end
section
section
variable {X:Cx}{E:XK}{pos:Ct}
theorem yc {l:Dl->M (List W)}{σ:St}{H:Hp}{Q:VK}(h:tM (cg X E) (mTl l) σ H Q):tF (cg X E) l σ H Q:=by
 obtain⟨o,ρ,rfl,R,S,h⟩:=h
 exact⟨o,ρ,rfl,R,S,Ps.bd h fun p x vx e1 R1 r1 h1=>fun q hq=>Ps.at (p:=⟨p.mu,p.h,upd p.H q (.lst vx)⟩) h1 rfl (Ex.new hq) (R1.new hq) (Rv.newL R1 hq r1)⟩
theorem vQ {l:Dl->M (List W)}{σ:St}{H:Hp}{Q:VK}(h:tM (cg X E) (E4 l) σ H Q):tF (cg X E) l σ H Q:=by
 obtain⟨o,ρ,rfl,R,S,h⟩:=h
 refine⟨o,ρ,rfl,R,S,Ps.bd h fun p x vx e1 R1 r1 h1=>fun q hq=>?_⟩
 refine Ps.at (p:=p.add q (.lst x) (.lst vx)) h1 rfl (Ex.add hq) (R1.addL hq r1) ?_
 unfold Rv
 exact⟨by show _<(p.h++[_]).length;simp,by show V.ref q=V.ref (if p.h.length=p.h.length then q else _);rw[if_pos rfl]⟩
theorem qP {i:Nat}{f:Dl->M W}{D:Dj}{σ:St}{H:Hp}(h:tS (cg X E) (GG i f) D σ H):Hk (tM (cg X E) f) (Ed i) D σ H:=by
 obtain⟨o,ρ,rfl,R,S,h⟩:=h
 exact⟨o,ρ,rfl,R,S,Ps.bd h fun p x b e1 R1 r1 h1=>Ps.pr (b:=FlV.nx (σ.set i (some b))) h1 R1 ⟨_,rfl,(S.mono R e1).set r1 i⟩⟩
def DP (G:List Ob->Prop)(t:W->Dl->Option Dl)(f:Dl->M Bool)(e:Dl->M W)(n:Nat):List W->Dl->M (List W)
 |[],ρ=>gdh G (pr [])
 |w::l,ρ=>gdh G (match t w (List.replicate n none++ρ) with
  |none=>no
  |some r=>bd (f r) fun b=>if b=true then bd (e r) fun x=>bd (DP G t f e n l ρ) fun m=>pr (x::m) else DP G t f e n l ρ)
def EX (hs:List Nat)(src:Dl->M Sr)(t:W->Dl->Option Dl)(f:Dl->M Bool)(e:Dl->M W)(n:Nat):Dl->M (List W):=fun ρ=>
 gd ((hs.all fun i=>(ρ[i]?.join).isNone)=true) (bd (src ρ) fun s=>gd (s.l.length<=sizeLine) (DP s.G t f e n s.l ρ))
variable {elt iter tg:Expr}{ifs:List Expr}{scope:Cn}{ls:List Str}{gT:TG}{t:W->Dl->Option Dl}{f:Dl->M Bool}{e:Dl->M W}{src:Dl->M Sr}{hs:List Nat}{wh:Prop}
theorem kH (ht:Dx X.K ls.length gT t){σ:St}{H:Hp}{Q:VK}(h:tF (cg X E) (EX hs src t f e ls.length) σ H Q):Hl X.N ls (tI (cg X E) src) gT (tT (cg X E) f) (tM (cg X E) e) σ H Q:=by
 obtain⟨o,ρ,rfl,R,S,h⟩:=h
 unfold EX at h
 obtain⟨h0,h⟩:=h.gd
 refine⟨rfl,o,ρ,rfl,R,S,Ps.bd h fun o1 s J e1 R1 sk h1=>?_⟩
 obtain⟨hz,h1⟩:=h1.gd
 have S1:=S.mono R e1
 refine⟨fun i n ys H=>n=s.l.length - i/\i<=s.l.length/\ ∃o acc,o.H=H/\Ex o1 o/\Rel X.K o/\Rvs X.K o acc ys/\acc.length<=i/\Ps (cg X E) (Rvs X.K) o (bd (DP s.G t f e ls.length (s.l.drop i) ρ) (fun m=>pr (acc++m)) o.h) (fun vs H1=> ∀q,H1 q=none->Q (.ref q) (upd H1 q (.lst vs))),
  ⟨_,rfl,zL _,o1,[],rfl,Ex.refl _,R1,Rvs.nil,zu _,?_⟩,?_⟩
 ·have:bd (DP s.G t f e ls.length (s.l.drop 0) ρ) (fun m=>pr ([]++m))=DP s.G t f e ls.length s.l ρ:=by
   funext h
   rw[Aw]
   unfold bd
   cases DP s.G t f e ls.length s.l ρ h<;>rfl
  rw[this];exact h1
 rintro i n ys H ⟨rfl,hi,o,acc,rfl,X1,R,A,ha,h⟩
 have S2:=S1.mono R1 X1
 have gs: ∀ {α β γ:Type}{r:Wo->β->γ->Prop}{m:M α}{k:α->M β}{Q':γ->Hp->Prop},Ps (cg X E) r o (bd (gdh s.G m) k o.h) Q'->s.G o.h/\Ps (cg X E) r o (bd m k o.h) Q':=fun{α β γ r m k Q'} q=>by
  have:bd (gdh s.G m) k o.h=gdh s.G (bd m k) o.h:=by
   unfold bd L2.gdh
   by_cases z:s.G o.h
   ·simp only[if_pos z]
   ·simp only[if_neg z]
  rw[this] at q
  exact q.gdh
 by_cases hlt:i<s.l.length
 ·obtain⟨w,hw⟩: ∃w,s.l[i]?=some w:=⟨_,Ah hlt⟩
  have hd:s.l.drop i=w::s.l.drop (i+1):=by
   rw[AJ hlt]
   rw[Ah hlt] at hw
   rw[Option.some.inj hw]
  rw[hd] at h
  unfold DP at h
  obtain⟨hG,h⟩:=gs h
  obtain⟨hgo,hy⟩:=sk.go o i w X1 R hG hw
  refine .inr ⟨hgo,fun ys' H'=> ∃o acc,o.H=H'/\Ex o1 o/\Rel X.K o/\Rvs X.K o acc ys'/\acc.length<=i+1/\Ps (cg X E) (Rvs X.K) o (bd (DP s.G t f e ls.length (s.l.drop (i+1)) ρ) (fun m=>pr (acc++m)) o.h) (fun vs H1=> ∀q,H1 q=none->Q (.ref q) (upd H1 q (.lst vs))),fun ys' H' q=>⟨_,by omega,rfl,hlt,q⟩,fun x H' y=>?_⟩
  obtain⟨p,rfl,eh,X2,R2,rv⟩:=hy x H' y
  cases et:t w (List.replicate ls.length none++ρ) with
  |none=>rw[et] at h;exact h.elim
  |some r=>
   rw[et] at h
   obtain⟨σ2,k1,k2,k3,k4⟩:=ht.ok p w x _ r (List.replicate ls.length none++σ) rv ((S2.mono R X2).front _) et
   refine k1 _ ⟨?_,?_,?_⟩
   ·rw[k3,List.drop_left' (by rw[At])]
   ·rw[k4,zv,At]
   have h2:Ps (cg X E) (Rvs X.K) p (bd (f r) (fun b=>bd (if b=true then bd (e r) fun x=>bd (DP s.G t f e ls.length (s.l.drop (i+1)) ρ) fun m=>pr (x::m) else DP s.G t f e ls.length (s.l.drop (i+1)) ρ) fun m=>pr (acc++m)) p.h) (fun vs H1=> ∀q,H1 q=none->Q (.ref q) (upd H1 q (.lst vs))):=by
    rw[eh]
    rw[aa] at h
    exact h.after X2
   refine⟨p,r,rfl,R2,k2,Ps.bd h2 fun q b vb e3 R3 r3 h3=>?_⟩
   subst r3
   have A3:=(A.mono R X2).mono R2 e3
   cases b with
   |false=>
    exact Ey ⟨q,acc,rfl,(X1.trans X2).trans e3,R3,A3,by omega,h3⟩
   |true=>
    rw[if_pos rfl,aa] at h3
    refine Ez ⟨q,r,rfl,R3,k2.mono R2 e3,Ps.bd h3 fun q2 x vx e4 R4 r4 h4=>⟨?_,q2,acc++[x],rfl,((X1.trans X2).trans e3).trans e4,R4,(A3.mono R3 e4).app (Rvs.cons r4 Rvs.nil),?_,?_⟩⟩
    ·rw[(A3.mono R3 e4).len];omega
    ·rw[zv,zU];omega
    ·rw[aa] at h4
     have ee:(fun m=>bd (pr (x::m)) fun m=>pr (acc++m))=(fun m:List W=>(pr (acc++[x]++m):M (List W))):=by
      funext m h
      show Rs.ok (acc++(x::m)) h=Rs.ok (acc++[x]++m) h
      rw[zV];rfl
     rw[ee] at h4
     exact h4
 ·have ei:i=s.l.length:=by omega
  subst ei
  rw[Bn] at h
  unfold DP at h
  obtain⟨hG,h⟩:=gs h
  have h:Ps (cg X E) (Rvs X.K) o (pr (acc++[]) o.h) (fun vs H1=> ∀q,H1 q=none->Q (.ref q) (upd H1 q (.lst vs))):=h
  rw[zZ] at h
  exact .inl ⟨sk.stop o X1 R hG,h.pr R A⟩
structure JQ (X:Cx)(E:XK)(ifs:List Expr)(f:Dl->M Bool):Prop where
 h:Ds X ifs (tT (cg X E) f)
def Fg:Dl->M Bool:=fun _=>pr true
theorem ux:JQ X E [] Fg:=⟨fun pins s σ H Q I h=>kY pins s σ H Q I (by
 obtain⟨o,ρ,rfl,R,S,h⟩:=h
 exact Ps.pr (b:=true) h R rfl)⟩
theorem uw {c:Expr}(h:JT X E c f):JQ X E [c] f:=⟨tV h.h⟩
theorem cy (hcalm:X.calm=true)(S:CScope X ls scope)(hi:JI X E tg iter src)(hg: ∀C s2 H2 fp,PG (cxC X ls scope C s2 H2 fp) tg gT)(ht:Dx X.K ls.length gT t)
  (hf: ∀C s2 H2 fp,JQ (cxC X ls scope C s2 H2 fp) E ifs f)(he: ∀C s2 H2 fp,JE (cxC X ls scope C s2 H2 fp) E elt e)(hh:wh)
  (hs': ∀x,CL iter X.env x=pure x:=by intro _;rfl):JF X E (.ListComp elt [⟨tg,iter,ifs,0⟩] scope pos) (EX hs src t f e ls.length):=
 (kZ hcalm S hi.h hg (fun C s2 H2 fp=>(hf C s2 H2 fp).h) (fun C s2 H2 fp=>(he C s2 H2 fp).h) hs').impF fun σ H Q h=>kH ht h
theorem gW {i:Nat}{x:Str}{px spos:Ct}(hN:X.N.Nodup)(hx1:X.N[i]?=some x)(hx:X.env.scope.names.lookup x=some .local)(hcalm:X.calm=true)(S:CScope X ls scope)(hi:JI X E tg iter src)(hg: ∀C s2 H2 fp,PG (cxC X ls scope C s2 H2 fp) tg gT)(ht:Dx X.K ls.length gT t)
  (hf: ∀C s2 H2 fp,JQ (cxC X ls scope C s2 H2 fp) E ifs f)(he: ∀C s2 H2 fp,JE (cxC X ls scope C s2 H2 fp) E elt e)(hh:wh)
  (hsw:swapsWith (.ListComp elt [⟨tg,iter,ifs,0⟩] scope pos) (some (.Name x px)) spos.line X.env=pure true:=by rfl)
  (hs': ∀x,CL iter X.env x=pure x:=by intro _;rfl):JS X E (.Assign [.Name x px] (.ListComp elt [⟨tg,iter,ifs,0⟩] scope pos) spos) (GG i (mTl (EX hs src t f e ls.length))):=
 (jk hN hx1 hx hcalm S hi.h hg (fun C s2 H2 fp=>(hf C s2 H2 fp).h) (fun C s2 H2 fp=>(he C s2 H2 fp).h) hsw hs').imp fun D σ H h=>kH ht (yc (qP h))
theorem qe {i:Nat}{x:Str}{px spos:Ct}(hN:X.N.Nodup)(hx1:X.N[i]?=some x)(hx:X.env.scope.names.lookup x=some .local)(hcalm:X.calm=true)(S:CScope X ls scope)(hi:JI X E tg iter src)(hg: ∀C s2 H2 fp,PG (cxC X ls scope C s2 H2 fp) tg gT)(ht:Dx X.K ls.length gT t)
  (hf: ∀C s2 H2 fp,JQ (cxC X ls scope C s2 H2 fp) E ifs f)(he: ∀C s2 H2 fp,JE (cxC X ls scope C s2 H2 fp) E elt e)(hh:wh)
  (hsw:swapsWith (.ListComp elt [⟨tg,iter,ifs,0⟩] scope pos) (some (.Name x px)) spos.line X.env=pure true:=by rfl)
  (hs': ∀x,CL iter X.env x=pure x:=by intro _;rfl):JS X E (.Assign [.Name x px] (.ListComp elt [⟨tg,iter,ifs,0⟩] scope pos) spos) (GG i (E4 (EX hs src t f e ls.length))):=
 (jk hN hx1 hx hcalm S hi.h hg (fun C s2 H2 fp=>(hf C s2 H2 fp).h) (fun C s2 H2 fp=>(he C s2 H2 fp).h) hsw hs').imp fun D σ H h=>kH ht (vQ (qP h))
end
end
section
section
variable {X:Cx}{E:XK}{pos p:Ct}{a b:Expr}{l:Dl->M (List W)}
theorem Rvs.one {K:PySem.W.Frag}{o:Wo}{w:W}{vs:List V}(h:Rvs K o [w] vs): ∃v,vs=[v]/\Rv K o w v:=by
 unfold Rvs Rvs at h;obtain⟨v,r,rfl,h1,rfl⟩:=h;exact⟨v,rfl,h1⟩
theorem Rvs.two {K:PySem.W.Frag}{o:Wo}{w x:W}{vs:List V}(h:Rvs K o [w,x] vs): ∃v u,vs=[v,u]/\Rv K o w v/\Rv K o x u:=by
 unfold Rvs Rvs Rvs at h;obtain⟨v,r,rfl,h1,u,r2,rfl,h2,rfl⟩:=h;exact⟨v,u,rfl,h1,h2⟩
def EQ (ws:List W):M W:=match ws with
 |[.str z]=>gd (z.length<=sizeLine) (pr (.int z.length))
 |[.tup l]=>pr (.int l.length)
 |[w]=>bd (ET w) fun l=>pr (.int l.length)
 |_=>no
theorem xT:Df X E (fun xs H Q=>(fun xs H Q=> ∃z,xs=[.str z]/\z.length<=sizeLine/\Q (.int z.length) H) xs H Q\/(fun xs H Q=> ∃p ys,xs=[.ref p]/\(SqL X.K H p ys\/SqT X.K H p ys)/\Q (.int ys.length) H) xs H Q) EQ:=by
 intro o ws vs Q R rv h
 unfold EQ at h
 split at h
 ·obtain⟨v,rfl,r⟩:=rv.one
  obtain⟨hz,h⟩:=h.gd
  exact .inl ⟨_,by rw[Gw.mp r],hz,h.pr R (Gu.mpr rfl)⟩
 ·obtain⟨v,rfl,r⟩:=rv.one
  unfold Rv at r
  obtain⟨a,us,rfl,s,r⟩:=r
  exact .inr ⟨a,us,rfl,.inr s,by rw[r.len];exact h.pr R (Gu.mpr rfl)⟩
 ·obtain⟨v,rfl,r⟩:=rv.one
  obtain⟨l,a,us,rfl,s,r,h⟩:=eG R r h
  exact .inr ⟨a,us,rfl,.inl s,by rw[r.len];exact h.pr R (Gu.mpr rfl)⟩
 ·exact h.elim
theorem xx (hm:X.mg "len"=none)(ha:JA X E [a] l)(hg:Gl X "len":=by rfl)(he:Cv [a] X.env=(false,Cp a X.env)::Cv [] X.env:=by rfl)(hpl:(Cu pos (Cv [] X.env)).any (·.1)=false:=by rfl):JE X E (.Call (.Name "len" p) [a] [] pos) (EW EQ l):=
 fZ (DJ.or lO) xT hg hm PySem.boot_len ha (he:=he) (hpl:=hpl)
def Ek (ws:List W):M W:=match ws with
 |[.int i]=>pr (.int i)
 |[.bl k]=>pr (.int (if k then 1 else 0))
 |[.str z]=>match PySem.intText? z with
  |some n=>gd (z.length<=640) (pr (.int n))
  |none=>no
 |_=>no
theorem xU:Df X E (fun xs H Q=>((∃i,xs=[.int i]/\Q (.int i) H)\/ ∃k,xs=[.bl k]/\Q (.int (if k then 1 else 0)) H)\/(fun xs H Q=> ∃ (z:Str) (n:Int),xs=[.str z]/\PySem.intText? z=some n/\z.length<=640/\Q (.int n) H) xs H Q) Ek:=by
 intro o ws vs Q R rv h
 unfold Ek at h
 split at h
 ·obtain⟨v,rfl,r⟩:=rv.one
  exact .inl (.inl ⟨_,by rw[Gu.mp r],h.pr R (Gu.mpr rfl)⟩)
 ·obtain⟨v,rfl,r⟩:=rv.one
  exact .inl (.inr ⟨_,by rw[Gr.mp r],h.pr R (Gu.mpr rfl)⟩)
 ·obtain⟨v,rfl,r⟩:=rv.one
  rename_i z
  cases hn:PySem.intText? z with
  |some n=>
   rw[hn] at h
   obtain⟨hz,h⟩:=h.gd
   exact .inr ⟨_,n,by rw[Gw.mp r],hn,hz,h.pr R (Gu.mpr rfl)⟩
  |none=>rw[hn] at h;exact h.elim
 ·exact h.elim
theorem uE (hm:X.mg "int"=none)(ha:JA X E [a] l)(hg:Gl X "int":=by rfl)(he:Cv [a] X.env=(false,Cp a X.env)::Cv [] X.env:=by rfl)(hpl:(Cu pos (Cv [] X.env)).any (·.1)=false:=by rfl):JE X E (.Call (.Name "int" p) [a] [] pos) (EW Ek l):=
 iu (DH.or hJ) xU hg hm PyProof.Rows.boot_int ha (he:=he) (hpl:=hpl)
def Hh (ws:List W):M W:=match ws with
 |[.int i]=>gd (i.natAbs.log2<1920) (pr (.str (toString i)))
 |[.str z]=>pr (.str z)
 |_=>no
theorem xS:Df X E (fun xs H Q=>(fun xs H Q=> ∃i,xs=[.int i]/\i.natAbs.log2<1920/\Q (.str (toString i)) H) xs H Q\/(fun xs H Q=> ∃ (z:Str),xs=[.str z]/\Q (.str z) H) xs H Q) Hh:=by
 intro o ws vs Q R rv h
 unfold Hh at h
 split at h
 ·obtain⟨v,rfl,r⟩:=rv.one
  obtain⟨hz,h⟩:=h.gd
  exact .inl ⟨_,by rw[Gu.mp r],hz,h.pr R (Gw.mpr rfl)⟩
 ·obtain⟨v,rfl,r⟩:=rv.one
  exact .inr ⟨_,by rw[Gw.mp r],h.pr R (Gw.mpr rfl)⟩
 ·exact h.elim
theorem uz (hm:X.mg "str"=none)(ha:JA X E [a] l)(hg:Gl X "str":=by rfl)(he:Cv [a] X.env=(false,Cp a X.env)::Cv [] X.env:=by rfl)(hpl:(Cu pos (Cv [] X.env)).any (·.1)=false:=by rfl):JE X E (.Call (.Name "str" p) [a] [] pos) (EW Hh l):=
 iu (DK.or lN) xS hg hm PyProof.Rows.boot_str ha (he:=he) (hpl:=hpl)
def absW (ws:List W):M W:=match ws with
 |[.int i]=>pr (.int (if i<0 then -i else i))
 |_=>no
def Fi (ws:List W):M W:=match ws with
 |[.int i,.int j]=>pr (.int (if j>i then j else i))
 |_=>no
theorem xw (hc:X.calm=true)(hm:X.mg "max"=none)(ha:JA X E [a,b] l)(hg:Gl X "max":=by rfl)(he:Cv [a,b] X.env=(false,Cp a X.env)::Cv [b] X.env:=by rfl)(hpl:(Cu pos (Cv [b] X.env)).any (·.1)=false:=by rfl):JE X E (.Call (.Name "max" p) [a,b] [] pos) (EW Fi l):=
 fZ (qE hc) (fun o ws vs Q R rv h=>by
  unfold Fi at h
  split at h
  ·obtain⟨v,u,rfl,r1,r2⟩:=rv.two
   exact⟨_,_,by rw[Gu.mp r1,Gu.mp r2],h.pr R (Gu.mpr rfl)⟩
  ·exact h.elim) hg hm PyProof.Rows.boot_max ha (he:=he) (hpl:=hpl)
noncomputable def iOf:W->Option Int
 |.int i=>some i
 |_=>none
noncomputable def sOf:W->Option Str
 |.str i=>some i
 |_=>none
theorem iT {K:PySem.W.Frag}{o:Wo}{α:Type}{f:W->Option α}{g:α->V}(hf: ∀w a v,f w=some a->Rv K o w v->v=g a): ∀ {l:List W}{xs:List α}{vs:List V},FV f l=some xs->Rvs K o l vs->vs=xs.map g
 |[],xs,vs,e,h=>by unfold Rvs at h;cases e;exact h
 |w::l,xs,vs,e,h=>by
  unfold Rvs at h
  obtain⟨v,r,rfl,h1,h2⟩:=h
  unfold FV at e
  split at e
  ·rename_i d ds e1 e2
   cases e
   rw[hf w d v e1 h1,iT hf e2 h2];rfl
  ·cases e
theorem xM {K:PySem.W.Frag}{o:Wo}: ∀ (w:W) (a:Int) (v:V),iOf w=some a->Rv K o w v->v=.int a:=fun w a v e h=>by
 cases w<;>first|(cases e;exact Gu.mp h)|cases e
theorem rf {K:PySem.W.Frag}{o:Wo}: ∀ (w:W) (a:Str) (v:V),sOf w=some a->Rv K o w v->v=.str a:=fun w a v e h=>by
 cases w<;>first|(cases e;exact Gw.mp h)|cases e
def Hj (ws:List W):M W:=match ws with
 |[w]=>bd (ET w) fun l=>match FV iOf l with
  |some ns=>pr (.int ns.sum)
  |none=>no
 |_=>no
theorem xh (hc:X.calm=true)(hm:X.mg "sum"=none)(ha:JA X E [a] l)(hg:Gl X "sum":=by rfl)(he:Cv [a] X.env=(false,Cp a X.env)::Cv [] X.env:=by rfl)(hpl:(Cu pos (Cv [] X.env)).any (·.1)=false:=by rfl):JE X E (.Call (.Name "sum" p) [a] [] pos) (EW Hj l):=
 fZ (sK hc) (fun o ws vs Q R rv h=>by
  unfold Hj at h
  split at h
  ·obtain⟨v,rfl,r⟩:=rv.one
   obtain⟨l,a,us,rfl,s,r,h⟩:=eG R r h
   cases e:FV iOf l with
   |none=>rw[e] at h;exact h.elim
   |some ns=>
    rw[e] at h
    rw[iT xM e r] at s
    exact⟨a,ns,rfl,s,h.pr R (Gu.mpr rfl)⟩
  ·exact h.elim) hg hm PyProof.Rows.boot_sum ha (he:=he) (hpl:=hpl)
def gw (ws:List W):M W:=match ws with
 |[.tup l]=>pr (.tup l)
 |[w]=>bd (ET w) fun l=>pr (.tup l)
 |_=>no
theorem rZ (hm:X.mg "tuple"=none)(ha:JA X E [a] l)(hg:Gl X "tuple":=by rfl)(he:Cv [a] X.env=(false,Cp a X.env)::Cv [] X.env:=by rfl)(hpl:(Cu pos (Cv [] X.env)).any (·.1)=false:=by rfl):JE X E (.Call (.Name "tuple" p) [a] [] pos) (EW gw l):=
 iu jY (fun o ws vs Q R rv h=>by
  unfold gw at h
  split at h
  ·obtain⟨v,rfl,r⟩:=rv.one
   have r0:=r
   unfold Rv at r
   obtain⟨a,us,rfl,s,r⟩:=r
   exact⟨a,us,rfl,.inr ⟨s,h.pr R r0⟩⟩
  ·obtain⟨v,rfl,r⟩:=rv.one
   obtain⟨l,a,us,rfl,s,r,h⟩:=eG R r h
   exact⟨a,us,rfl,.inl ⟨s,fun q hq=>kT R hq r h⟩⟩
  ·exact h.elim) hg hm PyProof.Rows.boot_tuple ha (he:=he) (hpl:=hpl)
def listL (l:Dl->M (List W)):Dl->M (List W):=fun ρ=>bd (l ρ) fun ws=>match ws with
 |[.tup l]=>pr l
 |[w]=>ET w
 |_=>no
def isS (w:W):M W:=match w with
 |.str z=>pr (.str z)
 |_=>no
def EE (x:W)(ws:List W):M W:=match x,ws with
 |.str sep,[w]=>bd (ES w) fun l=>match FV sOf l with
  |some ts=>gd ((ts.map (·.length)).sum+ts.length * sep.length<=sizeLine) (pr (.str (Str.join sep ts)))
  |none=>no
 |_,_=>no
def E3 (chk:W->M W)(f:W->List W->M W)(fo:Dl->M W)(l:Dl->M (List W)):Dl->M W:=fun ρ=>bd (fo ρ) fun x=>bd (chk x) fun x=>bd (l ρ) fun ws=>f x ws
variable {o e:Expr}{es:List Expr}{apos cpos:Ct}{fo:Dl->M W}
theorem uC (ho:JE X E o fo)(ha:JA X E [e] l)(hbase:CQ o "join" X.env (Cp o X.env)=Cp o X.env:=by rfl)
  (hfew:((Cu cpos (Cv [e] X.env)).all (fun x=>!x.1) && (CU cpos (CV [] X.env)).all (fun x=>x.1.isSome) && decide (([e]:List Expr).length+([]:List C0).length+(if ([]:List C0).isEmpty then 0 else 1)<30))=true:=by rfl)
  (hline:(apos.endLine==cpos.line)=true:=by rfl)(hs:Cv [e] X.env=(false,Cp e X.env)::Cv [] X.env:=by rfl)(hplain:(Cu cpos (Cv [] X.env)).any (·.1)=false:=by rfl):
  JE X E (.Call (.Attribute o "join" apos) [e] [] cpos) (E3 isS EE fo l):=
 (o6 PySem.F.plainAttrs_str PySem.F.slot_str_join PySem.F.type_str_join uo ho.h ha.h hbase hfew hline hs hplain).imp fun σ H Q h=>by
  obtain⟨w,ρ,rfl,R,S,h⟩:=h
  refine⟨w,ρ,rfl,R,S,Ps.bd h fun p x vx e1 R1 r1 h1=>?_⟩
  cases x with
  |str sep=>
   have h1:Ps (cg X E) (Rv X.K) p (bd (l ρ) (fun ws=>EE (.str sep) ws) p.h) Q:=h1
   rw[Gw.mp r1]
   refine⟨rfl,p,ρ,rfl,R1,S.mono R e1,Ps.bd h1 fun q ws vs e2 R2 r2 h2=>?_⟩
   rcases ws with _|⟨w',_|⟨_,_⟩⟩
   ·exact h2.elim
   ·have h2:Ps (cg X E) (Rv X.K) q (bd (ES w') (fun l=>match FV sOf l with
     |some ts=>gd ((ts.map (·.length)).sum+ts.length * sep.length<=sizeLine) (pr (.str (Str.join sep ts)))
     |none=>no) q.h) Q:=h2
    obtain⟨v,rfl,r⟩:=r2.one
    obtain⟨l',a,us,rfl,s,r,h2⟩:=dP R2 r h2
    cases e:FV sOf l' with
    |none=>rw[e] at h2;exact h2.elim
    |some ts=>
     rw[e] at h2
     rw[iT rf e r] at s
     obtain⟨hz,h2⟩:=h2.gd
     exact⟨sep,a,ts,rfl,rfl,.of s,hz,h2.pr R2 (Gw.mpr rfl)⟩
   ·exact h2.elim
  |_=>exact h1.elim
def isL (w:W):M W:=match w with
 |.loc k=>fun h=>match h[k]? with
  |some (.lst _)=>.ok (.loc k) h
  |_=>.bad
 |_=>no
theorem xL {α β:Type}{r:Wo->α->β->Prop}{o:Wo}{w:W}{v:V}{k:W->M α}{Q:β->Hp->Prop}(R:Rel X.K o)(hr:Rv X.K o w v)(h:Ps (cg X E) r o (bd (isL w) k o.h) Q):
  ∃j l vs,w=.loc j/\o.h[j]?=some (.lst l)/\v=.ref (o.mu j)/\j<o.h.length/\o.H (o.mu j)=some (.lst vs)/\Rvs X.K o l vs/\Ps (cg X E) r o (k (.loc j) o.h) Q:=by
 cases w with
 |loc j=>
  unfold Rv at hr
  unfold isL bd at h
  cases e:o.h[j]? with
  |none=>simp only[e] at h;exact h.elim
  |some b=>
   cases b with
   |lst l=>
    simp only[e] at h
    obtain⟨vs,h1,h2⟩:=R.ob j _ e
    exact⟨j,l,vs,rfl,e,hr.2,hr.1,h1,h2,h⟩
   |_=>simp only[e] at h;exact h.elim
 |_=>exact h.elim
def aU (x:W)(ws:List W):M W:=match x,ws with
 |.loc k,[w]=>fun h=>match h[k]? with
  |some (.lst l)=>if l.length<sizeLine then .ok .non (h.set k (.lst (l++[w]))) else .bad
  |_=>.bad
 |_,_=>no
theorem qg (ho:JE X E o fo)(ha:JA X E [e] l)(hbase:CQ o "append" X.env (Cp o X.env)=Cp o X.env:=by rfl)
  (hfew:((Cu cpos (Cv [e] X.env)).all (fun x=>!x.1) && (CU cpos (CV [] X.env)).all (fun x=>x.1.isSome) && decide (([e]:List Expr).length+([]:List C0).length+(if ([]:List C0).isEmpty then 0 else 1)<30))=true:=by rfl)
  (hline:(apos.endLine==cpos.line)=true:=by rfl)(hs:Cv [e] X.env=(false,Cp e X.env)::Cv [] X.env:=by rfl)(hplain:(Cu cpos (Cv [] X.env)).any (·.1)=false:=by rfl):
  JE X E (.Call (.Attribute o "append" apos) [e] [] cpos) (E3 isL aU fo l):=
 (o6 PySem.F.plainAttrs_list PySem.F.slot_list_append PySem.F.type_list_append qd ho.h ha.h hbase hfew hline hs hplain).imp fun σ H Q h=>by
  obtain⟨w,ρ,rfl,R,S,h⟩:=h
  refine⟨w,ρ,rfl,R,S,Ps.bd h fun p x vx e1 R1 r1 h1=>?_⟩
  obtain⟨j,l0,vs0,rfl,hj,rfl,hlt,hH,hl0,h1⟩:=xL R1 r1 h1
  refine⟨.inl ⟨rfl,vs0,.of hH⟩,p,ρ,rfl,R1,S.mono R e1,Ps.bd h1 fun q ws vs e2 R2 r2 h2=>?_⟩
  rcases ws with _|⟨w',_|⟨_,_⟩⟩
  ·exact h2.elim
  ·unfold aU at h2
   cases e:q.h[j]? with
   |none=>simp only[e] at h2;exact h2.elim
   |some b=>
    cases b with
    |lst l'=>
     simp only[e] at h2
     obtain⟨v,rfl,r⟩:=r2.one
     obtain⟨us,k1,k2⟩:=R2.ob j _ e
     by_cases z:l'.length<sizeLine
     ·rw[if_pos z] at h2
      rw[e2.mu j hlt] at k1
      refine⟨p.mu j,us,v,rfl,rfl,k1,by rw[k2.len];exact z,?_⟩
      have:=Ps.at (p:=q.put j (.lst (l'++[w'])) (.lst (us++[v]))) (b:=V.non) h2 rfl (Ex.put e (by simp)) (R2.putL e (by simp) (k2.app (Rvs.cons r Rvs.nil))) (Gv.mpr rfl)
      have em:q.mu j=p.mu j:=e2.mu j hlt
      have ew:(q.put j (.lst (l'++[w'])) (.lst (us++[v]))).H=upd q.H (p.mu j) (.lst (us++[v])):=by
       show upd q.H (q.mu j) _=_
       rw[em]
      rw[ew] at this
      exact this
     ·rw[if_neg z] at h2;exact h2.elim
    |_=>simp only[e] at h2;exact h2.elim
  ·exact h2.elim
def Eh (w:W):M W:=match w with
 |.loc k=>fun h=>match h[k]? with
  |some (.lst l)=>.ok (.tl l) (h.set k .gone)
  |some (.dic ks ws)=>.ok (.dv ks ws) (h.set k .gone)
  |some (.din b ks ws)=>.ok (.dn b ks ws) (h.set k .gone)
  |_=>.bad
 |w=>pr w
theorem vR {f:Dl->M W}{σ:St}{H:Hp}{Q:VK}(h:tM (cg X E) (m1 Eh f) σ H Q):tM (cg X E) f σ H Q:=by
 obtain⟨o,ρ,rfl,R,S,h⟩:=h
 refine⟨o,ρ,rfl,R,S,Ps.bd h fun p x vx e1 R1 r1 h1=>?_⟩
 cases x with
 |loc k=>
  unfold Rv at r1
  obtain⟨_,rfl⟩:=r1
  unfold Eh at h1
  dsimp only at h1
  split at h1
  ·rename_i l hl
   exact Ps.at (p:=p.ice k) h1 rfl Ex.ice R1.ice (Rv.iceL R1 hl)
  ·rename_i ks ws hl
   exact Ps.at (p:=p.ice k) h1 rfl Ex.ice R1.ice (Rv.iceD R1 hl)
  ·rename_i b ks ws hl
   exact Ps.at (p:=p.ice k) h1 rfl Ex.ice R1.ice (Rv.iceN R1 hl)
  ·exact h1.elim
 |_=>exact Ps.pr (c:=cg X E) h1 R1 r1
theorem oA {f:Dl->M W}{e:Expr}(h:JE X E e f):JE X E e (m1 Eh f):=h.h.imp fun _ _ _ q=>vR q
noncomputable def Fh {κ:Type} [DecidableEq κ]:List κ->List W->κ->W->List W
 |k::ks,w::ws,x,y=>(if k=x then y else w)::Fh ks ws x y
 |_,_,_,_=>[]
def Gh {κ:Type} [DecidableEq κ] (ks:List κ)(ws:List W)(x:κ)(y:W):List κ×List W:=if (ks.any fun k=>decide (k=x))=true then (ks,Fh ks ws x y) else (ks++[x],ws++[y])
def vT (x i v:W):M Unit:=match x with
 |.loc k=>fun h=>match h[k]? with
  |some (.lst l)=>match i with
   |.int n=>match ixN l.length n with
    |some j=>.ok () (h.set k (.lst (l.set j v)))
    |none=>.bad
   |_=>.bad
  |some (.dic ks ws)=>match EH i with
   |some q=>if ks.length<sizeLine then .ok () (h.set k (.dic (Gh ks ws q v).1 (Gh ks ws q v).2)) else .bad
   |none=>.bad
  |some (.dit ks ws)=>match i with
   |.kt q=>if ks.length<sizeLine then .ok () (h.set k (.dit (Gh ks ws q v).1 (Gh ks ws q v).2)) else .bad
   |_=>.bad
  |_=>.bad
 |_=>no
def cL (fo fi fv:Dl->M W):Dl->M Fl:=fun ρ=>bd (fv ρ) fun v=>bd (fo ρ) fun x=>bd (fi ρ) fun i=>bd (vT x i v) fun _=>pr (.nx ρ)
variable {i value:Expr}{tpos:Ct}{fi fv:Dl->M W}
end
end
section
def Gp (n:Nat)(g:Dl->M Fl)(ws:List W):M W:=bd (g (ws.map some++List.replicate (n - ws.length) none)) fun x=>match x with
 |.rt w=>pr w
 |.nx _=>pr .non
 |_=>no
section
variable {P:B2}{w:B3}{K:PySem.W.Frag}{mg:Str->Option BZ}{base:B4}{x qual:Str}{st:Cw}{f:B5}{fd:CW}{N ps:List Str}{k:Nat}{g:Dl->M Fl}
def G5 (K:PySem.W.Frag)(mg:Str->Option BZ)(n:Nat)(f:List W->M W):Sp:=fun vs H Q _=> ∃o ws,o.H=H/\ws.length=n/\Rel K o/\Rvs K o ws vs/\Ps ⟨K,mg,E0⟩ (Rv K) o (f ws o.h) Q
theorem vC {n m:Nat}{fn:List W->M W}(F:Fun K x qual st f fd)(S:Dm N ps (ae st))(hn:N.length=n)(hm:ps.length=m)(hf:fn=Gp n g)
  (hb: ∀ (cdv:BZ) (A:B8) (outer:List Env) (s:B6) (H:Hp) (E:XK),Room k (A.deeper (C2 qual (ae st) s.heap.objs.size f cdv))->JSs (DU CX0 P w K mg base N qual (ae st) f cdv A outer s H E).nox E0 (bo st) g):
  FnOk P w K mg base CX0 (k+1) f fd ps (G5 K mg m fn):=by
 subst hn hm hf
 refine F.ok S (fun vs H Q E h=>?_) (fun cdv A outer s H vs Q E hr h=>?_)
 ·obtain⟨o,ws,_,hl,_,rv,_⟩:=h
  rw[rv.len,hl]
 ·obtain⟨o,ws,rfl,hl,R,rv,h⟩:=h
  refine⟨_,(hb cdv A outer s o.H E hr).h,?_⟩
  have e:Hd N vs=vs.map some++List.replicate (N.length - ws.length) none:=by unfold Hd;rw[rv.len]
  rw[e]
  refine⟨o,_,rfl,R,Re.args _ rv,Ps.bd h fun p x b e1 R1 r1 h1=>?_⟩
  cases x with
  |rt w=>obtain⟨v,rfl,r⟩:=r1;exact h1.pr R1 r
  |nx r=>obtain⟨s,rfl,r⟩:=r1;exact h1.pr R1 (Gv.mpr rfl)
  |bk r=>exact h1.elim
  |ct r=>exact h1.elim
theorem xR {m:Nat}{fn:List W->M W}(h:∀ws h,fn ws h=.bad):FnOk P w K mg base CX0 k f fd ps (G5 K mg m fn):=by
 have no: ∀vs H Q E,¬G5 K mg m fn vs H Q E:=fun vs H Q E ⟨o,ws,_,_,_,_,q⟩=>by rw[h] at q;exact q
 exact⟨fun vs H Q E h=>absurd h (no vs H Q E),fun A outer s H args us vs Q E _ _ _ _ h=>absurd h (no vs H Q E)⟩
structure CG (P:B2)(w:B3)(K:PySem.W.Frag)(mg:Str->Option BZ)(base:B4)(k:Nat)(x:Str)(f:B5)(fd:CW)(ps:List Str)(m:Nat)(fn:List W->M W):Prop where
 ok:FnOk P w K mg base CX0 k f fd ps (G5 K mg m fn)
 bi:Binds K fd ps []
 kp:BW K (.ref f)=true
 mg:mg x=some (.ref f)
end
def arW (n:Nat)(f:List W->M W)(ws:List W):M W:=if ws.length=n then f ws else no
section
variable {X:Cx}{p pos:Ct}{e:Expr}{es:List Expr}{l:Dl->M (List W)}{f:List W->M W}{k:Nat}{fA:B5}{fd:CW}{ps:List Str}{x:Str}
theorem yL {m:Nat}(C:CG X.prog X.w X.K X.mg X.base k x fA fd ps m f)(hr:Room k X.A)(ha:JA X E0 (e::es) l)(hg:Gl X x:=by rfl)
  (hdb:(x==("__debug__":Str))=false:=by decide)(he:Cv (e::es) X.env=(false,Cp e X.env)::Cv es X.env:=by rfl)(hpl:(Cu pos (Cv es X.env)).any (·.1)=false:=by rfl):
  JE X E0 (.Call (.Name x p) (e::es) [] pos) (EW (arW m f) l):=(dc C.ok hr hg C.mg C.kp C.bi .nil FY ha.h hdb he hpl).imp fun σ H Q h=>by
 obtain⟨o,ρ,rfl,R,S,h⟩:=h
 refine⟨o,ρ,rfl,R,S,Ps.bd h fun p x vx e1 R1 r1 h1=>?_⟩
 unfold arW at h1
 by_cases z:x.length=m
 ·rw[if_pos z] at h1
  exact⟨p,x,rfl,z,R1,by rw[zZ];exact r1,h1⟩
 ·rw[if_neg z] at h1
  exact h1.elim
end
section
variable {X:Cx}{E:XK}{p pos:Ct}
noncomputable def DN (z:Str):List W:=z.cps.toList.map fun c=>.str ⟨#[c]⟩
def Ha (w:W):M Sr:=match w with
 |.str z=>pr ⟨DN z,fun _=>True⟩
 |_=>no
theorem w6 {tg l:Expr}{fl:Dl->M W}(hl:JE X E l fl):JI X E tg l (Fb fl Ha):=(oq hl.h).imp fun σ H Q h=>by
 obtain⟨o,ρ,rfl,R,S,h⟩:=h
 refine⟨o,ρ,rfl,R,S,Ps.bd h fun p x vx e1 R1 r1 h1=>?_⟩
 cases x with
 |str z=>
  have ln:(DN z).length=z.cps.size:=by unfold DN;rw[zr];simp
  refine⟨z,Gw.mp r1,h1.pr R1 ⟨fun o X R g=>ln,fun o i w X R g e=>⟨?_,fun x H' y=>?_⟩⟩⟩
  ·have:=(zO.mp e).1
   have this:i<(DN z).length:=this
   rw[ln] at this;exact this
  ·obtain⟨rfl,c,hc,rfl⟩:=y
   have e:(DN z)[i]?=some w:=e
   unfold DN at e
   rw[zG,hc] at e
   cases e
   exact⟨o,rfl,rfl,Ex.refl _,R,Gw.mpr rfl⟩
 |_=>exact h1.elim
noncomputable def Fw (n:Int):List W->List W
 |[]=>[]
 |w::l=>.tup [.int n,w]::Fw (n+1) l
theorem eD: ∀ (l:List W) (n:Int),(Fw n l).length=l.length
 |[],_=>rfl
 |w::l,n=>by rw[Fw,zx,zx,eD l]
theorem gQ: ∀ (l:List W) (n:Int) (i:Nat) (w:W),(Fw n l)[i]?=some w-> ∃x,l[i]?=some x/\w=.tup [.int (n+i),x]
 |[],_,_,_,h=>by simp [Fw] at h
 |x::l,n,0,w,h=>by rw[Fw] at h;cases h;exact⟨x,rfl,by simp⟩
 |x::l,n,i+1,w,h=>by
  rw[Fw,Bm] at h
  obtain⟨y,e1,e2⟩:=gQ l (n+1) i w h
  exact⟨y,by simpa using e1,by rw[e2];congr 3;omega⟩
def DZ (ws:List W):M Sr:=match ws with
 |[w]=>bd (G9 w) fun s=>pr ⟨Fw 0 s.l,s.G⟩
 |_=>no
theorem tm {α β:Type}{r:Wo->α->β->Prop}{o:Wo}{w:W}{v:V}{k:Sr->M α}{Q:β->Hp->Prop}(R:Rel X.K o)(hr:Rv X.K o w v)(h:Ps (cg X E) r o (bd (G9 w) k o.h) Q):
  ∃s a,v=.ref a/\(∃vs,SqL X.K o.H a vs)/\(∀p,Ex o p->Rel X.K p->s.G p.h-> ∃vs,SqL X.K p.H a vs/\Rvs X.K p s.l vs)/\Ps (cg X E) r o (k s o.h) Q:=by
 cases w with
 |tl l=>
  unfold Rv at hr
  obtain⟨a,vs,rfl,s,n,r⟩:=hr
  exact⟨⟨l,fun _=>True⟩,a,rfl,⟨vs,.of s⟩,fun p X _ _=>⟨vs,.of (X.fr a _ s n).1,r.mono R X⟩,h⟩
 |cl l=>
  unfold Rv at hr
  obtain⟨a,vs,rfl,s,r⟩:=hr
  have sq: ∀q,Ex o q->SqL X.K q.H a vs:=fun q X=>by
   rcases s with⟨s,n⟩|s
   ·exact .inl (X.rd s n).1
   ·exact .inr s
  exact⟨⟨l,fun _=>True⟩,a,rfl,⟨vs,sq o (Ex.refl _)⟩,fun p X _ _=>⟨vs,sq p X,r.mono R X⟩,h⟩
 |loc j=>
  unfold Rv at hr
  obtain⟨hj,rfl⟩:=hr
  unfold G9 bd at h
  cases e:o.h[j]? with
  |none=>simp only[e] at h;exact h.elim
  |some b=>
   cases b with
   |lst l=>
    simp only[e] at h
    obtain⟨vs,h1,h2⟩:=R.ob j _ e
    refine⟨⟨l,fun h=>h[j]?=some (.lst l)⟩,_,rfl,⟨vs,.of h1⟩,fun p X Rp g=>?_,h⟩
    obtain⟨vs',h5,h6⟩:=Rp.ob j _ g
    rw[X.mu j hj] at h5
    exact⟨vs',.of h5,h6⟩
   |_=>simp only[e] at h;exact h.elim
 |_=>exact h.elim
theorem uy {a:Expr}{elts:List Expr}{x1}{tpos:Ct}{fl:Dl->M (List W)}(hm:X.mg "enumerate"=none)(ha:JA X E [a] fl)(hg:Gl X "enumerate":=by rfl)(hs:Cv [a] X.env=[(false,Cp a X.env)]:=by rfl):
  JI X E (.Tuple elts x1 tpos) (.Call (.Name "enumerate" p) [a] [] pos) (Fc fl DZ):=(tY hg hm ha.h hs).imp fun σ H Q h=>by
 obtain⟨o,ρ,rfl,R,S,h⟩:=h
 refine⟨o,ρ,rfl,R,S,Ps.bd h fun p x vx e1 R1 r1 h1=>?_⟩
 rcases x with _|⟨w,_|⟨_,_⟩⟩
 ·exact h1.elim
 ·have h1:Ps (cg X E) (fun p s J=>Dv X.K p J s) p (bd (G9 w) (fun s=>pr ⟨Fw 0 s.l,s.G⟩) p.h) Q:=h1
  obtain⟨v,rfl,r⟩:=r1.one
  obtain⟨s,a,rfl,hq,sk,h1⟩:=tm R1 r h1
  refine⟨a,rfl,hq,h1.pr R1 ⟨fun o X R g=>?_,fun o i w X R g e=>?_⟩⟩
  ·obtain⟨vs,k1,k2⟩:=sk o X R g
   exact⟨vs,k1,by rw[k2.len];exact (eD _ _).symm⟩
  ·obtain⟨vs,k1,k2⟩:=sk o X R g
   obtain⟨x,e1,rfl⟩:=gQ _ _ _ _ e
   obtain⟨v,hv,rv⟩:=k2.get e1
   refine⟨⟨vs,v,k1,hv⟩,fun y H' q=>?_⟩
   obtain⟨T,z,hT,rfl,hz,rfl⟩:=q
   have:z=v:=by have:=hz vs k1;rw[hv] at this;exact (Option.some.inj this).symm
   subst this
   refine⟨⟨o.mu,o.h,upd o.H T (.tup [.int i,z])⟩,rfl,rfl,Ex.new hT,R.new hT,Rv.newT R hT (Rvs.cons (Gu.mpr (by simp)) (Rvs.cons rv Rvs.nil))⟩
 ·exact h1.elim
def GH (t:W->Dl->Option Dl)(f:Dl->M W):Dl->M Fl:=fun ρ=>bd (f ρ) fun w=>match t w ρ with
 |some r=>pr (.nx r)
 |none=>no
theorem wV {tg e:Expr}{m:Nat}{gT:TG}{t:W->Dl->Option Dl}{f:Dl->M W}(he:JE X E e f)(hg:PG X tg gT)(ht:Dx X.K m gT t)(hs:swapsWithSole [tg] e pos.line X.env=pure false:=by rfl)(hw:swappedStores [tg] e X.env=pure none:=by rfl)
  (h1:(CH [tg] X.env).map (·.2)=[assign tg X.env]:=by rfl):JS X E (.Assign [tg] e pos) (GH t f):=(v7 he.h hg hs hw h1).imp fun D σ H h=>by
 obtain⟨o,ρ,rfl,R,S,h⟩:=h
 refine⟨o,ρ,rfl,R,S,Ps.bd h fun p x vx e1 R1 r1 h1=>?_⟩
 cases et:t x ρ with
 |none=>rw[et] at h1;exact h1.elim
 |some r=>
  rw[et] at h1
  obtain⟨σ2,k1,k2,_,_⟩:=ht.ok p x vx ρ r σ r1 (S.mono R e1) et
  exact k1 _ (Ps.pr (b:=FlV.nx σ2) h1 R1 ⟨σ2,rfl,k2⟩)
noncomputable def tyN (w:W)(h:List Ob):Option String:=match w with
 |.non=>some "NoneType"
 |.bl _=>some "bool"
 |.int _=>some "int"
 |.str _=>some "str"
 |.tl _=>some "list"
 |.loc k=>match h[k]? with
  |some (.lst _)=>some "list"
  |some (.dic _ _)=>some "dict"
  |_=>none
 |_=>none
noncomputable def isT (t c:String):Bool:=t==c||(t== "bool" && c== "int")
noncomputable def tys:List String:=["int", "str", "bool", "list", "tuple", "dict"]
def Ev (ws:List W):M W:=match ws with
 |[.tup _,.ty c]=>gd (c∈tys) (pr (.bl (isT "tuple" c)))
 |[x,.ty c]=>fun h=>match tyN x h with
  |some t=>if c∈tys then .ok (.bl (isT t c)) h else .bad
  |none=>.bad
 |_=>no
theorem sj {K:PySem.W.Frag}{t c:String}(ht:t∈ "NoneType"::tys)(hc:c∈tys):kitOne K (.type t) (.type c)=some (isT t c):=by
 simp only[tys,zA,zQ,or_false] at ht hc
 rcases ht with rfl|rfl|rfl|rfl|rfl|rfl|rfl<;>rcases hc with rfl|rfl|rfl|rfl|rfl|rfl<;>kernel_rfl
end
end
section
section
variable {X:Cx}{E:XK}{p pos:Ct}{a b:Expr}{l:Dl->M (List W)}
def rIsT (K:PySem.W.Frag):List V->Hp->VK->Prop:=fun xs H Q=> ∃ (a:B5) (ys:List V) (c:String) (k:Bool),xs=[.ref a,.ty c]/\SqT K H a ys/\kitOne K (.type "tuple") (.type c)=some k/\Q (.bl k) H
theorem qF:CallR X (.builtin "isinstance") (rIsT X.K):=by
 intro pins s σ H xs us Q I r h
 obtain⟨a,ys,c,k,rfl,hq,e,q⟩:=h
 obtain⟨u,u',rfl,ru,ru'⟩:=HA r
 cases ru
 cases ru'
 obtain⟨its,rv,⟨o,e1,e2,n,e3⟩,hz⟩:=I.tuple hq
 exact BX PySem.W.kitx_tuple I.kIn ⟨o,e1,e2⟩ e (fun z=>nomatch z) fun tk=>⟨.bl k,H,I.tok tk,rfl,q⟩
theorem qK {o:Wo}{w:W}{v:V}{t:String}(R:Rel X.K o)(h:Rv X.K o w v)(e:tyN w o.h=some t):DA X.K o.H v (.type t)/\t∈ "NoneType"::tys:=by
 cases w with
 |non=>cases e;rw[Gv.mp h];exact⟨.non,by decide⟩
 |bl _=>cases e;rw[Gr.mp h];exact⟨.bl _,by decide⟩
 |int _=>cases e;rw[Gu.mp h];exact⟨.int _,by decide⟩
 |str _=>cases e;rw[Gw.mp h];exact⟨.str _,by decide⟩
 |tl _=>cases e;unfold Rv at h;obtain⟨a,vs,rfl,s,_⟩:=h;exact⟨.lst s,by decide⟩
 |loc k=>
  unfold Rv at h
  obtain⟨_,rfl⟩:=h
  unfold tyN at e
  dsimp only at e
  split at e
  ·rename_i l hl
   cases e
   obtain⟨vs,h1,_⟩:=R.ob k _ hl
   exact⟨.lst h1,by decide⟩
  ·rename_i ks ws hl
   cases e
   obtain⟨vs,h1,_⟩:=R.ob k _ hl
   exact⟨.dK h1,by decide⟩
  ·cases e
 |_=>cases e
theorem xy (hm:X.mg "isinstance"=none)(ha:JA X E [a,b] l)(hg:Gl X "isinstance":=by rfl)(he:Cv [a,b] X.env=(false,Cp a X.env)::Cv [b] X.env:=by rfl)(hpl:(Cu pos (Cv [b] X.env)).any (·.1)=false:=by rfl):JE X E (.Call (.Name "isinstance" p) [a,b] [] pos) (EW Ev l):=
 fZ (DI.or qF) (fun o ws vs Q R rv h=>by
  unfold Ev at h
  split at h
  ·rename_i l c
   obtain⟨v,u,rfl,r1,r2⟩:=rv.two
   obtain⟨hc,h⟩:=h.gd
   unfold Rv at r1
   obtain⟨a,us,rfl,s,r⟩:=r1
   rw[Gx.mp r2]
   exact .inr ⟨a,us,c,_,rfl,s,sj (by decide) hc,h.pr R (Gr.mpr rfl)⟩
  ·rename_i x c _
   obtain⟨v,u,rfl,r1,r2⟩:=rv.two
   dsimp only at h
   cases e:tyN x o.h with
   |none=>rw[e] at h;exact h.elim
   |some t=>
    rw[e] at h
    by_cases hc:c∈tys
    ·simp only[if_pos hc] at h
     obtain⟨ty,hm⟩:=qK R r1 e
     rw[Gx.mp r2]
     exact .inl ⟨v,.ty c,.type c,.type t,_,rfl,rfl,ty,sj hm hc,Ps.pr (c:=cg X E) (r:=Rv X.K) (a:=W.bl (isT t c)) h R (Gr.mpr rfl)⟩
    ·simp only[if_neg hc] at h;exact h.elim
  ·exact h.elim) hg hm PyProof.Rows.boot_isinstance ha (he:=he) (hpl:=hpl)
theorem yC {x:Str}{T:String}(hm:X.mg x=none)(hv:Ck x=some (.type T))(hg:Gl X x:=by rfl)(hn:x≠ "__name__":=by decide)(hd:(x==("__debug__":Str))=false:=by decide):JE X E (.Name x pos) (mC (.ty T)):=
 (t6 (v:=.ty T) hg hm hv rfl hn hd).imp fun _ _ _ h=>qQ (fun o=>Gx.mpr rfl) h
end
end
section
section
variable {X:Cx}{E:XK}{p pos:Ct}{a b c:Expr}{fa fb fc:Dl->M W}
def bW (f g:W->W->M W)(fa fb fc:Dl->M W):Dl->M W:=fun ρ=>bd (fa ρ) fun x=>bd (fb ρ) fun y=>bd (f x y) fun z=>bd (asB z) fun k=>if k=true then bd (fc ρ) fun w=>g y w else pr (.bl false)
theorem qR {r r':R2}{f g:W->W->M W}(hf: ∀ (o:Wo) (x y:W) (vx vy:V) (Q:VK),Rel X.K o->Rv X.K o x vx->Rv X.K o y vy->Ps (cg X E) (Rv X.K) o (f x y o.h) Q->r vx vy o.H Q)(hg:OpM X E r' g){σ:St}{H:Hp}{Q:VK}(h:tM (cg X E) (bW f g fa fb fc) σ H Q):qS r r' (tM (cg X E) fa) (tM (cg X E) fb) (tM (cg X E) fc) σ H Q:=by
 obtain⟨o,ρ,rfl,R,S,h⟩:=h
 refine⟨o,ρ,rfl,R,S,Ps.bd h fun p x vx e1 R1 r1 h1=>⟨p,ρ,rfl,R1,S.mono R e1,Ps.bd h1 fun q y vy e2 R2 r2 h2=>hf q x y vx vy _ R2 (r1.mono R1 e2) r2 (Ps.bd h2 fun s z vz e3 R3 r3 h3=>?_)⟩⟩
 obtain⟨k,rfl,rfl,h3⟩:=oN r3 h3
 refine⟨k,rfl,?_⟩
 cases k with
 |false=>exact Ey (h3.pr R3 (Gr.mpr rfl))
 |true=>exact Ez ⟨s,ρ,rfl,R3,((S.mono R e1).mono R1 e2).mono R2 e3,Ps.bd h3 fun u w vw e4 R4 r4 h4=>hg u y w vy vw Q R4 ((r2.mono R2 e3).mono R3 e4) r4 h4⟩
theorem rW {op op':CmpOp}{r r':R2}{f g:W->W->M W}(ho:OpR X (Cz op) r)(hf:OpM X E r f)(ho':OpR X (Cz op') r')(hg:OpM X E r' g)(ha:JE X E a fa)(hb:JE X E b fb)(hc:JE X E c fc)
 (hm:lastMarks [op,op'] [b,c]=false:=by with_unfolding_all rfl):JT X E (.Compare a [op,op'] [b,c] pos) (mB (bW f g fa fb fc)):=(rm ho ho' ha.h hb.h hc.h hm).imp fun _ _ _ h=>qR hf hg (vS h)
end
section
variable {es:List Expr}{env:Env}{pos:Ct}
theorem wQ:(Cu pos (Cv [] env)).any (·.1)=false:=by rfl
theorem uh {e:Expr}(hs:Cv (e::es) env=(false,Cp e env)::Cv es env)(h:(Cu pos (Cv es env)).any (·.1)=false):(Cu pos (Cv (e::es) env)).any (·.1)=false:=by
 rw[hs]
 show ((false||(Cu pos (Cv es env)).any (·.1)):Bool)=false
 rw[h];rfl
end
section
variable {P:B2}{w:B3}{K:PySem.W.Frag}{mg:Str->Option BZ}{base:B4}{x:Str}{f:B5}{fd:CW}{ps:List Str}{k:Nat}{sp:Sp}{fn:List W->M W}
theorem sE (F:FnOk P w K mg base (CXx P w) k f fd ps sp){sp':Sp}(h:∀vs H Q E,sp' vs H Q E->sp vs H Q E0):FnOk P w K mg base CX0 k f fd ps sp':=
 ⟨fun vs H Q E q=>F.len vs H Q E0 (h _ _ _ _ q),fun A outer s H args us vs Q E hr he hb hv hs=>CY (F.run A outer s H args us vs Q E0 hr he hb hv (h _ _ _ _ hs)) fun r s' q=>by
  cases r with
  |ok fl=>cases fl<;>exact q
  |error e=>
   obtain⟨_,_,_,_,_,_,_,_,_,_,_,_,_,_,z⟩:=q
   exact z.elim⟩
theorem ml {o:Wo}{ws:List W}{Q:VK}{wv:W}{v:V}{H':Hp}(R:Rel K o)(g:Same o.H H')(hv:Rv K ⟨o.mu,o.h,H'⟩ wv v)(h:Ps ⟨K,mg,E0⟩ (Rv K) o (pr wv o.h) Q):Q v H':=
 Ps.at (p:=⟨o.mu,o.h,H'⟩) h rfl (Ex.same g) (R.same g) hv
end
end
section
section
variable {X:Cx}{E:XK}{p pos:Ct}{a b:Expr}{l:Dl->M (List W)}{CF:B5}{raised:List Str}
variable {x n f:Str}{e b0:Expr}{es:List Expr}{s0:Cw}{suite:List Cw}{np hpos tpos epos:Ct}{fn:List W->M W}{g:Dl->M Fl}{k i m:Nat}{fA:B5}{fd:CW}{ps:List Str}
def DL (fa fb:Dl->M W):Dl->M (List W):=fun ρ=>bd (fa ρ) fun x=>bd (fb ρ) fun y=>bd (ES x) fun a=>bd (ES y) fun b=>gd (a.length+b.length<=sizeLine) (pr (a++b))
theorem xc {fa fb:Dl->M W}(ha:JE X E a fa)(hb:JE X E b fb):JF X E (.BinOp a .Add b pos) (DL fa fb):=(o4 rJ ha.h hb.h).impF fun σ H Q h=>by
 obtain⟨o,ρ,rfl,R,S,h⟩:=h
 refine⟨o,ρ,rfl,R,S,Ps.bd h fun p x vx e1 R1 r1 h1=>⟨p,ρ,rfl,R1,S.mono R e1,Ps.bd h1 fun q y vy e2 R2 r2 h2=>?_⟩⟩
 obtain⟨l,a,vs,rfl,s1,r3,h3⟩:=dP R2 (r1.mono R1 e2) h2
 obtain⟨m,b,us,rfl,s2,r4,h4⟩:=dP R2 r2 h3
 obtain⟨hz,h4⟩:=h4.gd
 exact⟨a,b,vs,us,rfl,rfl,s1,s2,by rw[r3.len,r4.len];exact hz,h4.pr R2 (r3.app r4)⟩
end
end
end L2
namespace L2
open PySem
theorem dD {α β:Type}{f:M α}{g:α->M β}{h h':List Ob}{a:α}(e:f h=.ok a h'):bd f g h=g a h':=by unfold bd;rw[e]
@[simp] theorem bd_pr {α β:Type}(a:α)(g:α->M β):bd (pr a) g=g a:=rfl
@[simp] theorem bd_no {α β:Type}(g:α->M β):bd (no:M α) g=no:=rfl
theorem af {α:Type}{p:Prop} [Decidable p] {m:M α}(hp:p):gd p m=m:=by funext h;unfold gd;rw[if_pos hp]
@[simp] theorem addW_int (i j:Int):DC (.int i) (.int j)=pr (.int (i+j)):=rfl
theorem sV {a b:Str}(h:a.length+b.length<=sizeLine):DC (.str a) (.str b)=pr (.str (a++b)):=by unfold DC;exact af h
@[simp] theorem subW_int (i j:Int):Hi (.int i) (.int j)=pr (.int (i - j)):=af trivial
theorem eE {i j:Int}(h:Dc i j):Fm (.int i) (.int j)=pr (.int (i * j)):=by unfold Fm;exact af h
theorem ly {i j:Int}(h1: -(2 ^ 64)<i)(h2:i<2 ^ 64):Dc i j:=.inl (.inl ⟨h1,h2⟩)
theorem rT {i j:Int}(h1: -(2 ^ 64)<j)(h2:j<2 ^ 64):Dc i j:=.inl (.inr ⟨h1,h2⟩)
theorem aB {i j:Int}(h1:0<j)(h2:j<2 ^ 200):D5 (.int i) (.int j)=pr (.int (i / j)):=af ⟨h1,h2⟩
theorem aj {i j:Int}(h1:0<j):Fj (.int i) (.int j)=pr (.int (i % j)):=af h1
theorem jm {i j:Int}(h:De i j):Gb (.int i) (.int j)=pr (.int (i ^ j.toNat)):=af h
theorem qZ {i j:Int}(h:0<=j):GU (.int i) (.int j)=pr (.int (i / 2 ^ j.toNat)):=af h
@[simp] theorem ltW_int (i j:Int):ltW (.int i) (.int j)=pr (.bl (decide (i<j))):=af trivial
@[simp] theorem leW_int (i j:Int):leW (.int i) (.int j)=pr (.bl (decide (i<=j))):=af trivial
@[simp] theorem gtW_int (i j:Int):gtW (.int i) (.int j)=pr (.bl (decide (j<i))):=af trivial
@[simp] theorem geW_int (i j:Int):geW (.int i) (.int j)=pr (.bl (decide (j<=i))):=af trivial
@[simp] theorem asB_bl (b:Bool):asB (.bl b)=pr b:=rfl
@[simp] theorem eqW_int (i j:Int):eqW (.int i) (.int j)=pr (.bl (decide (i=j))):=by
  funext h
  show Rs.ok (W.bl (decide (V.int i=V.int j))) h=Rs.ok (W.bl (decide (i=j))) h
  congr 2
  rw[decide_eq_decide]
  exact⟨V.int.inj,congrArg _⟩
@[simp] theorem eqW_str (i j:Str):eqW (.str i) (.str j)=pr (.bl (decide (i=j))):=by
  funext h
  show Rs.ok (W.bl (decide (V.str i=V.str j))) h=Rs.ok (W.bl (decide (i=j))) h
  congr 2
  rw[decide_eq_decide]
  exact⟨V.str.inj,congrArg _⟩
@[simp] theorem neW_int (i j:Int):neW (.int i) (.int j)=pr (.bl (!decide (i=j))):=by
  funext h
  show Rs.ok (W.bl (!decide (V.int i=V.int j))) h=Rs.ok (W.bl (!decide (i=j))) h
  congr 3
  rw[decide_eq_decide]
  exact⟨V.int.inj,congrArg _⟩
@[simp] theorem neW_str (i j:Str):neW (.str i) (.str j)=pr (.bl (!decide (i=j))):=by
  funext h
  show Rs.ok (W.bl (!decide (V.str i=V.str j))) h=Rs.ok (W.bl (!decide (i=j))) h
  congr 3
  rw[decide_eq_decide]
  exact⟨V.str.inj,congrArg _⟩
@[simp] theorem neW_bl (i j:Bool):neW (.bl i) (.bl j)=pr (.bl (!decide (i=j))):=by
  funext h
  show Rs.ok (W.bl (!decide (V.bl i=V.bl j))) h=Rs.ok (W.bl (!decide (i=j))) h
  congr 3
  rw[decide_eq_decide]
  exact⟨V.bl.inj,congrArg _⟩
theorem bt {l:List W}{i:Int}{w:W}(h:atI l i=some w):ixW (.tl l) (.int i)=pr w:=by
 funext hh
 unfold ixW
 have:ixO (.tl l) (.int i) hh=some w:=h
 rw[this];rfl
theorem gg {l:List W}{i:Int}{w:W}(h:atI l i=some w):ixW (.tup l) (.int i)=pr w:=by
 funext hh
 unfold ixW
 have:ixO (.tup l) (.int i) hh=some w:=h
 rw[this];rfl
theorem eR {z:Str}{i:Int}{c:Nat}(hz:z.length<=sizeLine)(h:atI z.cps.toList i=some c):ixW (.str z) (.int i)=pr (.str ⟨#[c]⟩):=by
 funext hh
 unfold ixW
 have:ixO (.str z) (.int i) hh=some (.str ⟨#[c]⟩):=by
  show (if z.length<=sizeLine then (atI z.cps.toList i).map fun c=>W.str ⟨#[c]⟩ else none)=_
  rw[if_pos hz,h];rfl
 rw[this];rfl
theorem kN {z:Str}{lo hi:Option Int}(hz:z.length<=sizeLine):slW (.str z) lo hi=pr (.str (StrLaws.sliceText z lo hi)):=af hz
@[simp] theorem slW_tl (l:List W)(lo hi:Option Int):slW (.tl l) lo hi=pr (.tl (DS l lo hi)):=rfl
@[simp] theorem slW_cl (l:List W)(lo hi:Option Int):slW (.cl l) lo hi=pr (.tl (DS l lo hi)):=rfl
@[simp] theorem lenW_tl (l:List W):EQ [.tl l]=pr (.int l.length):=rfl
@[simp] theorem lenW_tup (l:List W):EQ [.tup l]=pr (.int l.length):=rfl
theorem sh {z:Str}(hz:z.length<=sizeLine):EQ [.str z]=pr (.int z.length):=af hz
theorem sU {n:Nat}{f:List W->M W}{ws:List W}(h:ws.length=n):arW n f ws=f ws:=if_pos h
theorem l9 {i:Int}(h:i.natAbs.log2<1920):Hh [.int i]=pr (.str (toString i)):=af h
theorem aE {α:Type}{xs:List α}{i:Int}{v:α}(h0:0<=i)(h:xs[i.toNat]?=some v):atI xs i=some v:=by
 have q:=i6 h
 have e:((i.toNat:Nat):Int)=i:=by omega
 rw[e] at q;exact q
def D6:Fl->M W:=fun x=>match x with
 |.rt w=>pr w
 |.nx _=>pr .non
 |_=>no
theorem gdn0 {α:Type}(m:M α):gd (0<=sizeLine) m=m:=af (by decide)
theorem gdn1 {α:Type}(m:M α):gd (0+1<=sizeLine) m=m:=af (by decide)
theorem gdn2 {α:Type}(m:M α):gd (0+1+1<=sizeLine) m=m:=af (by decide)
theorem gdn3 {α:Type}(m:M α):gd (0+1+1+1<=sizeLine) m=m:=af (by decide)
theorem gdn4 {α:Type}(m:M α):gd (0+1+1+1+1<=sizeLine) m=m:=af (by decide)
theorem gdn5 {α:Type}(m:M α):gd (0+1+1+1+1+1<=sizeLine) m=m:=af (by decide)
theorem gdn6 {α:Type}(m:M α):gd (0+1+1+1+1+1+1<=sizeLine) m=m:=af (by decide)
theorem gdn7 {α:Type}(m:M α):gd (0+1+1+1+1+1+1+1<=sizeLine) m=m:=af (by decide)
theorem gdn8 {α:Type}(m:M α):gd (0+1+1+1+1+1+1+1+1<=sizeLine) m=m:=af (by decide)
theorem gdn9 {α:Type}(m:M α):gd (0+1+1+1+1+1+1+1+1+1<=sizeLine) m=m:=af (by decide)
theorem gdn10 {α:Type}(m:M α):gd (0+1+1+1+1+1+1+1+1+1+1<=sizeLine) m=m:=af (by decide)
theorem gdn11 {α:Type}(m:M α):gd (0+1+1+1+1+1+1+1+1+1+1+1<=sizeLine) m=m:=af (by decide)
theorem gdn12 {α:Type}(m:M α):gd (0+1+1+1+1+1+1+1+1+1+1+1+1<=sizeLine) m=m:=af (by decide)
theorem gdn13 {α:Type}(m:M α):gd (0+1+1+1+1+1+1+1+1+1+1+1+1+1<=sizeLine) m=m:=af (by decide)
theorem gdn14 {α:Type}(m:M α):gd (0+1+1+1+1+1+1+1+1+1+1+1+1+1+1<=sizeLine) m=m:=af (by decide)
theorem gdn15 {α:Type}(m:M α):gd (0+1+1+1+1+1+1+1+1+1+1+1+1+1+1+1<=sizeLine) m=m:=af (by decide)
theorem gdn16 {α:Type}(m:M α):gd (0+1+1+1+1+1+1+1+1+1+1+1+1+1+1+1+1<=sizeLine) m=m:=af (by decide)
theorem gdn17 {α:Type}(m:M α):gd (0+1+1+1+1+1+1+1+1+1+1+1+1+1+1+1+1+1<=sizeLine) m=m:=af (by decide)
theorem gdn18 {α:Type}(m:M α):gd (0+1+1+1+1+1+1+1+1+1+1+1+1+1+1+1+1+1+1<=sizeLine) m=m:=af (by decide)
theorem gdn19 {α:Type}(m:M α):gd (0+1+1+1+1+1+1+1+1+1+1+1+1+1+1+1+1+1+1+1<=sizeLine) m=m:=af (by decide)
theorem gdn20 {α:Type}(m:M α):gd (0+1+1+1+1+1+1+1+1+1+1+1+1+1+1+1+1+1+1+1+1<=sizeLine) m=m:=af (by decide)
theorem gdn21 {α:Type}(m:M α):gd (0+1+1+1+1+1+1+1+1+1+1+1+1+1+1+1+1+1+1+1+1+1<=sizeLine) m=m:=af (by decide)
theorem gdn22 {α:Type}(m:M α):gd (0+1+1+1+1+1+1+1+1+1+1+1+1+1+1+1+1+1+1+1+1+1+1<=sizeLine) m=m:=af (by decide)
theorem gdn23 {α:Type}(m:M α):gd (0+1+1+1+1+1+1+1+1+1+1+1+1+1+1+1+1+1+1+1+1+1+1+1<=sizeLine) m=m:=af (by decide)
theorem gdn24 {α:Type}(m:M α):gd (0+1+1+1+1+1+1+1+1+1+1+1+1+1+1+1+1+1+1+1+1+1+1+1+1<=sizeLine) m=m:=af (by decide)
theorem dQ {α:Type}{m:M α}{inst:Decidable (true=true)}: @gd α (true=true) inst m=m:= @af α (true=true) inst m rfl
theorem aZ {src:Dl->M Sr}{t:W->Dl->Option Dl}{f:Dl->M Bool}{e:Dl->M W}{n:Nat}{ρ:Dl}:EX [] src t f e n ρ=bd (src ρ) fun s=>gd (s.l.length<=sizeLine) (DP s.G t f e n s.l ρ):=by unfold EX;exact af rfl
section
theorem nv {t:W->Dl->Option Dl}{f:Dl->M Bool}{e:Dl->M W}{n:Nat}{ρ:Dl}{b:W->Bool}{v:W->W}: ∀ {l:List W},(∀w∈l,∃r,t w (List.replicate n none++ρ)=some r/\f r=pr (b w)/\(b w=true->e r=pr (v w)))->DP (fun _=>True) t f e n l ρ=pr ((l.filter b).map v)
 |[],_=>by unfold DP;rw[mV];rfl
 |w::l,h=>by
  obtain⟨r,h1,h2,h3⟩:=h w zB
  have ih:=nv (l:=l) fun x hx=>h x (zK _ hx)
  unfold DP
  rw[mV,h1]
  dsimp only
  rw[h2,bd_pr]
  by_cases hb:b w=true
  ·rw[if_pos hb,h3 hb,bd_pr,ih,bd_pr,AR hb];rfl
  ·rw[if_neg hb,ih,AS hb]
theorem gO {α:Type}{f:W->Option α}{g:α->W}(hf: ∀a,f (g a)=some a): ∀l:List α,FV f (l.map g)=some l
 |[]=>rfl
 |a::l=>by
  show (match f (g a),FV f (l.map g) with
   |some b,some r=>some (b::r)
   |_,_=>none)=_
  rw[hf,gO hf l]
theorem eA {α:Type}{g:α->W}{k:α->V}(hf: ∀a,vOf (g a)=some (k a)): ∀l:List α,HB (l.map g)=some (l.map k)
 |[]=>rfl
 |a::l=>by
  show (match vOf (g a),HB (l.map g) with
   |some v,some vs=>some (v::vs)
   |_,_=>none)=_
  rw[hf,eA hf l];rfl
theorem g0 {sep:Str}{ts:List Str}(h:(ts.map (·.length)).sum+ts.length * sep.length<=sizeLine):EE (.str sep) [.tl (ts.map W.str)]=pr (.str (Str.join sep ts)):=by
 have e:EE (.str sep) [.tl (ts.map W.str)]=(match FV sOf (ts.map W.str) with
  |some (ts:List Str)=>gd ((ts.map (fun z:Str=>z.length)).sum+ts.length * sep.length<=sizeLine) (pr (W.str (Str.join sep ts)))
  |none=>no):=rfl
 rw[e,gO (f:=sOf) (g:=W.str) (fun a=>rfl)]
 exact af h
theorem qB {l m:List W}{ds es:List C9}{h:List Ob}(h1:FV (DV h 49) l=some ds)(h2:FV (DV h 49) m=some es)(c1:C9.canLayAll0 ds=true)(c2:C9.canLayAll0 es=true):eqB (.tl l) (.tl m) h=some (C9.eqvAll ds es):=by
 show (match (FV (DV h 49) l).map C9.list,(FV (DV h 49) m).map C9.list with
  |some d,some e=>if d.canLay0=true/\e.canLay0=true then some (C9.eqv d e) else none
  |_,_=>none)=_
 rw[h1,h2]
 show (if (C9.list ds).canLay0=true/\(C9.list es).canLay0=true then some (C9.eqv (.list ds) (.list es)) else none)=_
 rw[if_pos ⟨by rw[C9.canLay0];exact c1,by rw[C9.canLay0];exact c2⟩,C9.eqv]
theorem xP {x y:W}{b:Bool}(h:∀h,eqB x y h=some b):eqW x y=pr (.bl b):=by funext hh;unfold eqW;rw[h];rfl
mutual
theorem ng: ∀d:C9,d.canLay0=true->C9.eqv d d=true
 |.none,_=>by rw[C9.eqv]
 |.bool b,_=>by rw[C9.eqv];simp
 |.int b,_=>by rw[C9.eqv];simp
 |.str b,_=>by rw[C9.eqv];simp
 |.list l,h=>by rw[C9.eqv];exact dZ l (by rw[C9.canLay0] at h;exact h)
 |.tuple l,h=>by rw[C9.eqv];exact dZ l (by rw[C9.canLay0] at h;exact h)
 |.dict l,h=>by rw[C9.canLay0] at h;cases h
theorem dZ: ∀l:List C9,C9.canLayAll0 l=true->C9.eqvAll l l=true
 |[],_=>by rw[C9.eqvAll]
 |d::l,h=>by
  rw[C9.canLayAll0,zI] at h
  rw[C9.eqvAll,ng d h.1,dZ l h.2];rfl
end
theorem dk (a b:Str):(a++b).cps.toList=a.cps.toList++b.cps.toList:=by
 show (a.cps++b.cps).toList=_
 rw[BH]
theorem jx {x:Str}{ss:List Str}:b7 (.str x) (.tl (ss.map W.str))=pr (.bl (!decide (x∈ss))):=by
 funext h
 unfold b7
 have e:inB (.str x) (.tl (ss.map W.str)) h=some (decide (x∈ss)):=by
  show (match vOf (.str x),HB (ss.map W.str) with
   |some v,some vs=>some (inV v vs)
   |_,_=>none)=_
  rw[eA (k:=V.str) (fun a=>rfl)]
  show some (inV (.str x) (ss.map V.str))=_
  congr 1
  unfold inV
  rw[Ao,Bo,decide_eq_true_eq]
  constructor
  ·rintro⟨v,hv,q⟩
   obtain⟨y,hy,rfl⟩:=zE.mp hv
   have:y=x:=by simpa [eqV] using q
   subst this;exact hy
  ·intro q
   exact⟨.str x,zE.mpr ⟨x,q,rfl⟩,by simp [eqV]⟩
 rw[e];rfl
end
end L2
namespace L2
open PySem PySem.Spec PyProof.Rows
section
variable {X:Cx}{E:XK}{p pos:Ct}
variable {o e:Expr}{apos cpos:Ct}{fo:Dl->M W}{l:Dl->M (List W)}
end
end L2
namespace L2
open PySem
theorem cq {α β:Type}(a:α)(g:α->M β):bd (pr a) g=g a:=funext fun h=>dD (f:=pr a) (a:=a) (h:=h) (h':=h) rfl
def Ok {α:Type}(m:M α)(h:List Ob)(Q:α->List Ob->Prop):Prop:= ∃a h',m h=.ok a h'/\Q a h'
section
variable {α β:Type}{m:M α}{k:α->M β}{h h':List Ob}{a:α}
theorem Ok.imp {P Q:α->List Ob->Prop}(p:Ok m h P)(q:∀a h',P a h'->Q a h'):Ok m h Q:=let ⟨a,h',e,r⟩:=p;⟨a,h',e,q a h' r⟩
theorem aV {P:α->List Ob->Prop}{Q:β->List Ob->Prop}(p:Ok m h P)(q:∀a h',P a h'->Ok (k a) h' Q):Ok (bd m k) h Q:=by
 obtain⟨a,h',e,r⟩:=p
 obtain⟨b,h2,e2,r2⟩:=q a h' r
 exact⟨b,h2,(dD e).trans e2,r2⟩
theorem bb {Q:β->List Ob->Prop}(e:m h=.ok a h')(q:Ok (k a) h' Q):Ok (bd m k) h Q:=by
 obtain⟨b,h2,e2,r2⟩:=q
 exact⟨b,h2,(dD e).trans e2,r2⟩
theorem ak {Q:α->List Ob->Prop}(q:Q a h):Ok (pr a) h Q:=⟨a,h,rfl,q⟩
end
section
variable {β:Type}{h:List Ob}{Q:β->List Ob->Prop}{j:Nat}{l:List W}
theorem yt {i:Int}{w:W}{k:W->M β}(e:h[j]?=some (.lst l))(e2:atI l i=some w)(q:Ok (k w) h Q):Ok (bd (ixW (.loc j) (.int i)) k) h Q:=by
 refine bb (a:=w) (h':=h) ?_ q
 have d:DW (.loc j) h=none:=by unfold DW;simp only[e]
 have lo:ET (.loc j) h=.ok l h:=by unfold ET;simp only[e]
 have:ixO (.loc j) (.int i) h=some w:=by
  unfold ixO
  simp only[d,lo,e2]
 unfold ixW
 rw[this]
theorem cR {w:W}{k:W->M β}(e:h[j]?=some (.lst l))(z:l.length<sizeLine)(q:Ok (k .non) (h.set j (.lst (l++[w]))) Q):Ok (bd (aU (.loc j) [w]) k) h Q:=by
 refine bb (a:=.non) (h':=h.set j (.lst (l++[w]))) ?_ q
 unfold aU
 simp only[e,if_pos z]
theorem cQ {k:W->M β}(e:h[j]?=some (.lst l))(q:Ok (k (.loc j)) h Q):Ok (bd (isL (.loc j)) k) h Q:=by
 refine bb (a:=.loc j) (h':=h) ?_ q
 unfold isL
 simp only[e]
theorem gC {k:W->M β}(q:Ok (k (.loc h.length)) (h++[.lst l]) Q):Ok (bd (Fp l) k) h Q:=bb (a:=.loc h.length) (h':=h++[.lst l]) rfl q
theorem lj {k:W->M β}(e:h[j]?=some (.lst l))(q:Ok (k (.tl l)) (h.set j .gone) Q):Ok (bd (Eh (.loc j)) k) h Q:=by
 refine bb (a:=.tl l) (h':=h.set j .gone) ?_ q
 unfold Eh
 simp only[e]
theorem lh {k:Sr->M β}(e:h[j]?=some (.lst l))(q:Ok (k ⟨l,fun h=>h[j]?=some (.lst l)⟩) h Q):Ok (bd (G9 (.loc j)) k) h Q:=by
 refine bb (a:=⟨l,fun h=>h[j]?=some (.lst l)⟩) (h':=h) ?_ q
 unfold G9
 simp only[e]
noncomputable def Lw (h:List Ob)(x:W)(l:List W):Prop:=x=.tl l\/ ∃j,x=.loc j/\h[j]?=some (.lst l)
theorem Lw.of {x:W}(p:Lw h x l):ET x h=.ok l h:=by
 rcases p with rfl|⟨j,rfl,e⟩
 ·rfl
 ·unfold ET;simp only[e]
theorem Lw.len {x:W}{k:W->M β}(p:Lw h x l)(q:Ok (k (.int l.length)) h Q):Ok (bd (EQ [x]) k) h Q:=by
 refine bb (a:=.int l.length) (h':=h) ?_ q
 have e:=p.of
 rcases p with rfl|⟨j,rfl,_⟩
 ·rfl
 ·show bd (ET (.loc j)) (fun l=>pr (W.int l.length)) h=_
  rw[dD e];rfl
end
theorem g8 {x:Str}{ss:List Str}:inV (.str x) (ss.map V.str)=decide (x∈ss):=by
 unfold inV
 rw[Ao,Bo,decide_eq_true_eq]
 constructor
 ·rintro⟨v,hv,q⟩
  obtain⟨y,hy,rfl⟩:=zE.mp hv
  have:y=x:=by simpa [eqV] using q
  subst this;exact hy
 ·intro q
  exact⟨.str x,zE.mpr ⟨x,q,rfl⟩,by simp [eqV]⟩
theorem iY {x:Str}{ss:List Str}:inW (.str x) (.tl (ss.map W.str))=pr (.bl (decide (x∈ss))):=by
 funext h
 unfold inW
 have e:inB (.str x) (.tl (ss.map W.str)) h=some (decide (x∈ss)):=by
  show (match vOf (.str x),HB (ss.map W.str) with
   |some v,some vs=>some (inV v vs)
   |_,_=>none)=_
  rw[eA (k:=V.str) (fun a=>rfl)]
  show some (inV (.str x) (ss.map V.str))=_
  rw[g8]
 rw[e];rfl
theorem vm {β:Type}{h:List Ob}{Q:β->List Ob->Prop}{j:Nat}{x:Str}{ss:List Str}{k:W->M β}(e:h[j]?=some (.lst (ss.map W.str)))(q:Ok (k (.bl (decide (x∈ss)))) h Q):Ok (bd (inW (.str x) (.loc j)) k) h Q:=by
 refine bb (a:=.bl (decide (x∈ss))) (h':=h) ?_ q
 unfold inW
 have d:DW (.loc j) h=none:=by unfold DW;simp only[e]
 have lo:ET (.loc j) h=.ok (ss.map W.str) h:=by unfold ET;simp only[e]
 have e:inB (.str x) (.loc j) h=some (decide (x∈ss)):=by
  unfold inB
  simp only[d,lo,eA (g:=W.str) (k:=V.str) (fun a=>rfl) ss]
  show some (inV (.str x) (ss.map V.str))=_
  rw[g8]
 rw[e]
theorem fX {i:Int}(h0: -(2 ^ 62)<=i)(h1:i<2 ^ 62):Gn [.int i]=pr ⟨El 0 i.toNat,fun _=>True⟩:=af ⟨h0,h1⟩
theorem sD {G:List Ob->Prop}{t:W->Dl->Option Dl}{g:Dl->M Fl}(I:Nat->Dl->List Ob->Prop)(l:List W)(hG: ∀i ρ h,I i ρ h->G h)
  (hs: ∀i w ρ h,l[i]?=some w->I i ρ h-> ∃r,t w ρ=some r/\Ok (g r) h fun x h'=> ∃r',x=.nx r'/\I (i+1) r' h'):
  ∀ (m:List W) (n:Nat) (ρ:Dl) (h:List Ob),l.drop n=m->n<=l.length->I n ρ h->Ok (Eb G t g m ρ) h fun x h'=> ∃r',x=.nx r'/\I l.length r' h'
 |[],n,ρ,h,e,hn,i=>by
  have:l.length<=n:=AT.mp e
  have hn:n=l.length:=by omega
  subst hn
  refine⟨.nx ρ,h,?_,ρ,rfl,i⟩
  unfold Eb
  rw[df (hG _ _ _ i)];rfl
 |w::m,n,ρ,h,e,hn,i=>by
  have hw:l[n]?=some w:=by
   have:=congrArg AU e
   rw[AV,AW] at this
   exact this
  have hl:n<l.length:=(zO.mp hw).1
  have em:l.drop (n+1)=m:=by rw[<-AX,e];rfl
  obtain⟨r,e1,x,h',e2,r',rfl,i'⟩:=hs n w ρ h hw i
  obtain⟨y,h2,e3,q⟩:=sD I l hG hs m (n+1) r' h' em hl i'
  refine⟨y,h2,?_,q⟩
  unfold Eb
  rw[df (hG _ _ _ i),e1]
  dsimp only
  rw[dD e2]
  exact e3
theorem fY {β:Type}{G:List Ob->Prop}{t:W->Dl->Option Dl}{g:Dl->M Fl}{l:List W}{ρ:Dl}{h:List Ob}{k:Fl->M β}{Q:β->List Ob->Prop}(I:Nat->Dl->List Ob->Prop)(h0:I 0 ρ h)(hG: ∀i ρ h,I i ρ h->G h)
  (hs: ∀i w ρ h,l[i]?=some w->I i ρ h-> ∃r,t w ρ=some r/\Ok (g r) h fun x h'=> ∃r',x=.nx r'/\I (i+1) r' h')(hd: ∀ρ h,I l.length ρ h->Ok (k (.nx ρ)) h Q):Ok (bd (Eb G t g l ρ) k) h Q:=
 aV (sD I l hG hs l 0 ρ h rfl (zL _) h0) fun x h' ⟨r',e,i⟩=>by subst e;exact hd r' h' i
theorem pJ {G:List Ob->Prop}{t:W->Dl->Option Dl}{f:Dl->M Bool}{g:Dl->M W}{c:Nat}{ρ:Dl}(I:Nat->List W->List Ob->Prop)(l:List W)(hf: ∀r,f r=pr true)(hG: ∀i a h,I i a h->G h)
  (hs: ∀i w a h,l[i]?=some w->I i a h-> ∃r,t w (List.replicate c none++ρ)=some r/\Ok (g r) h fun v h'=>I (i+1) (a++[v]) h'):
  ∀ (m:List W) (n:Nat) (a:List W) (h:List Ob),l.drop n=m->n<=l.length->I n a h->Ok (DP G t f g c m ρ) h fun r h'=>I l.length (a++r) h'
 |[],n,a,h,e,hn,i=>by
  have:l.length<=n:=AT.mp e
  have hn:n=l.length:=by omega
  subst hn
  refine⟨[],h,?_,by show I l.length (a++[]) h;rw[zZ];exact i⟩
  unfold DP
  rw[df (hG _ _ _ i)];rfl
 |w::m,n,a,h,e,hn,i=>by
  have hw:l[n]?=some w:=by
   have:=congrArg AU e
   rw[AV,AW] at this
   exact this
  have hl:n<l.length:=(zO.mp hw).1
  have em:l.drop (n+1)=m:=by rw[<-AX,e];rfl
  obtain⟨r,e1,v,h',e2,i'⟩:=hs n w a h hw i
  obtain⟨y,h2,e3,q⟩:=pJ I l hf hG hs m (n+1) (a++[v]) h' em hl i'
  refine⟨v::y,h2,?_,by show I l.length (a++v::y) h2;have q:I l.length (a++[v]++y) h2:=q;rw[zV] at q;exact q⟩
  unfold DP
  rw[df (hG _ _ _ i),e1]
  dsimp only
  rw[hf,bd_pr,if_pos rfl,dD e2,dD e3];rfl
theorem cx {β:Type}{G:List Ob->Prop}{t:W->Dl->Option Dl}{f:Dl->M Bool}{g:Dl->M W}{c:Nat}{ρ:Dl}{l:List W}{h:List Ob}{k:List W->M β}{Q:β->List Ob->Prop}(I:Nat->List W->List Ob->Prop)(h0:I 0 [] h)(hf: ∀r,f r=pr true)(hG: ∀i a h,I i a h->G h)
  (hs: ∀i w a h,l[i]?=some w->I i a h-> ∃r,t w (List.replicate c none++ρ)=some r/\Ok (g r) h fun v h'=>I (i+1) (a++[v]) h')(hd: ∀a h,I l.length a h->Ok (k a) h Q):Ok (bd (DP G t f g c l ρ) k) h Q:=
 aV (pJ I l hf hG hs l 0 [] h rfl (zL _) h0) fun r h' i=>hd r h' i
theorem dy (r:Dl):Fg r=pr true:=rfl
structure Fr (j:Nat)(h h':List Ob):Prop where
 len:h'.length=h.length
 eq: ∀i,i≠j->h'[i]?=h[i]?
theorem ck {j:Nat}{h:List Ob}{a b:Ob}(e:h[j]?=some a):(h.set j b)[j]?=some b:=by
 rw[Az (zO.mp e).1]
theorem cC {j:Nat}{h:List Ob}{a:Ob}(e:h[j]?=some a):j<h.length:=(zO.mp e).1
theorem lI {j:Nat}{h r:List Ob}{a:Ob}(e:h[j]?=some a):(h++r)[j]?=some a:=by
 rw[Aa (cC e)];exact e
theorem gh {h:List Ob}{a:Ob}:(h++[a])[h.length]?=some a:=by simp
theorem least {p:Nat->Prop}: ∀ {n:Nat},(∃r,r<n/\p r)-> ∃r,r<n/\p r/\ ∀j,j<r-> ¬p j
 |0,⟨_,h,_⟩=>absurd h (AK _)
 |n+1,⟨r,h,q⟩=>by
  by_cases z: ∃r,r<n/\p r
  ·obtain⟨r,h1,h2,h3⟩:=least z
   exact⟨r,by omega,h2,h3⟩
  ·have:r=n:=by
    by_cases e:r<n
    ·exact absurd ⟨r,e,q⟩ z
    ·omega
   subst this
   exact⟨r,h,q,fun j hj hp=>z ⟨j,hj,hp⟩⟩
section
theorem sG (l:List W):DZ [.tl l]=pr ⟨Fw 0 l,fun _=>True⟩:=rfl
theorem ix0 (a:W)(l:List W):ixW (.tup (a::l)) (.int 0)=pr a:=gg (aE (by decide) rfl)
theorem ix1 (a b:W)(l:List W):ixW (.tup (a::b::l)) (.int 1)=pr b:=gg (aE (by decide) rfl)
theorem ix2 (a b c:W)(l:List W):ixW (.tup (a::b::c::l)) (.int 2)=pr c:=gg (aE (by decide) rfl)
theorem ix3 (a b c d:W)(l:List W):ixW (.tup (a::b::c::d::l)) (.int 3)=pr d:=gg (aE (by decide) rfl)
theorem ix4 (a b c d e:W)(l:List W):ixW (.tup (a::b::c::d::e::l)) (.int 4)=pr e:=gg (aE (by decide) rfl)
theorem ix5 (a b c d e f:W)(l:List W):ixW (.tup (a::b::c::d::e::f::l)) (.int 5)=pr f:=gg (aE (by decide) rfl)
end
end L2
namespace L2
open PySem PySem.Spec PyProof.Rows
section
variable {X:Cx}{E:XK}{p pos:Ct}
variable {o e:Expr}{apos cpos:Ct}{fo:Dl->M W}{l:Dl->M (List W)}
theorem se {x:Str}{a:B5}{zs:List Str}{pos:Ct}(hm:X.mg x=some (.ref a))(hq: ∀H,SqT X.K H a (zs.map V.str))(hg:Gl X x:=by rfl)(hd:(x==("__debug__":Str))=false:=by decide):JE X E (.Name x pos) (mC (.tup (zs.map W.str))):=
 lA (v:=.ref a) hg hm rfl (fun o=>by
  unfold Rv
  refine⟨a,_,rfl,hq _,?_⟩
  induction zs with
  |nil=>exact Rvs.nil
  |cons z zs ih=>exact Rvs.cons (Gw.mpr rfl) (fW zs)) hd
where
 fW {K:PySem.W.Frag}{o:Wo}: ∀zs:List Str,Rvs K o (zs.map W.str) (zs.map V.str)
  |[]=>Rvs.nil
  |z::zs=>Rvs.cons (Gw.mpr rfl) (fW zs)
end
section
section
variable {X:Cx}{E:XK}{o e e2:Expr}{apos cpos:Ct}{fo:Dl->M W}{l:Dl->M (List W)}
end
theorem pA {G:List Ob->Prop}{t:W->Dl->Option Dl}{g:Dl->M Fl}(I:Nat->Dl->List Ob->Prop)(J:W->List Ob->Prop)(l:List W)(hG: ∀i ρ h,I i ρ h->G h)
  (hs: ∀i w ρ h,l[i]?=some w->I i ρ h-> ∃r,t w ρ=some r/\Ok (g r) h fun x h'=>(∃r',x=.nx r'/\I (i+1) r' h')\/ ∃v,x=.rt v/\J v h'):
  ∀ (m:List W) (n:Nat) (ρ:Dl) (h:List Ob),l.drop n=m->n<=l.length->I n ρ h->Ok (Eb G t g m ρ) h fun x h'=>(∃r',x=.nx r'/\I l.length r' h')\/ ∃v,x=.rt v/\J v h'
 |[],n,ρ,h,e,hn,i=>by
  have:l.length<=n:=AT.mp e
  have hn:n=l.length:=by omega
  subst hn
  refine⟨.nx ρ,h,?_,.inl ⟨ρ,rfl,i⟩⟩
  unfold Eb
  rw[df (hG _ _ _ i)];rfl
 |w::m,n,ρ,h,e,hn,i=>by
  have hw:l[n]?=some w:=by
   have:=congrArg AU e
   rw[AV,AW] at this
   exact this
  have hl:n<l.length:=(zO.mp hw).1
  have em:l.drop (n+1)=m:=by rw[<-AX,e];rfl
  obtain⟨r,e1,x,h',e2,⟨r',rfl,i'⟩|⟨v,rfl,j'⟩⟩:=hs n w ρ h hw i
  ·obtain⟨y,h2,e3,q⟩:=pA I J l hG hs m (n+1) r' h' em hl i'
   refine⟨y,h2,?_,q⟩
   unfold Eb
   rw[df (hG _ _ _ i),e1]
   dsimp only
   rw[dD e2]
   exact e3
  ·refine⟨.rt v,h',?_,.inr ⟨v,rfl,j'⟩⟩
   unfold Eb
   rw[df (hG _ _ _ i),e1]
   dsimp only
   rw[dD e2];rfl
theorem ud {β:Type}{G:List Ob->Prop}{t:W->Dl->Option Dl}{g:Dl->M Fl}{l:List W}{ρ:Dl}{h:List Ob}{k:Fl->M β}{Q:β->List Ob->Prop}(I:Nat->Dl->List Ob->Prop)(J:W->List Ob->Prop)(h0:I 0 ρ h)(hG: ∀i ρ h,I i ρ h->G h)
  (hs: ∀i w ρ h,l[i]?=some w->I i ρ h-> ∃r,t w ρ=some r/\Ok (g r) h fun x h'=>(∃r',x=.nx r'/\I (i+1) r' h')\/ ∃v,x=.rt v/\J v h')(hd: ∀ρ h,I l.length ρ h->Ok (k (.nx ρ)) h Q)(hr: ∀v h,J v h->Ok (k (.rt v)) h Q):Ok (bd (Eb G t g l ρ) k) h Q:=
 aV (pA I J l hG hs l 0 ρ h rfl (zL _) h0) fun x h' q=>by
  rcases q with⟨r',rfl,i⟩|⟨v,rfl,j⟩
  ·exact hd r' h' i
  ·exact hr v h' j
end
section
section
variable {X:Cx}{E:XK}{a b:Expr}{p p2 pos pos2:Ct}
end
end
section
section
variable {X:Cx}{E:XK}
end
theorem jJ {G:List Ob->Prop}{t:W->Dl->Option Dl}{f:Dl->M Bool}{g:Dl->M W}{c:Nat}{ρ:Dl}(I:Nat->List W->List Ob->Prop)(l:List W)(hG: ∀i a h,I i a h->G h)
  (hs: ∀i w a h,l[i]?=some w->I i a h-> ∃r,t w (List.replicate c none++ρ)=some r/\Ok (f r) h fun b h'=>(b=false/\I (i+1) a h')\/(b=true/\Ok (g r) h' fun v h''=>I (i+1) (a++[v]) h'')):
  ∀ (m:List W) (n:Nat) (a:List W) (h:List Ob),l.drop n=m->n<=l.length->I n a h->Ok (DP G t f g c m ρ) h fun r h'=>I l.length (a++r) h'
 |[],n,a,h,e,hn,i=>by
  have:l.length<=n:=AT.mp e
  have hn:n=l.length:=by omega
  subst hn
  refine⟨[],h,?_,by show I l.length (a++[]) h;rw[zZ];exact i⟩
  unfold DP
  rw[df (hG _ _ _ i)];rfl
 |w::m,n,a,h,e,hn,i=>by
  have hw:l[n]?=some w:=by
   have:=congrArg AU e
   rw[AV,AW] at this
   exact this
  have hl:n<l.length:=(zO.mp hw).1
  have em:l.drop (n+1)=m:=by rw[<-AX,e];rfl
  obtain⟨r,e1,b,h',e2,q⟩:=hs n w a h hw i
  rcases q with⟨rfl,i'⟩|⟨rfl,v,h'',e3,i'⟩
  ·obtain⟨y,h2,e3,q⟩:=jJ I l hG hs m (n+1) a h' em hl i'
   refine⟨y,h2,?_,q⟩
   unfold DP
   rw[df (hG _ _ _ i),e1]
   dsimp only
   rw[dD e2,if_neg (by decide)];exact e3
  ·obtain⟨y,h2,e4,q⟩:=jJ I l hG hs m (n+1) (a++[v]) h'' em hl i'
   refine⟨v::y,h2,?_,by show I l.length (a++v::y) h2;have q:I l.length (a++[v]++y) h2:=q;rw[zV] at q;exact q⟩
   unfold DP
   rw[df (hG _ _ _ i),e1]
   dsimp only
   rw[dD e2,if_pos rfl,dD e3,dD e4];rfl
theorem ju {β:Type}{G:List Ob->Prop}{t:W->Dl->Option Dl}{f:Dl->M Bool}{g:Dl->M W}{c:Nat}{ρ:Dl}{l:List W}{h:List Ob}{k:List W->M β}{Q:β->List Ob->Prop}(I:Nat->List W->List Ob->Prop)(h0:I 0 [] h)(hG: ∀i a h,I i a h->G h)
  (hs: ∀i w a h,l[i]?=some w->I i a h-> ∃r,t w (List.replicate c none++ρ)=some r/\Ok (f r) h fun b h'=>(b=false/\I (i+1) a h')\/(b=true/\Ok (g r) h' fun v h''=>I (i+1) (a++[v]) h''))(hd: ∀a h,I l.length a h->Ok (k a) h Q):Ok (bd (DP G t f g c l ρ) k) h Q:=
 aV (jJ I l hG hs l 0 [] h rfl (zL _) h0) fun r h' i=>hd r h' i
section
variable {β:Type}{h:List Ob}{Q:β->List Ob->Prop}{x:W}{l:List W}
end
end
section
noncomputable def ER:List Str->List W->Str->Option W
 |n::ns,w::ws,f=>if f=n then some w else ER ns ws f
 |_,_,_=>none
noncomputable def Gg:List Str->List W->Str->W->List Str×List W
 |n::ns,w::ws,f,y=>if n=f then (n::ns,y::ws) else (n::(Gg ns ws f y).1,w::(Gg ns ws f y).2)
 |_,_,f,y=>([f],[y])
section
variable {K:PySem.W.Frag}{o:Wo}
theorem mL {f:Str}{w:W}: ∀ {fs:List (Str×V)}{ns:List Str}{ws:List W},fs.map (·.1)=ns->Rvs K o ws (fs.map (·.2))->ER ns ws f=some w-> ∃v,fs.lookup f=some v/\Rv K o w v
 |[],_,ws,e,_,h=>by subst e;cases ws<;>cases h
 |(g,x)::fs,_,[],e,r,h=>by subst e;cases h
 |(g,x)::fs,_,y::ws,e,r,h=>by
  subst e
  unfold Rvs at r
  obtain⟨v,t,e2,r1,r2⟩:=r
  cases e2
  have h:(if f=g then some y else ER (fs.map (·.1)) ws f)=some w:=h
  by_cases z:f=g
  ·rw[if_pos z] at h
   cases h
   exact⟨x,by rw[Am,z];simp,r1⟩
  ·rw[if_neg z] at h
   obtain⟨v,e3,r3⟩:=mL rfl r2 h
   refine⟨v,?_,r3⟩
   rw[Am,show (f==g)=false by simpa using z]
   exact e3
theorem mM {f:Str}: ∀ {fs:List (Str×V)},f ∉ fs.map (·.1)->fs.lookup f=none
 |[],_=>rfl
 |(g,x)::fs,h=>by
  rw[zD,zA,not_or] at h
  rw[Am,show (f==g)=false by simpa using h.1]
  exact mM h.2
theorem o3 {f:Str}{y:W}{v:V}(hy:Rv K o y v): ∀ {fs:List (Str×V)}{ns:List Str}{ws:List W},fs.map (·.1)=ns->Rvs K o ws (fs.map (·.2))->(Ge f v fs).map (·.1)=(Gg ns ws f y).1/\Rvs K o (Gg ns ws f y).2 ((Ge f v fs).map (·.2))
 |[],_,[],e,r=>by subst e;exact⟨rfl,Rvs.cons hy Rvs.nil⟩
 |[],_,w::ws,e,r=>by unfold Rvs at r;obtain⟨_,_,e2,_⟩:=r;cases e2
 |(g,x)::fs,_,[],e,r=>by unfold Rvs at r;cases r
 |(g,x)::fs,_,w::ws,e,r=>by
  subst e
  unfold Rvs at r
  obtain⟨u,t,e2,r1,r2⟩:=r
  cases e2
  show (List.map (·.1) (if g=f then (g,v)::fs else (g,x)::Ge f v fs))=(if g=f then (g::fs.map (·.1),y::ws) else (g::(Gg (fs.map (·.1)) ws f y).1,w::(Gg (fs.map (·.1)) ws f y).2)).1/\Rvs K o (if g=f then (g::fs.map (·.1),y::ws) else (g::(Gg (fs.map (·.1)) ws f y).1,w::(Gg (fs.map (·.1)) ws f y).2)).2 ((if g=f then (g,v)::fs else (g,x)::Ge f v fs).map (·.2))
  by_cases z:g=f
  ·rw[if_pos z,if_pos z]
   exact⟨rfl,Rvs.cons hy r2⟩
  ·rw[if_neg z,if_neg z]
   obtain⟨a,b⟩:=o3 hy (fs:=fs) rfl r2
   exact⟨by rw[zD,a],Rvs.cons r1 b⟩
theorem Rel.putI (R:Rel K o){k:Nat}{b:Ob}{c:Str}{C dx:B5}{ns:List Str}{ws:List W}{fs:List (Str×V)}(hk:o.h[k]?=some b)(hb:b≠.gone)(hn:BY K Cj c=some (some (.ref C)))(h1:fs.map (·.1)=ns)(hl:Rvs K o ws (fs.map (·.2))):Rel K (o.put k (.ins c ns ws) (.ins C dx fs)):=
 R.put hk hb ⟨C,dx,fs,hn,aM,h1,hl.mono R (Ex.put hk hb)⟩
end
section
variable {X:Cx}{E:XK}
def Ej (c:Str)(x:W):M (Nat×List Str×List W):=match x with
 |.loc k=>fun h=>match h[k]? with
  |some (.ins c' ns ws)=>if c'=c then .ok (k,ns,ws) h else .bad
  |_=>.bad
 |_=>no
theorem lG {α β:Type}{r:Wo->α->β->Prop}{c:Str}{C:B5}{o:Wo}{x:W}{v:V}{k:Nat×List Str×List W->M α}{Q:β->Hp->Prop}(hn:BY X.K Cj c=some (some (.ref C)))(R:Rel X.K o)(hr:Rv X.K o x v)(h:Ps (cg X E) r o (bd (Ej c x) k o.h) Q):
  ∃ (j:Nat) (ns:List Str) (ws:List W) (dx:B5) (fs:List (Str×V)),x=.loc j/\j<o.h.length/\o.h[j]?=some (.ins c ns ws)/\v=.ref (o.mu j)/\o.H (o.mu j)=some (.ins C dx fs)/\fs.map (·.1)=ns/\Rvs X.K o ws (fs.map (·.2))/\Ps (cg X E) r o (k (j,ns,ws) o.h) Q:=by
 cases x with
 |loc j=>
  unfold Rv at hr
  obtain⟨hj,rfl⟩:=hr
  unfold Ej bd at h
  cases e:o.h[j]? with
  |none=>simp only[e] at h;exact h.elim
  |some b=>
   cases b with
   |ins c' ns ws=>
    simp only[e] at h
    by_cases z:c'=c
    ·subst z
     rw[if_pos rfl] at h
     obtain⟨C',dx,fs,q1,q2,q3,q4⟩:=R.ob j _ e
     rw[hn] at q1
     cases q1
     exact⟨j,ns,ws,dx,fs,rfl,hj,e,rfl,q2,q3,q4,h⟩
    ·rw[if_neg z] at h;exact h.elim
   |_=>simp only[e] at h;exact h.elim
 |_=>exact h.elim
def D8 (c f:Str)(x:W):M W:=bd (Ej c x) fun t=>match ER t.2.1 t.2.2 f with
 |some w=>pr w
 |none=>no
def Gf (c f:Str)(x y:W):M Unit:=bd (Ej c x) fun t=>fun h=>if t.2.1.length<1000 then .ok () (h.set t.1 (.ins c (Gg t.2.1 t.2.2 f y).1 (Gg t.2.1 t.2.2 f y).2)) else .bad
variable {c f:Str}{C:B5}{o:Expr}{fo:Dl->M W}{pos pos':Ct}
theorem xA (hn:BY X.K Cj c=some (some (.ref C)))(cl:Cls X.K C)(na:NoAttr X.K C f)(ho:JE X E o fo)(hb:CQ o f X.env (Cp o X.env)=Cp o X.env:=by rfl):JE X E (.Attribute o f pos) (m1 (D8 c f) fo):=
 (d9 ho.h hb).imp fun σ H Q h=>by
  obtain⟨w,ρ,rfl,R,S,h⟩:=h
  refine⟨w,ρ,rfl,R,S,Ps.bd h fun p x vx e1 R1 r1 h1=>?_⟩
  obtain⟨j,ns,ws,dx,fs,rfl,hj,e,rfl,q2,q3,q4,h1⟩:=lG hn R1 r1 h1
  cases l:ER ns ws f with
  |none=>simp only[l] at h1;exact h1.elim
  |some y=>
   simp only[l] at h1
   obtain⟨v,lv,rv⟩:=mL q3 q4 l
   exact⟨_,C,dx,fs,v,rfl,q2,cl,na,lv,h1.pr R1 rv⟩
def GA (c f:Str)(fo fv:Dl->M W):Dl->M Fl:=fun ρ=>bd (fv ρ) fun y=>bd (fo ρ) fun x=>bd (Gf c f x y) fun _=>pr (.nx ρ)
theorem tU {D:Dj}{p:Wo}{x y:W}{vx vy:V}{ρ:Dl}{σ:St}(hn:BY X.K Cj c=some (some (.ref C)))(R:Rel X.K p)(S:Re X.K p ρ σ)(rx:Rv X.K p x vx)(ry:Rv X.K p y vy)(h:Ps (cg X E) (RFl X.K) p (bd (Gf c f x y) (fun _=>pr (.nx ρ)) p.h) (DQ D)):
  ∃a dx fs,vx=.ref a/\p.H a=some (.ins C dx fs)/\fs.length<1000/\D.nx σ (upd p.H a (.ins C dx (Ge f vy fs))):=by
 unfold Gf at h
 rw[aa] at h
 obtain⟨j,ns,ws,dx,fs,rfl,hj,e,rfl,q2,q3,q4,h⟩:=lG hn R rx h
 have ln:fs.length=ns.length:=by rw[<-q3,zr]
 by_cases z:ns.length<1000
 ·have h:Ps (cg X E) (RFl X.K) p (.ok (.nx ρ) (p.h.set j (.ins c (Gg ns ws f y).1 (Gg ns ws f y).2))) (DQ D):=by
   have e2:(bd (fun h=>if ns.length<1000 then Rs.ok () (h.set j (.ins c (Gg ns ws f y).1 (Gg ns ws f y).2)) else .bad) (fun _=>pr (Fl.nx ρ)) p.h)=.ok (.nx ρ) (p.h.set j (.ins c (Gg ns ws f y).1 (Gg ns ws f y).2)):=by
    unfold bd
    simp only[if_pos z];rfl
   rw[<-e2];exact h
  obtain⟨a,b⟩:=o3 ry q3 q4
  refine⟨p.mu j,dx,fs,rfl,q2,by omega,?_⟩
  exact Ps.at (p:=p.put j (.ins c (Gg ns ws f y).1 (Gg ns ws f y).2) (.ins C dx (Ge f vy fs))) (b:=FlV.nx σ) h rfl (Ex.put e (by simp)) (R.putI e (by simp) hn a b) ⟨σ,rfl,S.mono R (Ex.put e (by simp))⟩
 ·have e2:(bd (fun h=>if ns.length<1000 then Rs.ok () (h.set j (.ins c (Gg ns ws f y).1 (Gg ns ws f y).2)) else .bad) (fun _=>pr (Fl.nx ρ)) p.h)=.bad:=by
   unfold bd
   simp only[if_neg z]
  have h:Ps (cg X E) (RFl X.K) p (bd (fun h=>if ns.length<1000 then Rs.ok () (h.set j (.ins c (Gg ns ws f y).1 (Gg ns ws f y).2)) else .bad) (fun _=>pr (Fl.nx ρ)) p.h) (DQ D):=h
  rw[e2] at h
  exact h.elim
variable {value:Expr}{fv:Dl->M W}{tpos:Ct}
theorem wZ (hn:BY X.K Cj c=some (some (.ref C)))(cl:Cls X.K C)(na:NoAttr X.K C f)(ho:JE X E o fo)(hv:JE X E value fv)(hs:swapsWith value (some (.Attribute o f pos')) pos.line X.env=pure false:=by rfl):JS X E (.Assign [.Attribute o f pos'] value pos) (GA c f fo fv):=
 (om ho.h hv.h hs).imp fun D σ H h=>by
  obtain⟨w,ρ,rfl,R,S,h⟩:=h
  refine⟨w,ρ,rfl,R,S,Ps.bd h fun p y vy e1 R1 r1 h1=>⟨p,ρ,rfl,R1,S.mono R e1,Ps.bd h1 fun q x vx e2 R2 r2 h2=>?_⟩⟩
  obtain⟨a,dx,fs,ex,q1,q2,q3⟩:=tU hn R2 ((S.mono R e1).mono R1 e2) r2 (r1.mono R1 e2) h2
  exact⟨a,C,dx,fs,ex,q1,cl,na,q2,q3⟩
def addI (x y:W):M W:=match x,y with
 |.int i,.int j=>pr (.int (i+j))
 |_,_=>no
def sAugW (c f:Str)(fo fv:Dl->M W):Dl->M Fl:=fun ρ=>bd (fo ρ) fun x=>bd (D8 c f x) fun v=>bd (fv ρ) fun y=>bd (addI v y) fun z=>bd (Gf c f x z) fun _=>pr (.nx ρ)
structure CGm (P:B2)(w:B3)(K:PySem.W.Frag)(mg:Str->Option BZ)(base:B4)(k:Nat)(C:B5)(m:Str)(f:B5)(fd:CW)(ps:List Str)(n:Nat)(fn:List W->M W):Prop where
 ok:FnOk P w K mg base CX0 k f fd ps (G5 K mg n fn)
 bi:Binds K fd ps []
 me:Dp K C m f
def isI (c m:Str)(x:W):M W:=bd (Ej c x) fun t=>if m∈t.2.1 then no else pr x
def E2 (c m:Str)(n:Nat)(fn:List W->M W)(fo:Dl->M W)(l:Dl->M (List W)):Dl->M W:=fun ρ=>bd (fo ρ) fun x=>bd (isI c m x) fun x=>bd (l ρ) fun ws=>arW n fn (x::ws)
theorem sr {α β:Type}{r:Wo->α->β->Prop}{m:Str}{p:Wo}{x:W}{v:V}{k:W->M α}{Q:β->Hp->Prop}(hn:BY X.K Cj c=some (some (.ref C)))(R:Rel X.K p)(hr:Rv X.K p x v)(h:Ps (cg X E) r p (bd (isI c m x) k p.h) Q):
  ∃a dx fs,v=.ref a/\p.H a=some (.ins C dx fs)/\fs.lookup m=none/\Ps (cg X E) r p (k x p.h) Q:=by
 unfold isI at h
 rw[aa] at h
 obtain⟨j,ns,ws,dx,fs,rfl,hj,e,rfl,q2,q3,q4,h⟩:=lG hn R hr h
 by_cases z:m∈ns
 ·simp only[if_pos z] at h
  exact h.elim
 ·simp only[if_neg z,cq] at h
  exact⟨_,dx,fs,rfl,q2,mM (by rw[q3];exact z),h⟩
end
section
variable {X:Cx}{c m:Str}{C fA:B5}{fd:CW}{ps:List Str}{k n:Nat}{fn:List W->M W}{o e:Expr}{es:List Expr}{fo:Dl->M W}{l:Dl->M (List W)}{pos apos p:Ct}
theorem xv {pl:Sem Bool}(hn:BY X.K Cj c=some (some (.ref C)))(cl:Cls X.K C)(F:CGm X.prog X.w X.K X.mg X.base k C m fA fd ps n fn)(hr:Room k X.A)(ho:JE X E0 o fo)(ha:JA X E0 (e::es) l)
  (hst:Cv (e::es) X.env=(false,Cp e X.env)::Cv es X.env:=by rfl)(hpl:(Cu pos (Cv es X.env)).any (·.1)=false:=by rfl)
  (ht:Cp (.Call (.Attribute o m apos) (e::es) [] pos) X.env=(do
   let ov<-Cp o X.env
   CB apos.atName
   let (f,first)<-CC [ov] (CP ov m pl)
   callWith pos f first (Cu pos (Cv (e::es) X.env)) (CU pos (CV [] X.env))):=by rfl):
  JE X E0 (.Call (.Attribute o m apos) (e::es) [] pos) (E2 c m n fn fo l):=(eO ho.h cl F.me F.ok hr F.bi .nil FY ha.h hst hpl ht).imp fun σ H Q h=>by
 obtain⟨w,ρ,rfl,R,S,h⟩:=h
 refine⟨w,ρ,rfl,R,S,Ps.bd h fun p x vx e1 R1 r1 h1=>?_⟩
 obtain⟨a,dx,fs,rfl,q1,q2,h1⟩:=sr hn R1 r1 h1
 refine⟨a,dx,fs,rfl,q1,q2,p,ρ,rfl,R1,S.mono R e1,Ps.bd h1 fun q ws vs e2 R2 r2 h2=>?_⟩
 unfold arW at h2
 by_cases z:(x::ws).length=n
 ·rw[if_pos z] at h2
  exact⟨q,x::ws,rfl,z,R2,by rw[zZ];exact Rvs.cons (r1.mono R1 e2) r2,h2⟩
 ·rw[if_neg z] at h2
  exact h2.elim
def EZ (c:Str)(n:Nat)(fn:List W->M W)(l:Dl->M (List W)):Dl->M W:=fun ρ=>bd (l ρ) fun ws=>fun h=>match arW n fn (.loc h.length::ws) (h++[.ins c [] []]) with
 |.ok .non h'=>.ok (.loc h.length) h'
 |_=>.bad
theorem Rv.addLocI {K:PySem.W.Frag}{o:Wo}{q:B5}{b:Ob}{u:HO}:Rv K (o.add q b u) (.loc o.h.length) (.ref q):=by
 unfold Rv
 refine⟨by show _<(o.h++[b]).length;simp,?_⟩
 show V.ref q=V.ref (if o.h.length=o.h.length then q else o.mu o.h.length)
 rw[if_pos rfl]
end
end
end L2
namespace PySem
open Sem (wp)
section
variable {prog:B2}{w:B3}{K:Type} [DecidableEq K] {knd:KeyKind prog w K}{A:B8}{R:Result->B6->Prop}
end
end PySem
namespace L2
open PySem PySem.Spec PyProof.Rows
section
variable {X:Cx}
end
section
def prW:W->Option (Key×W)
 |.tup [k,v]=>(EH k).map fun q=>(q,v)
 |_=>none
section
variable {K:PySem.W.Frag}{o:Wo}
end
section
variable {X:Cx}{E:XK}{a:Expr}{p pos:Ct}{l:Dl->M (List W)}
end
end
section
section
variable {X:Cx}{E:XK}{e:Expr}{f:Dl->M W}{pos:Ct}
def sAug (i:Nat)(f:Dl->M W):Dl->M Fl:=fun ρ=>bd (Ff i ρ) fun x=>bd (f ρ) fun y=>bd (addI x y) fun z=>pr (.nx (ρ.set i (some z)))
end
end
end L2
namespace L2
open PySem
section
variable {β:Type}{h:List Ob}{Q:β->List Ob->Prop}{j d:Nat}
theorem li {c:Str}{ns:List Str}{ws:List W}(e:h[d]?=some (.ins c ns ws)):Ej c (.loc d) h=.ok (d,ns,ws) h:=by
 unfold Ej
 simp only[e,if_true]
theorem bV {c f:Str}{ns:List Str}{ws:List W}{w:W}{k:W->M β}(e:h[d]?=some (.ins c ns ws))(e2:ER ns ws f=some w)(q:Ok (k w) h Q):Ok (bd (D8 c f (.loc d)) k) h Q:=by
 refine bb (a:=w) (h':=h) ?_ q
 unfold D8
 rw[dD (li e)]
 simp only[e2]
 rfl
theorem rM {c f:Str}{ns ns':List Str}{ws ws':List W}{y:W}{k:Unit->M β}(e:h[d]?=some (.ins c ns ws))(z:ns.length<1000)(e2:Gg ns ws f y=(ns',ws'))(q:Ok (k ()) (h.set d (.ins c ns' ws')) Q):Ok (bd (Gf c f (.loc d) y) k) h Q:=by
 refine bb (a:=()) (h':=h.set d (.ins c ns' ws')) ?_ q
 unfold Gf
 rw[dD (li e)]
 simp only[if_pos z,e2]
theorem dA {c m:Str}{ns:List Str}{ws:List W}{k:W->M β}(e:h[d]?=some (.ins c ns ws))(z:m ∉ ns)(q:Ok (k (.loc d)) h Q):Ok (bd (isI c m (.loc d)) k) h Q:=by
 refine bb (a:=.loc d) (h':=h) ?_ q
 unfold isI
 rw[dD (li e)]
 simp only[if_neg z]
 rfl
theorem uc {c:Str}{n:Nat}{fn:List W->M W}{ws:List W}{P:List Ob->Prop}{k:W->M β}(hn:ws.length+1=n)(p:Ok (fn (.loc h.length::ws)) (h++[.ins c [] []]) fun w h'=>w=.non/\P h')(q:∀h',P h'->Ok (k (.loc h.length)) h' Q):
  Ok (bd (fun h=>match arW n fn (.loc h.length::ws) (h++[.ins c [] []]) with
 |.ok .non h'=>.ok (.loc h.length) h'
 |_=>.bad) k) h Q:=by
 obtain⟨w,h',e,rfl,hp⟩:=p
 refine bb (a:=.loc h.length) (h':=h') ?_ (q h' hp)
 have:arW n fn (.loc h.length::ws)=fn (.loc h.length::ws):=sU hn
 simp only[this,e]
end
def ctS (g:Dl->M Fl):Fl->M Fl:=fun x=>match x with
 |.nx r=>g r
 |x=>pr x
def ctI (f g:Dl->M Fl)(ρ:Dl):Bool->M Fl:=fun b=>if b=true then f ρ else g ρ
theorem bY (f g:Dl->M Fl)(ρ:Dl):GF f g ρ=bd (f ρ) (ctS g):=by unfold GF;rfl
theorem cX (g:Dl->M Fl)(r:Dl):ctS g (.nx r)=g r:=by unfold ctS;rfl
theorem cW (g:Dl->M Fl)(w:W):ctS g (.rt w)=pr (.rt w):=by unfold ctS;rfl
theorem cZ (g:Dl->M Fl)(r:Dl):ctS g (.bk r)=pr (.bk r):=by unfold ctS;rfl
theorem cY (g:Dl->M Fl)(r:Dl):ctS g (.ct r)=pr (.ct r):=by unfold ctS;rfl
theorem cM (t:Dl->M Bool)(f g:Dl->M Fl)(ρ:Dl):sIf t f g ρ=bd (t ρ) (ctI f g ρ):=by unfold sIf;rfl
theorem d4 (f g:Dl->M Fl)(ρ:Dl):ctI f g ρ true=f ρ:=by unfold ctI;rw[if_pos rfl]
theorem d5 (f g:Dl->M Fl)(ρ:Dl):ctI f g ρ false=g ρ:=by unfold ctI;rw[if_neg zC]
end L2
namespace L2
open PySem PySem.Spec PyProof.Rows
section
variable {X:Cx}{E:XK}{o e f:Expr}{apos cpos:Ct}{fo fe ff:Dl->M W}
end
section
variable {X:Cx}{E:XK}{o e f:Expr}{es:List Expr}{pos apos cpos:Ct}{l:Dl->M (List W)}{fo fe ff:Dl->M W}
end
section
open Sem (wp)
open Builtin
noncomputable def F0 (f:BZ):Prop:=f=.none\/ ∃T:Nat,f=rawInt T
section
variable {prog:B2}{w:B3}{A:B8}{E:BZ->B6->Prop}{s:B6}
end
section
variable {X:Cx}
end
end
section
section
variable {X:Cx}{E:XK}{p pos:Ct}
end
end
section
section
variable {X:Cx}{pins:List (B5×B7)}{σ:St}{H:Hp}{s:B6}{a c:B5}{b:Bool}{k:PKy}{xs:List (PKy×B5×V)}{A:B8}{Ex:BZ->B6->Prop}
end
section
variable {X:Cx}{E:XK}{a b:Expr}{pos:Ct}{fa fb fv:Dl->M W}
end
end
section
section
variable {X:Cx}{E:XK}{e st:Expr}{te:TE}{ts:TO}{pos p2:Ct}{fa:Dl->M W}{fs:Dl->M (Option Int)}
end
end
section
open Sem (wp)
section
variable {prog:B2}{w:B3}{A:B8}{E:BZ->B6->Prop}{s:B6}
end
section
variable {X:Cx}{pins:List (B5×B7)}{σ:St}{H:Hp}{s:B6}
end
section
variable {X:Cx}{a b:Expr}{p p2 pos pos2:Ct}
end
end
section
section
variable {X:Cx}{E:XK}
open Classical in
open Classical in
variable {a:Expr}{p pos:Ct}{l:Dl->M (List W)}
end
end
section
open Sem (wp)
open AutoSeq1 (wpAny_loadPart')
section
variable {prog:B2}{w:B3}{A:B8}{E:BZ->B6->Prop}{s:B6}
end
section
variable {prog:B2}{w:B3}{A:B8}{E:BZ->B6->Prop}{s:B6}
end
section
variable {X:Cx}{E:XK}{a b:Expr}{p p2 pos pos2:Ct}
end
end
section
section
variable {X:Cx}{E:XK}{a b:Expr}{p p2 pos pos2:Ct}
end
end
section
section
variable {prog:B2}{w:B3}{A:B8}{E:BZ->B6->Prop}{s:B6}
end
section
variable {X:Cx}{o:Expr}{p apos cpos pos:Ct}
end
end
end L2
namespace L2
open PyProof.Rows
section
variable (n:Nat)(lt:Nat->Nat->Bool)
structure Mg where
 out:Array Nat
 ia:Nat
 ib:Nat
 ac:Nat
 bc:Nat
 g:Nat
section
variable (a b:Array Nat)
end
end
end L2
namespace L2
open PySem PySem.W PyProof.Rows
section
variable {M:Model}{A:B8}{E:BZ->B6->Prop}{s:B6}{σ β:Type}{f:Nat->β->StateT σ Sem (ForInStep β)}{Q:β->σ->Prop}{st:σ}
end
section
variable {prog:B2}{w:B3}{A:B8}{E:BZ->B6->Prop}{s:B6}{κ:SortKind}{it:Array Keyed}{n:Nat}{lt:Nat->Nat->Bool}
variable {p:Array Nat}{pe:Array (Nat×Nat×Nat)}{g:Nat}
end
section
section
variable {prog:B2}{w:B3}{A:B8}{E:BZ->B6->Prop}{s:B6}{κ:SortKind}{it:Array Keyed}{n:Nat}{lt:Nat->Nat->Bool}
variable {p:Array Nat}{pe:Array (Nat×Nat×Nat)}{g:Nat}
noncomputable abbrev GS:=Option (Option Nat)×Nat×Nat
section
variable {f:Nat->GS->StateT SortSt Sem (ForInStep GS)}{st:SortSt}{left:Bool}{key base hint mx:Nat}{a:Array Nat}
end
end
end
section
section
variable {prog:B2}{w:B3}{A:B8}{E:BZ->B6->Prop}{s:B6}{κ:SortKind}{it:Array Keyed}{n:Nat}{lt:Nat->Nat->Bool}
variable {p:Array Nat}{pe:Array (Nat×Nat×Nat)}{a b:Array Nat}
noncomputable abbrev M5:=Option (Array Keyed)×Array Keyed×Nat×Nat×Nat
noncomputable abbrev t5 (it:Array Keyed)(r:Option (Array Nat))(s:Mg):M5:=(r.map (·.map (kas_item it)),s.out.map (kas_item it),s.ia,s.ib,s.g)
end
end
section
section
variable {prog:B2}{w:B3}{A:B8}{E:BZ->B6->Prop}{s:B6}{κ:SortKind}{it:Array Keyed}{n:Nat}{lt:Nat->Nat->Bool}{p:Array Nat}
end
end
section
section
variable {prog:B2}{w:B3}{A:B8}{E:BZ->B6->Prop}{s:B6}
end
end
section
section
variable {prog:B2}{w:B3}{A:B8}{E:BZ->B6->Prop}{s:B6}
end
section
variable {X:Cx}{pins:List (B5×B7)}{σ:St}{H:Hp}{s:B6}
end
end
section
section
variable {prog:B2}{w:B3}{A:B8}{E:BZ->B6->Prop}{s:B6}
end
end
end L2
namespace L2
open PySem PySem.Spec PyProof.Rows
section
variable {X:Cx}{E:XK}{a:Expr}{p p2 pos kpos:Ct}{fa:Dl->M W}{l:Dl->M (List W)}
end
section
open Sem (wp)
section
variable {prog:B2}{w:B3}{A:B8}{E:BZ->B6->Prop}{s:B6}
end
section
variable {X:Cx}{pins:List (B5×B7)}{σ:St}{H:Hp}{s:B6}
end
section
variable {X:Cx}{E:XK}{tg e a b:Expr}{pos p p2 pos2:Ct}{fa fb fv:Dl->M W}{l:Dl->M (List W)}
end
end
section
section
variable {X:Cx}{E:XK}{tg e a b:Expr}{pos p p2 pos2:Ct}{fa fb fv:Dl->M W}{l:Dl->M (List W)}
end
end
section
open Sem (wp)
section
variable {prog:B2}{w:B3}{A:B8}{E:BZ->B6->Prop}{s:B6}
end
section
variable {X:Cx}{E:XK}{o e f:Expr}{pos apos cpos:Ct}{fa fo fe ff:Dl->M W}{elts:List Expr}{tpos:Ct}
end
end
section
section
variable {X:Cx}{E:XK}
def Gy:Dl->M Fl:=fun _=>no
theorem w5 {st:Cw}:JS X E st Gy:=⟨fun pins s σ H D I q=>by
 obtain⟨o,ρ,rfl,R,S,h⟩:=q
 exact h.elim⟩
noncomputable def c6 (x y:Str):List Str:=if (decide (x.length<y.length)||decide (B1.Str.strKind x<B1.Str.strKind y))=true then [x] else if (B1.Str.occurrences x y 0 x.length (x.length+1)).isEmpty=true then [x] else B1.Str.partsBetween x (B1.Str.occurrences x y 0 x.length (x.length+1)) y.length
def v4:V->List V->Hp->VK->Prop:=fun x vs H Q=> ∃ (a b:Str),x=.str a/\vs=[.str b]/\(b.length==0)=false/\a.length<=sizeLine/\(c6 a b).length<=sizeLine/\ ∀q,H q=none->Q (.ref q) (upd H q (.lst ((c6 a b).map V.str)))
theorem j9: ∀ (l:List Str) (t:Nat),Vals (l.map V.str) (strsFrom t l)
 |[],_=>.nil
 |x::l,t=>.cons ⟨_,rfl⟩ (j9 l (t+1))
theorem iz {pins:List (B5×B7)}{σ:St}{H:Hp}{s:B6}{Q:VK}{l:List Str}{us:List BZ}{tk:Nat}(I:Inv X pins σ H s)(hv:Vals (l.map V.str) us)(hz:l.length<=sizeLine)(q:∀q,H q=none->Q (.ref q) (upd H q (.lst (l.map V.str)))):
  EP X pins σ Q (.ref s.heap.objs.size) {s with toks:=tk,heap:=s.heap.push {cls:=.type "list",data:=.seq us.toArray}}:=
 ⟨.ref s.heap.objs.size,_,I.laid (t':=tk) (fun b o e=>zP _ e) (zu _) (show ObjOk X.prog X.w _ (s.heap.push {cls:=.type "list",data:=.seq us.toArray}) _ (.lst (l.map V.str)) from⟨by rw[zr];exact hz,us,_,hv,Af _ rfl⟩),rfl,q _ (I.hok.fresh (zu _))⟩
theorem rV:MtR X "str.split" v4:=by
 intro pins s σ H x vs v us Q I rx rv h
 obtain⟨a,b,rfl,rfl,hb,ha,hz,q⟩:=h
 obtain⟨t,rfl⟩:=rx
 obtain⟨u,rfl,ru⟩:=rv.one
 obtain⟨t2,rfl⟩:=ru
 by_cases c1:(decide (a.length<b.length)||decide (B1.Str.strKind a<B1.Str.strKind b))=true
 ·have e:c6 a b=[a]:=if_pos c1
  rw[e] at q
  refine C6 F.slot_str_split (C4 s a t) F.entry_str_split (F.args_str_split_2 _ _) (meets_str_split_cannot_occur a b t t2 c1) ?_
  exact iz (l:=[a]) (us:=[.str a t]) (tk:=s.toks) I (.cons ⟨t,rfl⟩ .nil) (by show 1<=sizeLine;decide) q
 ·have c1':(decide (a.length<b.length)||decide (B1.Str.strKind a<B1.Str.strKind b))=false:=by rw[<-Bool.not_eq_true];exact c1
  by_cases c2:(B1.Str.occurrences a b 0 a.length (a.length+1)).isEmpty=true
  ·have e:c6 a b=[a]:=by unfold c6;rw[if_neg c1,if_pos c2]
   rw[e] at q
   refine C6 F.slot_str_split (C4 s a t) F.entry_str_split (F.args_str_split_2 _ _) (meets_str_split_not_found a b t t2 c1' hb c2) ?_
   exact iz (l:=[a]) (us:=[.str a t]) (tk:=s.toks) I (.cons ⟨t,rfl⟩ .nil) (by show 1<=sizeLine;decide) q
  ·have c2':(B1.Str.occurrences a b 0 a.length (a.length+1)).isEmpty=false:=by rw[<-Bool.not_eq_true];exact c2
   have e:c6 a b=B1.Str.partsBetween a (B1.Str.occurrences a b 0 a.length (a.length+1)) b.length:=by unfold c6;rw[if_neg c1,if_neg c2]
   rw[e] at q hz
   refine C6 F.slot_str_split (C4 s a t) F.entry_str_split (F.args_str_split_2 _ _) (meets_str_split_sep a b t t2 c1' hb c2' ha hz) ?_
   exact iz (l:=B1.Str.partsBetween a (B1.Str.occurrences a b 0 a.length (a.length+1)) b.length) I (j9 _ _) hz q
def G8 (x:W)(ws:List W):M W:=match x,ws with
 |.str a,[.str b]=>gd ((b.length==0)=false/\a.length<=sizeLine/\(c6 a b).length<=sizeLine) (pr (.tl ((c6 a b).map W.str)))
 |_,_=>no
theorem fW {K:PySem.W.Frag}{o:Wo}: ∀ns:List Str,Rvs K o (ns.map W.str) (ns.map V.str)
 |[]=>Rvs.nil
 |n::r=>Rvs.cons (Gw.mpr rfl) (fW r)
variable {o e:Expr}{apos cpos:Ct}{fo:Dl->M W}{l:Dl->M (List W)}
theorem r9 (ho:JE X E o fo)(ha:JA X E [e] l)(hbase:CQ o "split" X.env (Cp o X.env)=Cp o X.env:=by rfl)
  (hfew:((Cu cpos (Cv [e] X.env)).all (fun x=>!x.1) && (CU cpos (CV [] X.env)).all (fun x=>x.1.isSome) && decide (([e]:List Expr).length+([]:List C0).length+(if ([]:List C0).isEmpty then 0 else 1)<30))=true:=by rfl)
  (hline:(apos.endLine==cpos.line)=true:=by rfl)(hs:Cv [e] X.env=(false,Cp e X.env)::Cv [] X.env:=by rfl)(hplain:(Cu cpos (Cv [] X.env)).any (·.1)=false:=by rfl):
  JE X E (.Call (.Attribute o "split" apos) [e] [] cpos) (E3 isS G8 fo l):=
 (o6 PySem.F.plainAttrs_str PySem.F.slot_str_split PySem.F.type_str_split rV ho.h ha.h hbase hfew hline hs hplain).imp fun σ H Q h=>by
  obtain⟨w,ρ,rfl,R,S,h⟩:=h
  refine⟨w,ρ,rfl,R,S,Ps.bd h fun p x vx e1 R1 r1 h1=>?_⟩
  cases x with
  |str a=>
   have h1:Ps (cg X E) (Rv X.K) p (bd (l ρ) (fun ws=>G8 (.str a) ws) p.h) Q:=h1
   rw[Gw.mp r1]
   refine⟨rfl,p,ρ,rfl,R1,S.mono R e1,Ps.bd h1 fun q ws vs e2 R2 r2 h2=>?_⟩
   rcases ws with _|⟨w',_|⟨_,_⟩⟩
   ·exact h2.elim
   ·obtain⟨v,rfl,r⟩:=r2.one
    cases w' with
    |str b=>
     have h2:Ps (cg X E) (Rv X.K) q (gd ((b.length==0)=false/\a.length<=sizeLine/\(c6 a b).length<=sizeLine) (pr (.tl ((c6 a b).map W.str))) q.h) Q:=h2
     obtain⟨hz,h2⟩:=h2.gd
     exact⟨a,b,rfl,by rw[Gw.mp r],hz.1,hz.2.1,hz.2.2,fun q hq=>gK R2 hq (fW _) h2⟩
    |_=>exact h2.elim
   ·cases w'<;>exact h2.elim
  |_=>exact h1.elim
end
section
variable {X:Cx}{c m:Str}{C fA:B5}{fd:CW}{ps:List Str}{k n:Nat}{fn:List W->M W}{o:Expr}{fo:Dl->M W}{pos apos:Ct}
theorem uB {pl:Sem Bool}(hn:BY X.K Cj c=some (some (.ref C)))(cl:Cls X.K C)(F:CGm X.prog X.w X.K X.mg X.base k C m fA fd ps n fn)(hr:Room k X.A)(ho:JE X E0 o fo)
  (ht:Cp (.Call (.Attribute o m apos) [] [] pos) X.env=(do
   let ov<-Cp o X.env
   CB apos.atName
   let (f,first)<-CC [ov] (CP ov m pl)
   callWith pos f first (Cu pos (Cv [] X.env)) (CU pos (CV [] X.env))):=by rfl):
  JE X E0 (.Call (.Attribute o m apos) [] [] pos) (E2 c m n fn fo E5):=(dF ho.h cl F.me F.ok hr F.bi .nil FY ht).imp fun σ H Q h=>by
 obtain⟨w,ρ,rfl,R,S,h⟩:=h
 refine⟨w,ρ,rfl,R,S,Ps.bd h fun p x vx e1 R1 r1 h1=>?_⟩
 obtain⟨a,dx,fs,rfl,q1,q2,h1⟩:=sr hn R1 r1 h1
 have h1:Ps (cg X E0) (Rv X.K) p (arW n fn [x] p.h) Q:=h1
 unfold arW at h1
 by_cases z:([x]:List W).length=n
 ·rw[if_pos z] at h1
  exact⟨a,dx,fs,rfl,q1,q2,p,[x],rfl,z,R1,by first|(rw[zZ];exact Rvs.cons r1 Rvs.nil)|exact Rvs.cons r1 Rvs.nil,h1⟩
 ·rw[if_neg z] at h1
  exact h1.elim
theorem sd {p0:Ct}(M:Mk X.K C fA)(hn:BY X.K Cj c=some (some (.ref C)))(F:FnOk X.prog X.w X.K X.mg X.base CX0 k fA fd ps (G5 X.K X.mg n fn))(hb:Binds X.K fd ps [])(hr:Room (k+1) X.A)(hm:X.mg c=some (.ref C))(hg:Gl X c:=by rfl)
  (hdb:(c==("__debug__":Str))=false:=by decide):JE X E0 (.Call (.Name c p0) [] [] pos) (EZ c n fn E5):=(rD M F hr hg hm hb .nil FY hdb).imp fun σ H Q h=>by
 obtain⟨p,ρ,rfl,R1,S,h⟩:=h
 intro x dx hx hdx hne
 have X1:Ex p ⟨p.mu,p.h,upd p.H dx (.own x)⟩:=Ex.new hdx
 have N1:Rel X.K ⟨p.mu,p.h,upd p.H dx (.own x)⟩:=R1.new hdx
 have hx1:(⟨p.mu,p.h,upd p.H dx (.own x)⟩:Wo).H x=none:=by
  show upd p.H dx (.own x) x=none
  rw[ar (Ne.symm hne)];exact hx
 have X2:Ex ⟨p.mu,p.h,upd p.H dx (.own x)⟩ (Wo.add ⟨p.mu,p.h,upd p.H dx (.own x)⟩ x (.ins c [] []) (.ins C dx [])):=Ex.add hx1
 have N2:Rel X.K (Wo.add ⟨p.mu,p.h,upd p.H dx (.own x)⟩ x (.ins c [] []) (.ins C dx [])):=N1.add hx1 ⟨C,dx,[],hn,aM,rfl,Rvs.nil⟩
 have h1:Ps (cg X E0) (Rv X.K) p (match arW n fn [.loc p.h.length] (p.h++[.ins c [] []]) with
  |.ok .non h'=>.ok (.loc p.h.length) h'
  |_=>.bad) Q:=h
 by_cases z:([W.loc p.h.length]:List W).length=n
 ·rw[sU z] at h1
  refine⟨Wo.add ⟨p.mu,p.h,upd p.H dx (.own x)⟩ x (.ins c [] []) (.ins C dx []),[.loc p.h.length],rfl,z,N2,?_,?_⟩
  ·exact Rvs.cons Rv.addLocI Rvs.nil
  ·show Ps ⟨X.K,X.mg,E0⟩ (Rv X.K) _ (fn [.loc p.h.length] (p.h++[.ins c [] []])) _
   cases ef:fn [.loc p.h.length] (p.h++[.ins c [] []]) with
   |ok a h'=>
    rw[ef] at h1
    cases a with
    |non=>
     intro p' b hp X3 R3 rb
     refine⟨Gv.mp rb,Ps.at (p:=p') h1 hp ((X1.trans X2).trans X3) R3 ?_⟩
     have lt:p.h.length<(Wo.add ⟨p.mu,p.h,upd p.H dx (.own x)⟩ x (.ins c [] []) (.ins C dx [])).h.length:=by show _<(p.h++[_]).length;simp
     unfold Rv
     refine⟨zH lt X3.le,?_⟩
     rw[X3.mu _ lt]
     show V.ref x=V.ref (if p.h.length=p.h.length then x else p.mu p.h.length)
     rw[if_pos rfl]
    |_=>exact h1.elim
   |ex y h'=>rw[ef] at h1;exact h1.elim
   |bad=>rw[ef] at h1;exact h1.elim
 ·have:arW n fn [.loc p.h.length]=no:=if_neg z
  rw[this] at h1
  exact h1.elim
end
end
section
section
variable {X:Cx}{E:XK}{o i e value:Expr}{p pos apos cpos tpos:Ct}{fo fi fv:Dl->M W}{l:Dl->M (List W)}
def Ep (w:W):M W:=bd (ES w) fun _=>pr w
end
end
section
section
variable {X:Cx}{E:XK}{o i e value:Expr}{p pos apos cpos tpos:Ct}{fo fi fv:Dl->M W}{l:Dl->M (List W)}
def GV (x:W)(ws:List W):M W:=match ws with
 |[.str k]=>bd (ES x) fun l=>match FV sOf l with
  |some (ss:List Str)=>match ss.findIdx? (fun m=>decide (m=k)) with
   |some j=>pr (.int (j:Int))
   |none=>no
  |none=>no
 |_=>no
theorem qY {k:Str}: ∀ {ss:List Str}{us:List BZ},Vals (ss.map V.str) us->us.length=ss.length/\ ∀ (i:Nat) (u:BZ),us[i]?=some u-> ∃m,ss[i]?=some m/\eqU (.str k) u=decide (m=k)
 |[],_,r=>by rw[Ag] at r;cases r;exact⟨rfl,fun i u h=>by cases h⟩
 |n::ss,_,r=>by
  rw[zD] at r
  cases r with
  |cons h t=>
   obtain⟨a,b⟩:=qY (k:=k) t
   refine⟨congrArg (· +1) a,fun i u hu=>?_⟩
   cases i with
   |zero=>
    cases hu
    refine⟨n,rfl,?_⟩
    rw[oI h rfl]
    by_cases q:n=k
    ·subst q;simp [eqV]
    ·rw[decide_eq_false q];simp [eqV,q]
   |succ i=>exact b i u hu
def rSIdx:V->List V->Hp->VK->Prop:=fun x vs H Q=> ∃ (p:B5) (ss:List Str) (k:Str) (j:Nat),x=.ref p/\vs=[.str k]/\H p=some (.lst (ss.map V.str))/\ss.findIdx? (fun m=>decide (m=k))=some j/\Q (.int j) H
theorem um:MtM X "list.index" rSIdx:=by
 intro pins s σ H x vs v us Q I rx rv h
 obtain⟨p,ss,k,j,rfl,rfl,hp,hj,q⟩:=h
 cases rx
 obtain⟨u,rfl,ru⟩:=rv.one
 obtain⟨t,rfl⟩:=ru
 obtain⟨its,n,r,ho,hz⟩:=I.lst hp
 obtain⟨len,gt⟩:=qY (k:=k) r
 rw[Bp] at hj
 obtain⟨h1,h2,h3⟩:=hj
 have at': ∀ (i:Nat) (hi:i<its.length),eqU (.str k) its[i]=decide (ss[i]'(by omega)=k):=fun i hi=>by
  obtain⟨m,e1,e2⟩:=gt i its[i] (Ah hi)
  rw[Ah (by omega)] at e1
  cases e1
  exact e2
 have lz:=iy
 rw[zr] at hz
 refine C6 F.slot_list_index ⟨_,ho,rfl⟩ F.entry_list_index (F.args_list_index_2 _ _) (SeqAt.list_indexAt p its.toArray n none #[] (.str k t) (eqU (.str k)) j (by rw[zF];omega) (by omega) ?_ fun m hm hlt=>?_) ⟨ho,fun y hy=>eF (x:=.str k) (v:=.str k t) ⟨t,rfl⟩ rfl r ?_ y (by simpa using hy),.int j,H,I.tok _,⟨_,rfl⟩,q⟩
 ·rw[BI,at' j (by omega)];exact h2
 ·rw[BI,at' m (by rw[zF] at hm;exact hm)]
  have:=h3 m hlt
  simpa using this
 ·rw[Bq];exact zR.mpr fun _ _=>rfl
theorem uA (ho:JE X E o fo)(ha:JA X E [e] l)(hbase:CQ o "index" X.env (Cp o X.env)=Cp o X.env:=by rfl)
  (hfew:((Cu cpos (Cv [e] X.env)).all (fun x=>!x.1) && (CU cpos (CV [] X.env)).all (fun x=>x.1.isSome) && decide (([e]:List Expr).length+([]:List C0).length+(if ([]:List C0).isEmpty then 0 else 1)<30))=true:=by rfl)
  (hline:(apos.endLine==cpos.line)=true:=by rfl)(hs:Cv [e] X.env=(false,Cp e X.env)::Cv [] X.env:=by rfl)(hplain:(Cu cpos (Cv [] X.env)).any (·.1)=false:=by rfl):
  JE X E (.Call (.Attribute o "index" apos) [e] [] cpos) (E3 Ep GV fo l):=
 (o6 PySem.F.plainAttrs_list PySem.F.slot_list_index PySem.F.type_list_index um ho.h ha.h hbase hfew hline hs hplain).imp fun σ H Q h=>by
  obtain⟨w,ρ,rfl,R,S,h⟩:=h
  refine⟨w,ρ,rfl,R,S,Ps.bd h fun p x vx e1 R1 r1 h1=>?_⟩
  have h1:Ps (cg X E) (Rv X.K) p (bd (bd (ES x) fun _=>pr x) (fun x=>bd (l ρ) fun ws=>GV x ws) p.h) Q:=h1
  rw[aa] at h1
  obtain⟨l0,a,vs0,rfl,s1,r3,h1⟩:=dP R1 r1 h1
  rw[cq] at h1
  refine⟨.inl ⟨rfl,vs0,.of s1⟩,p,ρ,rfl,R1,S.mono R e1,Ps.bd h1 fun q ws vs e2 R2 r2 h2=>?_⟩
  unfold GV at h2
  split at h2
  ·rename_i k
   obtain⟨v,rfl,r⟩:=r2.one
   obtain⟨l1,a1,vs1,ea,s2,r4,h2⟩:=dP R2 (r1.mono R1 e2) h2
   cases ea
   cases t1:FV sOf l1 with
   |none=>simp only[t1] at h2;exact h2.elim
   |some ss=>
    simp only[t1] at h2
    have e3:vs1=ss.map V.str:=iT rf t1 r4
    subst e3
    cases hj:ss.findIdx? (fun m=>decide (m=k)) with
    |none=>simp only[hj] at h2;exact h2.elim
    |some j=>
     simp only[hj] at h2
     exact⟨a,ss,k,j,rfl,by rw[Gw.mp r],s2,hj,h2.pr R2 (Gu.mpr rfl)⟩
  ·exact h2.elim
end
end
end L2
namespace L2
open PySem
theorem nI {c:Nat}: ∀ {a b u v:List Nat},c ∉ a->c ∉ b->a++c::u=b++c::v->a=b/\u=v
 |[],[],u,v,_,_,e=>⟨rfl,(List.cons.inj e).2⟩
 |[],y::b,u,v,_,h,e=>absurd (List.cons.inj e).1 (fun z=>h (z▸zB))
 |x::a,[],u,v,h,_,e=>absurd (List.cons.inj e).1 (fun z=>h (z▸zB))
 |x::a,y::b,u,v,h1,h2,e=>by
  obtain⟨e1,e2⟩:=List.cons.inj e
  obtain⟨q1,q2⟩:=nI (fun z=>h1 (zK _ z)) (fun z=>h2 (zK _ z)) e2
  exact⟨by rw[e1,q1],q2⟩
theorem kI {a b:Str}(h:a.cps.toList=b.cps.toList):a=b:=by
 cases a;cases b
 congr 1
 exact Array.toList_inj.mp h
theorem eH (c:Nat)(x y:Str)(r:List Str):(Str.join ⟨#[c]⟩ (x::y::r)).cps.toList=x.cps.toList++c::(Str.join ⟨#[c]⟩ (y::r)).cps.toList:=by
 show ((x++(⟨#[c]⟩:Str))++Str.join ⟨#[c]⟩ (y::r)).cps.toList=_
 rw[dk,dk,zV]
 rfl
theorem mS {c:Nat}: ∀ {ps qs:List Str},ps≠ []->qs≠ []->(∀p∈ps,c ∉ p.cps.toList)->(∀p∈qs,c ∉ p.cps.toList)->Str.join ⟨#[c]⟩ ps=Str.join ⟨#[c]⟩ qs->ps=qs
 |[],_,h,_,_,_,_=>absurd rfl h
 |_::_,[],_,h,_,_,_=>absurd rfl h
 |[x],[y],_,_,_,_,e=>by rw[show x=y from e]
 |[x],y::z::r,_,_,f,_,e=>by
  have e:=congrArg (fun s:Str=>s.cps.toList) e
  rw[eH] at e
  refine absurd ?_ (f x zB)
  have e:x.cps.toList=_:=e
  rw[e]
  exact Ak _ zB
 |x::w::s,[y],_,_,_,f,e=>by
  have e:=congrArg (fun s:Str=>s.cps.toList) e
  rw[eH] at e
  refine absurd ?_ (f y zB)
  have e:_=y.cps.toList:=e
  rw[<-e]
  exact Ak _ zB
 |x::w::s,y::z::r,_,_,f,g,e=>by
  have e:=congrArg (fun s:Str=>s.cps.toList) e
  rw[eH,eH] at e
  obtain⟨e1,e2⟩:=nI (f x zB) (g y zB) e
  have e3:=mS (ps:=w::s) (qs:=z::r) (by simp) (by simp) (fun p hp=>f p (zK _ hp)) (fun p hp=>g p (zK _ hp)) (kI e2)
  rw[kI e1,e3]
theorem nQ {c:Nat}{ps:List Str}(h:ps≠ [])(f:∀p∈ps,c ∉ p.cps.toList):c6 (Str.join ⟨#[c]⟩ ps) ⟨#[c]⟩=ps:=by
 have e:c6 (Str.join ⟨#[c]⟩ ps) ⟨#[c]⟩=Txt.split (Str.join ⟨#[c]⟩ ps) ⟨#[c]⟩:=rfl
 rw[e]
 refine mS (c:=c) (fun z=>?_) h (StrLaws.split_free _ _) f (StrLaws.join_split _ _)
 have:=PyProof.Rows.split_pos (Str.join ⟨#[c]⟩ ps) ⟨#[c]⟩
 rw[z] at this
 exact absurd this (by simp)
theorem mi {c:Nat}{ps:List Str}(h:ps≠ [])(f:∀p∈ps,c ∉ p.cps.toList)(z:(Str.join ⟨#[c]⟩ ps).length<=sizeLine)(z2:ps.length<=sizeLine):G8 (.str (Str.join ⟨#[c]⟩ ps)) [.str ⟨#[c]⟩]=pr (.tl (ps.map W.str)):=by
 show gd _ _=_
 rw[nQ h f,af ⟨rfl,z,z2⟩]
end L2
namespace L2
open PySem PySem.Spec PyProof.Rows
noncomputable def F9 {α:Type}(l:List α)(a b:Option Int)(k:Int):List α:=(sliceRange (C5 a b (some k) l.length).1 (C5 a b (some k) l.length).2.1 (C5 a b (some k) l.length).2.2).filterMap (l[·]?)
theorem tW (its:List BZ)(a b:Option Int)(k:Int):slicePick its.toArray a b (some k)=(F9 its a b k).toArray:=by
 unfold slicePick F9
 rw[zF]
 congr 1
 exact congrArg (fun f=>List.filterMap f _) (funext fun i=>BD)
theorem kD {xs:List V}{us:List BZ}(r:Vals xs us): ∀is:List Nat,Vals (is.filterMap (xs[·]?)) (is.filterMap (us[·]?))
 |[]=>.nil
 |i::is=>by
  rw[An,An]
  cases e:xs[i]? with
  |none=>rw[r.none_of e];exact kD r is
  |some x=>obtain⟨u,e2,q⟩:=r.get e;rw[e2];exact .cons q (kD r is)
theorem og {K:PySem.W.Frag}{o:Wo}{l:List W}{vs:List V}(r:Rvs K o l vs): ∀is:List Nat,Rvs K o (is.filterMap (l[·]?)) (is.filterMap (vs[·]?))
 |[]=>Rvs.nil
 |i::is=>by
  rw[An,An]
  cases e:l[i]? with
  |none=>
   have:=r.len
   rw[show vs[i]?=none from List.getElem?_eq_none (by rw[this];exact A7.mp e)];exact og r is
  |some x=>obtain⟨u,e2,q⟩:=r.get e;rw[e2];exact Rvs.cons q (og r is)
theorem pZ {xs:List V}{us:List BZ}(r:Vals xs us)(a b:Option Int)(k:Int):Vals (F9 xs a b k) (F9 us a b k):=by
 unfold F9
 rw[r.length]
 exact kD r _
theorem ro {K:PySem.W.Frag}{o:Wo}{l:List W}{vs:List V}(r:Rvs K o l vs)(a b:Option Int)(k:Int):Rvs K o (F9 l a b k) (F9 vs a b k):=by
 unfold F9
 rw[r.len]
 exact og r _
theorem rp {α β:Type}(f:α->β)(l:List α)(a b:Option Int)(k:Int):F9 (l.map f) a b k=(F9 l a b k).map f:=by
 unfold F9
 rw[zr,List.map_filterMap]
 congr 1
 funext i
 exact zG ..
theorem rA {α:Type}(l:List α)(a b:Option Int)(k:Int)(hk:1<=k)(hn:l.length<=sizeLine):(F9 l a b k).length<=sizeLine:=by
 unfold F9
 refine zJ (BC _ _) (zJ ?_ hn)
 unfold sliceRange
 rw[zr,List.length_range]
 have h2:(C5 a b (some k) l.length).2.2=k:=rfl
 have h0:0<=(C5 a b (some k) l.length).1:=by
  unfold C5
  dsimp only[Bk]
  rw[if_pos (by omega)]
  cases a with
  |none=>exact Int.le_refl _
  |some i=>dsimp only;rw[if_pos (by omega)];omega
 have h1:(C5 a b (some k) l.length).2.1<=l.length:=by
  unfold C5
  dsimp only[Bk]
  rw[if_pos (show k>0 by omega)]
  cases b with
  |none=>exact Int.le_refl _
  |some i=>dsimp only;rw[if_pos (show k>0 by omega)];omega
 generalize (C5 a b (some k) l.length).1=s at *
 generalize (C5 a b (some k) l.length).2.1=e at *
 rw[h2,if_pos (show k>0 by omega)]
 by_cases z:s<e
 ·rw[if_pos z]
  have:(e - s+k - 1) / k<=e - s:=by
   have a1:e - s+k - 1<=(e - s) * k:=by
    have:0<=(e - s - 1) * (k - 1):=Int.mul_nonneg (by omega) (by omega)
    have e1:(e - s - 1) * (k - 1)=(e - s) * k - (e - s) - k+1:=by
     rw[Int.sub_mul,Int.mul_sub,Int.mul_sub];omega
    omega
   exact Int.ediv_le_of_le_mul (by omega) a1
  omega
 ·rw[if_neg z];exact zL _
section
variable {X:Cx}{E:XK}{e st:Expr}{lo hi:Option Expr}{te:TE}{tl th ts:TO}{pos p2:Ct}{fa:Dl->M W}{fl fh fs:Dl->M (Option Int)}
def tSlS (K:PySem.W.Frag)(te:TE)(tl th ts:TO):TE:=fun σ H Q=>te σ H fun x H1=>tl σ H1 fun a H2=>th σ H2 fun b H3=>ts σ H3 fun c H4=> ∃ (k:Int) (p:B5) (xs:List V),c=some k/\1<=k/\x=.ref p/\SqL K H4 p xs/\ ∀q,H4 q=none->Q (.ref q) (upd H4 q (.lst (F9 xs a b k)))
theorem wj (he:PE X e te)(hl:PO X lo tl)(hu:PO X hi th)(hs:PO X (some st) ts):PE X (.Subscript e (.Slice lo hi (some st) p2) pos) (tSlS X.K te tl th ts):=by
 intro pins s σ H Q I h
 refine Subscript_ (thn (he pins s σ H _ I h) fun v s1 qz=>?_)
 obtain⟨x,H1,I1,r1,q1⟩:=qz
 refine wpAny_Slice (thn (hl pins s1 σ H1 _ I1 q1) fun vl s2 ⟨l,H2,I2,pl,q2⟩=>thn (hu pins s2 σ H2 _ I2 q2) fun vu s3 ⟨u,H3,I3,pu,q3⟩=>thn (hs pins s3 σ H3 _ I3 q3) fun vs s4 qz=>?_)
 obtain⟨c,H4,I4,pc,q4⟩:=qz
 obtain⟨k,a,xs,rfl,hk,rfl,hx,q⟩:=q4
 cases r1
 have I5:Inv X pins σ H4 {s4 with heap:=s4.heap.push {cls:=.type "slice",data:=.fields #[vl,vu,vs]}}:=I4.kept (t':=s4.toks) fun b ob q=>zP _ q
 show Ca (Cb X.prog X.w) X.A (subscriptTail e (.Slice lo hi (some st) p2) (.ref a) (.ref s4.heap.objs.size)) (EP X pins σ Q) X.xe {s4 with heap:=s4.heap.push {cls:=.type "slice",data:=.fields #[vl,vu,vs]}}
 obtain⟨its,r,ht,hz⟩:=I5.list hx
 have hlen:=r.length
 refine tail_any (ops:=[.ref a,.ref s4.heap.objs.size]) ht.isList.typeIs slot_list_getitem.lookup ?_ (by with_unfolding_all rfl)
 refine wpAny_getItem_list_slice ht.isList (B4.IsSliceOf.new ..) pl pu pc (by intro z;cases z;omega) ?_ (by rw[zF]<;>omega)
 rw[tW]
 refine⟨.ref _,_,I5.laid (t':=s4.toks) (o:=.lst (F9 xs l u k)) (fun b ob q=>zP _ q) (zu _) ?_,rfl,q _ (I5.hok.fresh (zu _))⟩
 exact⟨rA _ _ _ _ hk hz,_,0,pZ r _ _ _,Af _ rfl⟩
def G0 (x:W)(a b c:Option Int):M W:=match c with
 |some k=>gd (1<=k) (bd (ET x) fun l=>pr (.tl (F9 l a b k)))
 |_=>no
def E9 (fa:Dl->M W)(fl fh fs:Dl->M (Option Int)):Dl->M W:=fun ρ=>bd (fa ρ) fun x=>bd (fl ρ) fun a=>bd (fh ρ) fun b=>bd (fs ρ) fun c=>G0 x a b c
theorem xk (he:JE X E e fa)(hl:JO X E lo fl)(hh:JO X E hi fh)(hs:JO X E (some st) fs):JE X E (.Subscript e (.Slice lo hi (some st) p2) pos) (E9 fa fl fh fs):=(wj he.h hl.h hh.h hs.h).imp fun σ H Q h=>by
 obtain⟨o,ρ,rfl,R,S,h⟩:=h
 refine⟨o,ρ,rfl,R,S,Ps.bd h fun p x vx e1 R1 r1 h1=>⟨p,ρ,rfl,R1,S.mono R e1,Ps.bd h1 fun q a va e2 R2 r2 h2=>?_⟩⟩
 subst r2
 refine⟨q,ρ,rfl,R2,(S.mono R e1).mono R1 e2,Ps.bd h2 fun q2 b vb e3 R3 r3 h3=>?_⟩
 subst r3
 refine⟨q2,ρ,rfl,R3,((S.mono R e1).mono R1 e2).mono R2 e3,Ps.bd h3 fun q3 c vc e4 R4 r4 h4=>?_⟩
 subst r4
 have rx:=((r1.mono R1 e2).mono R2 e3).mono R3 e4
 unfold G0 at h4
 split at h4
 ·rename_i k
  obtain⟨hk,h4⟩:=h4.gd
  obtain⟨l,a',vs,rfl,s,r,h5⟩:=eG R4 rx h4
  exact⟨k,a',vs,rfl,hk,rfl,s,fun q' hq=>gK R4 hq (ro r _ _ _) h5⟩
 ·exact h4.elim
variable {p:Ct}{a b:Expr}{l:Dl->M (List W)}
theorem yN {H:Hp}{s:B6}{pins:List (B5×B7)}{σ:St}{x:V}{u:BZ}{T:String}(I:Inv X pins σ H s)(rx:RelV x u)(ty:DA X.K H x (.type T)): ∃HH:B4->Prop,PySem.W.KitX X.K u (.type T) HH/\HH s.heap/\u≠BZ.builtin "__main__.__loader__#opaque":=by
 generalize et:BZ.type T=t at ty
 cases ty with
 |non=>cases (show u=BZ.none from rx);exact⟨_,PySem.W.kitx_none,True.intro,fun z=>nomatch z⟩
 |bl y=>cases (show u=BZ.bool y from rx);exact⟨_,PySem.W.kitx_bool,True.intro,fun z=>nomatch z⟩
 |int i=>obtain⟨t,q⟩:=(show∃t,u=BZ.int i t from rx);cases q;exact⟨_,PySem.W.kitx_int,True.intro,fun z=>nomatch z⟩
 |str y=>obtain⟨t,q⟩:=(show∃t,u=BZ.str y t from rx);cases q;exact⟨_,PySem.W.kitx_str,True.intro,fun z=>nomatch z⟩
 |flt y=>obtain⟨t,q⟩:=(show∃t,u=BZ.float y t from rx);cases q;exact⟨_,PySem.W.kitx_float,True.intro,fun z=>nomatch z⟩
 | @lst a xs ea=>
   cases (show u=BZ.ref a from rx)
   obtain⟨_,_,n,_,h1⟩:=(show ObjOk X.prog X.w H s.heap a (.lst xs) from I.hok a _ ea)
   exact⟨_,PySem.W.kitx_list,⟨_,h1,rfl⟩,fun z=>nomatch z⟩
 | @frz a ob xs ea=>
   cases (show u=BZ.ref a from rx)
   obtain⟨_,_,_,n,_,h1⟩:=(show ObjOk X.prog X.w H s.heap a (.frz ob (.lst xs)) from I.hok a _ ea)
   exact⟨_,PySem.W.kitx_list,⟨_,h1,rfl⟩,fun z=>nomatch z⟩
 | @tup a xs ea=>
   cases (show u=BZ.ref a from rx)
   obtain⟨_,_,_,p⟩:=(show ObjOk X.prog X.w H s.heap a (.tup xs) from I.hok a _ ea)
   obtain⟨o,h1,h2,_⟩:=p.1
   exact⟨_,PySem.W.kitx_tuple,⟨o,h1,h2⟩,fun z=>nomatch z⟩
 | @dK a kvs ea=>
   cases (show u=BZ.ref a from rx)
   obtain⟨_,_,vs,_,p⟩:=(show ObjOk X.prog X.w H s.heap a (.dK kvs) from I.hok a _ ea)
   obtain⟨o,es,ep,h1,h2,_⟩:=p
   exact⟨_,PySem.W.kitx_dict,⟨o,h1,h2.1⟩,fun z=>nomatch z⟩
 | @dT a kvs ea=>
   cases (show u=BZ.ref a from rx)
   obtain⟨_,_,xs,_,o,es,ep,h1,h2,_⟩:=(show ObjOk X.prog X.w H s.heap a (.dT kvs) from I.hok a _ ea)
   exact⟨_,PySem.W.kitx_dict,⟨o,h1,h2.1⟩,fun z=>nomatch z⟩
 | @ins a C dx fs ea cl ha hn htk hm=>cases et
def rIs2 (K:PySem.W.Frag):List V->Hp->VK->Prop:=fun xs H Q=> ∃ (x:V) (T:String) (q:B5) (c d:String) (k:Bool),xs=[x,.ref q]/\(DA K H x (.type T)\/T= "tuple"/\ ∃a ys,x=.ref a/\SqT K H a ys)/\SqT K H q [.ty c,.ty d]/\PySem.W.kitAny K (.type T) [.type c,.type d]=some k/\Q (.bl k) H
theorem sL:CallR X (.builtin "isinstance") (rIs2 X.K):=by
 intro pins s σ H xs us Q I r h
 obtain⟨x,T,q,c,d,k,rfl,ty,hq,e,qq⟩:=h
 obtain⟨u,u',rfl,ru,ru'⟩:=HA r
 cases ru'
 obtain⟨its,rv,⟨o,e1,e2,n,e3⟩,hz⟩:=I.tuple hq
 have ei:its=[.type c,.type d]:=by
  obtain⟨v1,v2,rfl,a1,a2⟩:=Vals.two rv
  cases a1;cases a2;rfl
 subst ei
 have g:s.heap.get? q=some {cls:=.type "tuple",dict:=o.dict,data:=.seq [BZ.type c,BZ.type d].toArray n,slots:=o.slots}:=by
  rw[e1];obtain⟨oc,od,da,sl⟩:=o;cases e2;cases e3;rfl
 obtain⟨HH,k1,k2,k3⟩: ∃HH:B4->Prop,PySem.W.KitX X.K u (.type T) HH/\HH s.heap/\u≠BZ.builtin "__main__.__loader__#opaque":=by
  rcases ty with ty|⟨rfl,a,ys,rfl,hs⟩
  ·exact yN I ru ty
  ·cases ru
   obtain⟨its,rv,⟨o,e1,e2,n,e3⟩,hz⟩:=I.tuple hs
   exact⟨_,PySem.W.kitx_tuple,⟨o,e1,e2⟩,fun z=>nomatch z⟩
 exact PySem.W.kia_tup k1 I.kIn k2 g e k3 fun tk=>⟨.bl k,H,I.tok tk,rfl,qq⟩
noncomputable def Gc:List (String×String):=[("tuple", "list"),("str", "int")]
theorem vq {K:PySem.W.Frag}{t c d:String}(ht:t∈ "NoneType"::tys)(hc:(c,d)∈Gc):PySem.W.kitAny K (.type t) [.type c,.type d]=some (isT t c||isT t d):=by
 simp only[Gc,zA,zQ,or_false,Prod.mk.injEq] at hc
 simp only[tys,zA,zQ,or_false] at ht
 rcases ht with rfl|rfl|rfl|rfl|rfl|rfl|rfl<;>rcases hc with⟨rfl,rfl⟩|⟨rfl,rfl⟩<;>kernel_rfl
def Eu (ws:List W):M W:=match ws with
 |[.tup _,.tup [.ty c,.ty d]]=>gd ((c,d)∈Gc) (pr (.bl (isT "tuple" c||isT "tuple" d)))
 |[x,.tup [.ty c,.ty d]]=>fun h=>match tyN x h with
  |some t=>if (c,d)∈Gc then .ok (.bl (isT t c||isT t d)) h else .bad
  |none=>.bad
 |_=>no
theorem uD (hm:X.mg "isinstance"=none)(ha:JA X E [a,b] l)(hg:Gl X "isinstance":=by rfl)(he:Cv [a,b] X.env=(false,Cp a X.env)::Cv [b] X.env:=by rfl)(hpl:(Cu pos (Cv [b] X.env)).any (·.1)=false:=by rfl):JE X E (.Call (.Name "isinstance" p) [a,b] [] pos) (EW Eu l):=
 fZ sL (fun o ws vs Q R rv h=>by
  unfold Eu at h
  have two: ∀ {c d:String}{u:V},Rv X.K o (.tup [.ty c,.ty d]) u-> ∃q,u=.ref q/\SqT X.K o.H q [.ty c,.ty d]:=fun{c d u} r=>by
   unfold Rv at r
   obtain⟨q,us,rfl,s,r⟩:=r
   unfold Rvs at r
   obtain⟨v1,r1,rfl,a1,r⟩:=r
   unfold Rvs at r
   obtain⟨v2,r2,rfl,a2,r⟩:=r
   unfold Rvs at r
   subst r
   rw[Gx.mp a1,Gx.mp a2] at s
   exact⟨q,rfl,s⟩
  split at h
  ·rename_i l c d
   obtain⟨v,u,rfl,r1,r2⟩:=rv.two
   obtain⟨hc,h⟩:=h.gd
   unfold Rv at r1
   obtain⟨a,us,rfl,s,r⟩:=r1
   obtain⟨q,rfl,s2⟩:=two r2
   exact⟨_, "tuple",q,c,d,_,rfl,.inr ⟨rfl,a,us,rfl,s⟩,s2,vq (by decide) hc,h.pr R (Gr.mpr rfl)⟩
  ·rename_i x c d _
   obtain⟨v,u,rfl,r1,r2⟩:=rv.two
   obtain⟨q,rfl,s2⟩:=two r2
   dsimp only at h
   cases e:tyN x o.h with
   |none=>rw[e] at h;exact h.elim
   |some t=>
    rw[e] at h
    by_cases hc:(c,d)∈Gc
    ·simp only[if_pos hc] at h
     obtain⟨ty,hm⟩:=qK R r1 e
     exact⟨_,t,q,c,d,_,rfl,.inl ty,s2,vq hm hc,Ps.pr (c:=cg X E) (r:=Rv X.K) (a:=W.bl (isT t c||isT t d)) h R (Gr.mpr rfl)⟩
    ·simp only[if_neg hc] at h;exact h.elim
  ·exact h.elim) hg hm PyProof.Rows.boot_isinstance ha (he:=he) (hpl:=hpl)
def Hc (w:W):M Sr:=match w with
 |.tup l=>Hb (.tup l)
 |w=>G9 w
theorem yB {tg l:Expr}{fl:Dl->M W}(hl:JE X E l fl):JI X E tg l (Fb fl Hc):=⟨fun pins s σ H R I q=>by
 obtain⟨o,ρ,e,R1,S,h⟩:=q
 cases ef:fl ρ o.h with
 |ok w h'=>
  cases w with
  |tup l=>exact (rY hl).h pins s σ H R I ⟨o,ρ,e,R1,S,by unfold Fb bd at h ⊢;rw[ef] at h ⊢;exact h⟩
  |_=>exact (iW hl).h pins s σ H R I ⟨o,ρ,e,R1,S,by unfold Fb bd at h ⊢;rw[ef] at h ⊢;exact h⟩
 |ex c h'=>exact (iW hl).h pins s σ H R I ⟨o,ρ,e,R1,S,by unfold Fb bd at h ⊢;rw[ef] at h ⊢;exact h⟩
 |bad=>exact (iW hl).h pins s σ H R I ⟨o,ρ,e,R1,S,by unfold Fb bd at h ⊢;rw[ef] at h ⊢;exact h⟩⟩
end
section
section
variable {prog:B2}{w:B3}{A:B8}{E:BZ->B6->Prop}{it l:B5}{items:Array BZ}
theorem ko (ne:l≠it): ∀ (n i:Nat) (s:B6) (Q:List BZ->B6->Prop),s.heap.IsListIter it l i->s.heap.IsList l items->i+n=items.size->(∀h':B4,h'.IsListIter it l (i+n)->h'.IsList l items->B4.ExtBut it s.heap h'->Q (items.toList.drop i) {s with heap:=h'})->Ca (Cb prog w) A (draw (.ref it) n) Q E s
 |0,i,s,Q,st,hl,e,k=>by
  rw[draw.eq_1]
  have:=k s.heap st hl fun b o _ q=>q
  rw[List.drop_of_length_le (by simp;omega)] at this
  exact Cd this
 |n+1,i,s,Q,st,hl,e,k=>by
  rw[draw.eq_2]
  have hi:i<items.size:=by omega
  refine Cc (wpAny_pyNext_list_item st hl (x:=items[i]) (Array.getElem?_eq_getElem hi) fun h' st' sb=>?_)
  have hl':h'.IsList l items:=by
   obtain⟨o,e1,e2⟩:=hl
   exact⟨o,(sb.2 l ne).trans e1,e2⟩
  show Ca (Cb prog w) A (CC [items[i]] (draw (.ref it) n)>>=fun r=>pure (items[i]::r)) Q E {s with heap:=h'}
  refine Cc (Ce (ko ne n (i+1) {s with heap:=h'} _ st' hl' (by omega) fun h2 st2 hl2 eb=>?_))
  refine Cd ?_
  have q:=k h2 (by rw[show i+(n+1)=i+1+n by omega];exact st2) hl2 fun b o hb q=>eb b o hb ((sb.2 b hb).trans q)
  rw[AJ (by simpa using hi)] at q
  simpa using q
theorem lY {s:B6}{Q:List BZ->B6->Prop}(hA:A.handled=none)(hl:s.heap.IsList l items)(k:∀h':B4,B4.ExtBut s.heap.objs.size s.heap h'->Q items.toList {s with heap:=h'}):Ca (Cb prog w) A (unpackItems (.ref l) items.size none) Q E s:=by
 have lt:l<s.heap.objs.size:=by obtain⟨o,e,_⟩:=hl;exact zy e
 unfold unpackItems notIterableAtAll
 refine Cc (Cc (wpAny_specialOf hl.typeIs slot_list_iter.lookup ?_))
 refine Cd ?_
 show Ca (Cb prog w) A (CC [.ref l] (pyIter (.ref l))>>=_) Q E s
 refine Cc (Ce (wpAny_pyIter_list hl ?_))
 have hl':(s.heap.push {cls:=.type "list_iterator",data:=.fields #[.ref l,.int 0 0]}).IsList l items:=by
  obtain⟨o,e1,e2⟩:=hl
  exact⟨o,zP _ e1,e2⟩
 refine Cc (Ce (ko (items:=items) (l:=l) (zN lt) items.size 0 _ _ ⟨_,Af _ rfl,rfl,rfl⟩ hl' (by omega) fun h2 st2 hl2 eb=>?_))
 rw[Aw]
 have e1: ¬items.toList.length<items.size:=by simp
 dsimp only
 rw[if_neg e1]
 refine Cc (Ce (wpAny_pyNext_list_end hA st2 hl2 (Array.getElem?_eq_none (by omega)) fun h3 eb3=>?_))
 exact Cd (k h3 fun b o hb q=>eb3 b o hb (eb b o hb (zP _ q)))
end
section
variable {X:Cx}{E:XK}{pos:Ct}
def Ee (K:PySem.W.Frag)(n:Nat)(t:TGs):TG:=fun v σ H Q=> ∃a xs,v=.ref a/\(SqT K H a xs\/SqL K H a xs)/\xs.length=n/\t xs σ H Q
theorem tZ {es:List Expr}{k:Nat}{t:TGs}{n:Nat}(hc:X.calm=true)(h:PGs X es t)
  (hn:(CH es X.env).length=n:=by rfl)(hst:(CH es X.env).findIdx? (·.1)=none:=by rfl):PG X (.Tuple es k pos) (Ee X.K n t):=by
 intro pins s σ H v u Q I r hw
 obtain⟨a,xs,e1,hq,hl,hw⟩:=hw
 subst e1
 rcases hq with hq|hq
 ·exact gB hc h hn hst pins s σ H _ u Q I r ⟨a,xs,rfl,hq,hl,hw⟩
 ·cases r
  obtain⟨its,rv,ht,hz⟩:=I.list hq
  rw[assign_Tuple]
  refine Cc (wpAny_standAt ?_)
  unfold unpack
  have ln:(CH es X.env).length=its.toArray.size:=by simp [hn,<-hl,rv.length]
  rw[hst,ln]
  refine Cc (Ce (lY (I.ok.hd hc) ht.isList fun h' hx=>?_))
  have I1:Inv X pins σ H {s with heap:=h'}:=I.kept (t':=s.toks) fun b o e=>hx b o (zN (zy e)) e
  exact h pins _ σ H xs _ Q I1 (by simpa using rv) hw
def tgL (is:List Nat):W->Dl->Option Dl:=fun w ρ=>match w with
 |.tup l=>GR is l ρ
 |.tl l=>GR is l ρ
 |_=>none
theorem s9 {K:PySem.W.Frag}(m:Nat)(is:List Nat)(h:∀i∈is,i<m):Dx K m (Ee K is.length (gNs is)) (tgL is):=⟨fun o w v ρ ρ2 σ rv re e=>by
 cases w with
 |tup l=>
  unfold Rv at rv
  obtain⟨a,vs,rfl,s,r⟩:=rv
  have e:GR is l ρ=some ρ2:=e
  obtain⟨σ2,a1,a2,a3,a4⟩:=oQ is l vs ρ ρ2 σ h r re e
  exact⟨σ2,fun Q q=>⟨a,vs,rfl,.inl s,by rw[r.len,gI e],a1 Q q⟩,a2,a3,a4⟩
 |tl l=>
  unfold Rv at rv
  obtain⟨a,vs,rfl,s,_,r⟩:=rv
  have e:GR is l ρ=some ρ2:=e
  obtain⟨σ2,a1,a2,a3,a4⟩:=oQ is l vs ρ ρ2 σ h r re e
  exact⟨σ2,fun Q q=>⟨a,vs,rfl,.inr (.of s),by rw[r.len,gI e],a1 Q q⟩,a2,a3,a4⟩
 |_=>cases e⟩
end
end
end L2
namespace Wd
open PySem L2
noncomputable def LET:Str:= "abcdefghijklmnopqrstuvwxyz"
noncomputable def FIG:Str:= "0123456789"
def Er (c:Nat):Bool:=decide (c∈LET.cps.toList)
def En (c:Nat):Bool:=decide (c∈FIG.cps.toList)
def Em (c:Nat):Bool:=decide (c∈(LET++FIG).cps.toList)
theorem mP:LET.cps.toList=List.range' 97 26:=by decide+kernel
theorem mY:FIG.cps.toList=List.range' 48 10:=by decide+kernel
theorem Es {c:Nat}:Er c=true↔97<=c/\c<=122:=by
 unfold Er
 rw[decide_eq_true_eq,mP,AY]
 omega
theorem Eo {c:Nat}:En c=true↔48<=c/\c<=57:=by
 unfold En
 rw[decide_eq_true_eq,mY,AY]
 omega
theorem g7 (c:Nat):Em c=(Er c||En c):=by
 rw[Ao,Bool.or_eq_true,Es,Eo]
 unfold Em
 have e:(LET++FIG).cps.toList=LET.cps.toList++FIG.cps.toList:=by decide+kernel
 rw[decide_eq_true_eq,e,zY,mP,mY,AY,AY]
 omega
def Hu:List Str:=["box", "block", "put", "say", "ask", "go", "if", "else", "table", "stop"]
def ah (w:Str):Bool:=decide (1<=w.length/\w.length<=8) && (w.cps.toList.all Er && !decide (w∈Hu))
def Fu (w:Str):Bool:=decide (1<=w.length/\w.length<=3) && (!(decide (w.cps.toList.head?=some 48) && !decide (w= "0")) && w.cps.toList.all En)
noncomputable def b6 (w:Str):Int:=((PySem.NumText.digitsVal w.cps.toList:Nat):Int)
inductive Exp where
 |num (n:Int)
 |box (x:Str)
 |bin (s:Str)(l r:Exp)
 deriving DecidableEq
def EM (l:List Nat):Option (Exp×List Nat):=
 if ah ⟨(l.takeWhile Em).toArray⟩=true then some (.box ⟨(l.takeWhile Em).toArray⟩,l.dropWhile Em)
 else if Fu ⟨(l.takeWhile Em).toArray⟩=true then some (.num (b6 ⟨(l.takeWhile Em).toArray⟩),l.dropWhile Em) else none
noncomputable def DM (f:List Nat->Option (Exp×List Nat))(ops:List Nat):Nat->Exp->List Nat->Option (Exp×List Nat)
 |0,e,l=>some (e,l)
 |_+1,e,[]=>some (e,[])
 |n+1,e,c::r=>if c∈ops then (match f r with
   |none=>none
   |some (e2,r2)=>DM f ops n (.bin ⟨#[c]⟩ e e2) r2) else some (e,c::r)
def FX (f:List Nat->Option (Exp×List Nat))(ops:List Nat)(l:List Nat):Option (Exp×List Nat):=match f l with
 |none=>none
 |some (e,r)=>DM f ops r.length e r
noncomputable def FS:List Nat:=[42]
noncomputable def FU:List Nat:=[43,45]
noncomputable def bG (f:List Nat->Option (Exp×List Nat))(r:List Nat):Option (Exp×List Nat):=match f r with
 |some (e,41::r2)=>some (e,r2)
 |_=>none
def aR:Nat->List Nat->Option (Exp×List Nat)
 |0,l=>if l.head?=some 40 then none else EM l
 |m+1,l=>if l.head?=some 40 then bG (FX (FX (aR m) FS) FU) l.tail else EM l
def be (m:Nat):List Nat->Option (Exp×List Nat):=FX (aR m) FS
def cJ (m:Nat):List Nat->Option (Exp×List Nat):=FX (be m) FU
def D4 (w:Str):Option Exp:=if w.length>60 then none else match cJ 5 w.cps.toList with
 |some (e,[])=>some e
 |_=>none
noncomputable def Suf (f:List Nat->Option (Exp×List Nat)):Prop:= ∀l e r,f l=some (e,r)->r<:+l
theorem l5:Suf EM:=fun l e r h=>by
 unfold EM at h
 split at h
 ·cases h;exact BJ _
 ·split at h
  ·cases h;exact BJ _
  ·cases h
theorem j8 {f:List Nat->Option (Exp×List Nat)}{ops:List Nat}(hf:Suf f): ∀ (n:Nat) (e:Exp) (l:List Nat) (e':Exp) (r:List Nat),DM f ops n e l=some (e',r)->r<:+l
 |0,e,l,e',r,h=>by cases h;exact Br _
 |_+1,e,[],e',r,h=>by cases h;exact Br _
 |n+1,e,c::l,e',r,h=>by
  unfold DM at h
  split at h
  ·split at h
   ·cases h
   ·rename_i e2 r2 hf2
    exact (j8 hf n _ r2 e' r h).trans ((hf l e2 r2 hf2).trans (List.suffix_cons c l))
  ·cases h;exact Br _
theorem f9 {f:List Nat->Option (Exp×List Nat)}{ops:List Nat}(hf:Suf f):Suf (FX f ops):=fun l e r h=>by
 unfold FX at h
 split at h
 ·cases h
 ·rename_i e1 r1 h1
  exact (j8 hf _ _ _ _ _ h).trans (hf l e1 r1 h1)
theorem l7 {f:List Nat->Option (Exp×List Nat)}(hf:Suf f):Suf (bG f):=fun l e r h=>by
 unfold bG at h
 split at h
 ·rename_i e1 r1 h1
  cases h
  exact (List.suffix_cons 41 r).trans (hf l e _ h1)
 ·cases h
theorem eJ: ∀m,Suf (aR m)
 |0=>fun l e r h=>by
  unfold aR at h
  split at h
  ·cases h
  ·exact l5 l e r h
 |m+1=>fun l e r h=>by
  unfold aR at h
  split at h
  ·exact (l7 (f9 (f9 (eJ m))) _ e r h).trans (List.tail_suffix l)
  ·exact l5 l e r h
theorem fO (m:Nat):Suf (be m):=f9 (eJ m)
theorem j7 (m:Nat):Suf (cJ m):=f9 (fO m)
theorem qU {w l r:List Nat}{p:Nat}(hl:l=w.drop p)(h:r<:+l):r=w.drop (w.length - r.length)/\r.length<=l.length:=by
 subst hl
 refine⟨List.suffix_iff_eq_drop.mp (h.trans (List.drop_suffix p w)),h.length_le⟩
end Wd
namespace Q
open PySem L2
noncomputable def top (i:Nat):Cw:=PySem.Challenge.pw_blockfall_k06_whole_programs_read.main.body.getD i (.Pass ⟨0,0,0,0⟩)
noncomputable abbrev iR:Cw:=top 19
noncomputable abbrev kQ:Cw:=top 20
noncomputable abbrev Gz:Cw:=top 22
noncomputable abbrev kP:Cw:=top 23
noncomputable abbrev gJ:Cw:=top 24
noncomputable abbrev iS:Cw:=top 25
noncomputable abbrev fV:Cw:=top 26
noncomputable abbrev oa:Cw:=bJ (top 21) 0
noncomputable abbrev oe:Cw:=bJ (top 21) 1
noncomputable abbrev jh:Cw:=bJ (top 21) 2
noncomputable abbrev n9:Cw:=bJ (top 21) 3
noncomputable abbrev GE:Cw:=bJ (top 21) 4
end Q
namespace Q
open PySem L2 Wd
def Hv:List V:=Hu.map V.str
structure Txt (K:PySem.W.Frag)(mg:Str->Option BZ)(CS CN:B5):Prop where
 cl:Cls K CS
 nw:NoAttr K CS "word"
 np:NoAttr K CS "place"
 mgS:mg "Signs"=some (.ref CS)
 mgN:mg "NoRow"=some (.ref CN)
 exN:PySem.W.excIn K CN DE "ValueError.__new__"=true
 len:mg "len"=none
 all:mg "all"=none
 int:mg "int"=none
 let_: ∃t,mg "LETTERS"=some (.str LET t)
 fig: ∃t,mg "FIGURES"=some (.str FIG t)
 tak: ∃a,mg "TAKEN_WORDS"=some (.ref a)/\ ∀H:Hp,SqT K H a Hv
 n8: ∃t,mg "LONGEST_NAME"=some (.int 8 t)
 n3: ∃t,mg "LONGEST_NUMBER"=some (.int 3 t)
 n60: ∃t,mg "LONGEST_EXPRESSION"=some (.int 60 t)
 n5: ∃t,mg "DEEPEST_BRACKET"=some (.int 5 t)
theorem cK {H:Hp}{p:B5}(h:H p=none)(o:HO):Same H (upd H p o):=fun b u q=>by rw[ar (aY q h)];exact q
theorem G1 {n:Nat}(h:n<=1000):n<=sizeLine:=AM (io h)
theorem ij {α:Type}{l:List α}{i:Nat}{x:α}(h:l[i]?=some x):l.take (i+1)=l.take i++[x]:=by
 obtain⟨hi,e⟩:=zO.mp h
 rw[Ae,h]
 rfl
theorem xW {α:Type}{xs:List α}{i:Int}{v:α}(h0:0<=i)(h:xs[i.toNat]?=some v):atI xs i=some v:=by
 have q:=i6 h
 have e:((i.toNat:Nat):Int)=i:=by omega
 rw[e] at q;exact q
theorem aO (w:Str):w.cps.toList.length=w.length:=by simp [Str.length]
theorem yesT {σ:St}{H:Hp}{A B:Hp->Prop}(h:A H):Ht σ H (fun b H3=>if b=true then A H3 else B H3):=by
 show if true=true then A H else B H
 rw[if_pos rfl];exact h
section
variable {P:B2}{w:B3}{K:PySem.W.Frag}{mg:Str->Option BZ}{base:B4}{f CS CN:B5}{fd:CW}
def i9:Sp:=fun vs H Q _=> ∃z:Str,vs=[.str z]/\z.length<=sizeLine/\ ∀H',Same H H'->Q (.bl (ah z)) H'
theorem vV:Dm ["word"] ["word"] (ae iR):=⟨rfl,rfl,rfl,by decide+kernel,rfl,by decide+kernel,by decide+kernel⟩
theorem rQ:((["sign", ".0"]:List Str)++(["word"]:List Str).map (hid ["sign", ".0"])).Nodup:=by decide+kernel
theorem qw (z:Str):inV (.str z) Hv=decide (z∈Hu):=by
 unfold inV Hv
 rw[Ao,Bo,decide_eq_true_eq]
 constructor
 ·rintro⟨v,hv,h⟩
  obtain⟨y,hy,rfl⟩:=zE.mp hv
  have:y=z:=by simpa [eqV] using h
  subst this;exact hy
 ·intro h
  exact⟨.str z,zE.mpr ⟨z,h,rfl⟩,by simp [eqV]⟩
theorem oH:Hv.all D7=true:=by decide+kernel
theorem ub (F:Fun K "is_name" "is_name" iR f fd)(T:Txt K mg CS CN):FnOk P w K mg base CX0 1 f fd ["word"] i9:=by
 refine F.ok vV (fun vs H Q E h=>?_) (fun cdv A outer s H vs Q E hr h=>?_)
 ·obtain⟨z,rfl,_⟩:=h
  rfl
 obtain⟨z,rfl,hz,q⟩:=h
 obtain⟨t8,h8⟩:=T.n8
 obtain⟨tL,hL⟩:=T.let_
 obtain⟨aT,hT,sT⟩:=T.tak
 refine⟨_,au (fu (PW.pt (rj (c9 rG (cP DJ rfl T.len PySem.boot_len (ai (pv 0) FW)) F7 (dH _))
   (oj (c9 kg (cP DJ rfl T.len PySem.boot_len (ai (pv 0) FW)) (cO (v:=.int 8) rfl h8 ⟨_,rfl⟩) (dH _))))) (aI (b5 F4)) Gd)
  (aI (b5 (ou (cP (nB rfl) rfl T.all PyProof.Rows.boot_all (ai (kZ (ls:=["sign", ".0"]) rfl (.of (ae iR)) (oq (pv 0)) (fun _ _ _ _=>aJ (i:=0) rQ rfl (Or.inl rfl) (.inr rfl)) (fun _ _ _ _=>kY)
      (fun _ _ _ _=>gc FJ (pv 0) (cO (v:=.str LET) rfl hL ⟨_,rfl⟩) (by with_unfolding_all rfl))) FW))
   (ot (gc FQ (pv 0) (cO (v:=.ref aT) rfl hT rfl) (by with_unfolding_all rfl)))))),?_⟩
 refine⟨_,rfl,z,rfl,hz,_,_,rfl,rfl,_,rfl,?_⟩
 have no: ¬(1<=z.length/\z.length<=8)->ah z=false:=fun h=>by unfold ah;rw[decide_eq_false h];rfl
 refine Ew (fun c=>?_) (fun c=>?_)
 ·have c1:(z.length:Int)<1:=of_decide_eq_true c
  refine Ez ?_
  have:=q H (Same.refl _)
  rw[no (by omega)] at this
  exact this
 ·have c1: ¬(z.length:Int)<1:=of_decide_eq_false (Ax.mpr c)
  refine⟨_,rfl,z,rfl,hz,_,_,rfl,rfl,_,rfl,?_⟩
  refine Ew (fun c=>?_) (fun c=>?_)
  ·have c2:(z.length:Int)>8:=of_decide_eq_true c
   have:=q H (Same.refl _)
   rw[no (by omega)] at this
   exact this
  ·have c2: ¬(z.length:Int)>8:=of_decide_eq_false (Ax.mpr c)
   have yes:ah z=(z.cps.toList.all Er && !decide (z∈Hu)):=by
    unfold ah
    rw[decide_eq_true (by omega:1<=z.length/\z.length<=8)];rfl
   refine⟨rfl,_,rfl,z,rfl,nu (fun i ys H'=>H'=H/\ys=((z.cps.toList.take i).map Er).map V.bl) ⟨rfl,rfl⟩ ?_ ?_⟩
   ·rintro i c0 ys H' hc ⟨rfl,rfl⟩
    refine⟨rfl,rfl,yesT ?_⟩
    refine⟨_,rfl,_,_,rfl,rfl,?_,rfl,?_⟩
    ·rw[zr,zr,z7]
     exact io (by rw[aO];omega)
    ·rw[ij hc,zw,zw,oF];rfl
   ·rintro ys H' ⟨rfl,rfl⟩ D hD
    refine⟨D,(z.cps.toList.take z.cps.size).map Er,rfl,SqL.of aM,_,rfl,?_⟩
    have ea:((z.cps.toList.take z.cps.size).map Er).all id=z.cps.toList.all Er:=by
     have:z.cps.size=z.cps.toList.length:=by simp
     rw[this,Ab,Bq];rfl
    rw[ea]
    cases hb:z.cps.toList.all Er with
    |false=>
     refine Ey ?_
     have this: ∀L,Q _ (upd H' D (.lst L)):=fun L=>q _ (cK hD _)
     rw[yes,hb] at this
     exact this _
    |true=>
     refine Ez ⟨_,rfl,aT,Hv,rfl,.inr (sT _),rfl,oH,?_⟩
     have this: ∀L,Q _ (upd H' D (.lst L)):=fun L=>q _ (cK hD _)
     rw[yes,hb,<-qw] at this
     exact this _
def G6:Sp:=fun vs H Q _=> ∃z:Str,vs=[.str z]/\z.length<=sizeLine/\ ∀H',Same H H'->Q (.bl (Fu z)) H'
theorem scNum:Dm ["word"] ["word"] (ae kQ):=⟨rfl,rfl,rfl,by decide+kernel,rfl,by decide+kernel,by decide+kernel⟩
theorem wL (F:Fun K "is_number" "is_number" kQ f fd)(T:Txt K mg CS CN):FnOk P w K mg base CX0 1 f fd ["word"] G6:=by
 refine F.ok scNum (fun vs H Q E h=>?_) (fun cdv A outer s H vs Q E hr h=>?_)
 ·obtain⟨z,rfl,_⟩:=h
  rfl
 obtain⟨z,rfl,hz,q⟩:=h
 obtain⟨t3,h3⟩:=T.n3
 obtain⟨tL,hL⟩:=T.fig
 refine⟨_,au (fu (PW.pt (rj (c9 rG (cP DJ rfl T.len PySem.boot_len (ai (pv 0) FW)) F7 (dH _))
   (oj (c9 kg (cP DJ rfl T.len PySem.boot_len (ai (pv 0) FW)) (cO (v:=.int 3) rfl h3 ⟨_,rfl⟩) (dH _))))) (aI (b5 F4)) Gd)
  (au (fu (PW.pt (rk (c9 FH (o5 lE (pv 0) F7 (fun _ _=>rfl)) F8 (dH _)) (oZ (c9 FP (pv 0) F8 (dH _))))) (aI (b5 F4)) Gd)
  (aI (b5 (cP (nB rfl) rfl T.all PyProof.Rows.boot_all (ai (kZ (ls:=["sign", ".0"]) rfl (.of (ae kQ)) (oq (pv 0)) (fun _ _ _ _=>aJ (i:=0) rQ rfl (Or.inl rfl) (.inr rfl)) (fun _ _ _ _=>kY)
      (fun _ _ _ _=>gc FJ (pv 0) (cO (v:=.str FIG) rfl hL ⟨_,rfl⟩) (by with_unfolding_all rfl))) FW))))),?_⟩
 refine⟨_,rfl,z,rfl,hz,_,_,rfl,rfl,_,rfl,?_⟩
 have no: ¬(1<=z.length/\z.length<=3)->Fu z=false:=fun h=>by unfold Fu;rw[decide_eq_false h];rfl
 refine Ew (fun c=>?_) (fun c=>?_)
 ·have c1:(z.length:Int)<1:=of_decide_eq_true c
  refine Ez ?_
  have:=q H (Same.refl _)
  rw[no (by omega)] at this
  exact this
 ·have c1: ¬(z.length:Int)<1:=of_decide_eq_false (Ax.mpr c)
  refine⟨_,rfl,z,rfl,hz,_,_,rfl,rfl,_,rfl,?_⟩
  refine Ew (fun c=>?_) (fun c=>?_)
  ·have c2:(z.length:Int)>3:=of_decide_eq_true c
   have:=q H (Same.refl _)
   rw[no (by omega)] at this
   exact this
  ·have c2: ¬(z.length:Int)>3:=of_decide_eq_false (Ax.mpr c)
   have yes:Fu z=(!(decide (z.cps.toList.head?=some 48) && !decide (z= "0")) && z.cps.toList.all En):=by
    unfold Fu
    rw[decide_eq_true (by omega:1<=z.length/\z.length<=3)];rfl
   obtain⟨c0,r0,e0⟩: ∃c0 r0,z.cps.toList=c0::r0:=by
    cases h:z.cps.toList with
    |nil=>have:=aO z;rw[h] at this;simp at this;omega
    |cons a b=>exact⟨a,b,rfl⟩
   refine⟨_,rfl,z,0,c0,rfl,rfl,hz,by rw[e0];exact xW (by decide) rfl,rfl,_,rfl,?_⟩
   have h48:decide (V.str ⟨#[c0]⟩=V.str "0")=decide (z.cps.toList.head?=some 48):=by
    rw[e0,decide_eq_decide]
    constructor
    ·intro h
     have h1:=V.str.inj h
     have h2:(#[c0]:Array Nat)=("0":Str).cps:=congrArg Str.cps h1
     have h3:("0":Str).cps= #[48]:=by decide+kernel
     rw[h3] at h2
     have:c0=48:=by simpa using h2
     subst this;rfl
    ·intro h
     have:c0=48:=by simpa using h
     subst this
     have h3:(⟨#[48]⟩:Str)= "0":=by decide+kernel
     rw[h3]
   have fin:(!(decide (z.cps.toList.head?=some 48) && !decide (z= "0")))=true->tRet (tCB (fun xs H Q=> ∃ (p:B5) (bs:List Bool),xs=[.ref p]/\SqL K H p (bs.map V.bl)/\Q (.bl (bs.all id)) H) (Hm (Hl ["word"] ["sign", ".0"] (iStr (Hs 0)) (Ed 0) Ht (tOp (fun x y H Q=> ∃i j,x=.str i/\y=.str j/\Q (.bl (!(B1.Str.occurrences j i 0 j.length 1).isEmpty)) H) (Hs 0) (tC (.str FIG)))) Hq)) {nx:=fun _ H'=>Q .non H',rt:=Q} (Hd ["word"] [.str z]) H:=by
    intro hb
    refine⟨rfl,_,rfl,z,rfl,nu (fun i ys H'=>H'=H/\ys=((z.cps.toList.take i).map En).map V.bl) ⟨rfl,rfl⟩ ?_ ?_⟩
    ·rintro i c0 ys H' hc ⟨rfl,rfl⟩
     refine⟨rfl,rfl,yesT ?_⟩
     refine⟨_,rfl,_,_,rfl,rfl,?_,rfl,?_⟩
     ·rw[zr,zr,z7]
      exact io (by rw[aO];omega)
     ·rw[ij hc,zw,zw,oF];rfl
    ·rintro ys H' ⟨rfl,rfl⟩ D hD
     refine⟨D,(z.cps.toList.take z.cps.size).map En,rfl,SqL.of aM,?_⟩
     have ea:((z.cps.toList.take z.cps.size).map En).all id=z.cps.toList.all En:=by
      have:z.cps.size=z.cps.toList.length:=by simp
      rw[this,Ab,Bq];rfl
     rw[ea]
     have this: ∀L,Q _ (upd H' D (.lst L)):=fun L=>q _ (cK hD _)
     rw[yes,hb,Bs] at this
     exact this _
   rw[h48]
   refine Ew (fun c=>?_) (fun c=>?_)
   ·refine⟨_,rfl,rfl,_,rfl,?_⟩
    have e2:decide (V.str z=V.str "0")=decide (z= "0"):=by
     rw[decide_eq_decide];exact⟨V.str.inj,congrArg V.str⟩
    rw[e2]
    refine Ew (fun c2=>?_) (fun c2=>?_)
    ·have:=q H (Same.refl _)
     rw[yes,c,c2] at this
     exact this
    ·exact fin (by rw[c,Ax.mpr c2];rfl)
   ·exact fin (by rw[Ax.mpr c];rfl)
end
end Q
namespace Q
open PySem L2 Wd
structure CF (P:B2)(w:B3)(K:PySem.W.Frag)(mg:Str->Option BZ)(base:B4)(CX:CXT)(k:Nat)(x:Str)(f:B5)(fd:CW)(ps:List Str)(sp:Sp):Prop where
 ok:FnOk P w K mg base CX k f fd ps sp
 bi:Binds K fd ps []
 kp:BW K (.ref f)=true
 mg:mg x=some (.ref f)
structure CM (P:B2)(w:B3)(K:PySem.W.Frag)(mg:Str->Option BZ)(base:B4)(CX:CXT)(k:Nat)(C:B5)(m:Str)(f:B5)(fd:CW)(ps:List Str)(sp:Sp):Prop where
 ok:FnOk P w K mg base CX k f fd ps sp
 bi:Binds K fd ps []
 me:Dp K C m f
theorem qI: ¬(("word":Str)= "place"):=by decide+kernel
def Ea (z:Str)(p:Int):List (Str×V):=Ge "place" (.int p) (Ge "word" (.str z) [])
theorem i0 (z:Str)(p:Int):Ea z p=([("word",V.str z),("place",V.int p)]:List (Str×V)):=by
 show (if ("word":Str)= "place" then [(("word":Str),V.int p)] else (("word":Str),V.str z)::Ge "place" (V.int p) [])=([("word",V.str z),("place",V.int p)]:List (Str×V))
 rw[if_neg qI]
 all_goals rfl
theorem gp (z:Str)(p:Int):(Ea z p).lookup ("word":Str)=some (.str z):=by
 unfold Ea
 rw[b9,if_neg qI,b9,if_pos rfl]
theorem cE (z:Str)(p:Int):(Ea z p).lookup ("place":Str)=some (.int p):=by
 unfold Ea
 rw[b9,if_pos rfl]
theorem cA (z:Str)(p:Int){m:Str}(h1: ¬m= "place")(h2: ¬m= "word"):(Ea z p).lookup m=none:=by
 unfold Ea
 rw[b9,if_neg h1,b9,if_neg h2]
 all_goals rfl
theorem mX (z:Str)(p y:Int):Ge "place" (.int y) (Ea z p)=Ea z y:=by
 rw[i0,i0]
 show (if ("word":Str)= "place" then _ else (("word":Str),V.str z)::(if ("place":Str)= "place" then [(("place":Str),V.int y)] else _))=([("word",V.str z),("place",V.int y)]:List (Str×V))
 rw[if_neg qI,if_pos rfl]
def SgAt (C:B5)(H:Hp)(a:B5)(z:Str)(p:Nat):Prop:=z.length<=sizeLine/\p<=z.length/\ ∃dx,H a=some (.ins C dx (Ea z (p:Int)))
def Moved (H H':Hp)(a:B5):Prop:= ∀b o,b≠a->H b=some o->H' b=some o
theorem Moved.refl (H:Hp)(a:B5):Moved H H a:=fun _ _ _ h=>h
theorem Moved.trans {H H1 H2:Hp}{a:B5}(x:Moved H H1 a)(y:Moved H1 H2 a):Moved H H2 a:=fun b o hb h=>y b o hb (x b o hb h)
theorem Moved.same {H H1:Hp}{a:B5}(x:Same H H1):Moved H H1 a:=fun b o _ h=>x b o h
theorem gf {H:Hp}{a:B5}(o:HO):Moved H (upd H a o) a:=fun b u hb h=>by rw[ar hb];exact h
theorem SgAt.same {C:B5}{H H':Hp}{a:B5}{z:Str}{p:Nat}(g:Same H H')(h:SgAt C H a z p):SgAt C H' a z p:=let ⟨h1,h2,dx,e⟩:=h;⟨h1,h2,dx,g _ _ e⟩
noncomputable def cn (z:Str)(p:Nat)(y:Str):Bool:=match z.cps.toList.drop p with
 |[]=>false
 |c::_=>decide (c∈y.cps.toList)
section
variable {P:B2}{w:B3}{K:PySem.W.Frag}{mg:Str->Option BZ}{base:B4}{f CS CN fD fS:B5}{fd fdD fdS:CW}
def oT (C:B5):Sp:=fun vs H Q _=> ∃ (a dx:B5) (z:Str),vs=[.ref a,.str z]/\H a=some (.ins C dx [])/\z.length<=sizeLine/\ ∀H',Moved H H' a->SgAt C H' a z 0->Q .non H'
theorem tH:Dm ["self", "word"] ["self", "word"] (ae oa):=⟨rfl,rfl,rfl,by decide+kernel,rfl,by decide+kernel,by decide+kernel⟩
theorem rL (F:Fun K "__init__" "Signs.__init__" oa f fd)(T:Txt K mg CS CN):FnOk P w K mg base CX0 1 f fd ["self", "word"] (oT CS):=by
 refine F.ok tH (fun vs H Q E h=>?_) (fun cdv A outer s H vs Q E hr h=>?_)
 ·obtain⟨a,dx,z,rfl,_⟩:=h
  rfl
 obtain⟨a,dx,z,rfl,hp,hz,k⟩:=h
 refine⟨_,au (om (pv 0) (pv 1) rfl) (aI (om (pv 0) F7 rfl)),?_⟩
 refine⟨_,rfl,_,rfl,a,CS,dx,[],rfl,hp,T.cl,T.nw,(by show 0<1000;decide),_,rfl,a,CS,dx,_,rfl,aM,T.cl,T.np,(by show 1<1000;decide),?_⟩
 exact k _ ((gf _).trans (gf _)) ⟨hz,zL _,dx,aM⟩
def kL (C:B5):Sp:=fun vs H Q _=> ∃ (a:B5) (z:Str) (p:Nat),vs=[.ref a]/\SgAt C H a z p/\Q (.bl (decide (p=z.length))) H
theorem vW:Dm ["self"] ["self"] (ae oe):=⟨rfl,rfl,rfl,by decide+kernel,rfl,by decide+kernel,by decide+kernel⟩
theorem uf (F:Fun K "is_done" "Signs.is_done" oe f fd)(T:Txt K mg CS CN):FnOk P w K mg base CX0 1 f fd ["self"] (kL CS):=by
 refine F.ok vW (fun vs H Q E h=>?_) (fun cdv A outer s H vs Q E hr h=>?_)
 ·obtain⟨a,z,p,rfl,_⟩:=h
  rfl
 obtain⟨a,z,p,rfl,⟨hz,hp,dx,ha⟩,k⟩:=h
 refine⟨_,aI (b5 (gc FH (d9 (pv 0) rfl) (cP DJ rfl T.len PySem.boot_len (ai (d9 (pv 0) rfl) FW)) (dH _))),?_⟩
 refine⟨_,rfl,a,CS,dx,_,_,rfl,ha,T.cl,T.np,cE _ _,_,rfl,a,CS,dx,_,_,rfl,ha,T.cl,T.nw,gp _ _,z,rfl,hz,rfl,?_⟩
 have e:decide (V.int (p:Int)=V.int (z.length:Int))=decide (p=z.length):=by
  rw[decide_eq_decide]
  exact⟨fun h=>by have:=V.int.inj h;omega,fun h=>by rw[h]⟩
 show Q (.bl (decide (V.int (p:Int)=V.int (z.length:Int)))) H
 rw[e]
 exact k
def dm (C:B5):Sp:=fun vs H Q _=> ∃ (a:B5) (z:Str) (p:Nat) (y:Str),vs=[.ref a,.str y]/\SgAt C H a z p/\Q (.bl (cn z p y)) H
theorem q9:Dm ["self", "wanted"] ["self", "wanted"] (ae jh):=⟨rfl,rfl,rfl,by decide+kernel,rfl,by decide+kernel,by decide+kernel⟩
theorem vh {z:Str}{p:Nat}(h:p<z.length): ∃c,z.cps.toList[p]?=some c/\z.cps.toList.drop p=c::z.cps.toList.drop (p+1):=by
 have hl:p<z.cps.toList.length:=by rw[aO];exact h
 exact⟨z.cps.toList[p],Ah hl,AJ hl⟩
theorem p9 (F:Fun K "stands_one_of" "Signs.stands_one_of" jh f fd)(T:Txt K mg CS CN)(M:CM P w K mg base CX0 1 CS "is_done" fD fdD ["self"] (kL CS)):FnOk P w K mg base CX0 2 f fd ["self", "wanted"] (dm CS):=by
 refine F.ok q9 (fun vs H Q E h=>?_) (fun cdv A outer s H vs Q E hr h=>?_)
 ·obtain⟨a,z,p,y,rfl,_⟩:=h
  rfl
 obtain⟨a,z,p,y,rfl,S,k⟩:=h
 obtain⟨hz,hp,dx,ha⟩:=id S
 refine⟨_,aI (b5 (ou (rC (dF (pv 0) T.cl M.me M.ok hr M.bi .nil FY)) (ot (gc FJ (o5 lE (d9 (pv 0) rfl) (d9 (pv 0) rfl) (fun _ _=>rfl)) (pv 1) (by with_unfolding_all rfl))))),?_⟩
 refine⟨_,rfl,a,dx,_,rfl,ha,cA _ _ (by decide+kernel) (by decide+kernel),a,z,p,rfl,S,_,rfl,_,rfl,?_⟩
 by_cases hd:p=z.length
 ·rw[decide_eq_true hd]
  refine Ey ?_
  have e:cn z p y=false:=by
   unfold cn
   rw[BK (by rw[aO];omega)]
  rw[e] at k
  exact k
 ·rw[decide_eq_false hd]
  obtain⟨c,hc,hdr⟩:=vh (z:=z) (p:=p) (by omega)
  refine Ez ⟨_,rfl,a,CS,dx,_,_,rfl,ha,T.cl,T.nw,gp _ _,_,rfl,a,CS,dx,_,_,rfl,ha,T.cl,T.np,cE _ _,z,(p:Int),c,rfl,rfl,hz,i6 hc,_,rfl,_,_,rfl,rfl,?_⟩
  have e:cn z p y=decide (c∈y.cps.toList):=by
   unfold cn
   rw[hdr]
  rw[e] at k
  rw[oF]
  exact k
def ik (C:B5):Sp:=fun vs H Q _=> ∃ (a:B5) (z:Str) (p:Nat) (c:Nat),vs=[.ref a]/\SgAt C H a z p/\z.cps.toList[p]?=some c/\ ∀H',Moved H H' a->SgAt C H' a z (p+1)->Q (.str ⟨#[c]⟩) H'
theorem GO:Dm ["self", "sign"] ["self"] (ae n9):=⟨rfl,rfl,rfl,by decide+kernel,rfl,by decide+kernel,by decide+kernel⟩
theorem gX {z:Str}{p c:Nat}(h:z.cps.toList[p]?=some c):p<z.length:=by rw[<-aO];exact (zO.mp h).1
theorem ua (F:Fun K "take_sign" "Signs.take_sign" n9 f fd)(T:Txt K mg CS CN):FnOk P w K mg base CX0 1 f fd ["self"] (ik CS):=by
 refine F.ok GO (fun vs H Q E h=>?_) (fun cdv A outer s H vs Q E hr h=>?_)
 ·obtain⟨a,z,p,c,rfl,_⟩:=h
  rfl
 obtain⟨a,z,p,c,rfl,⟨hz,hp,dx,ha⟩,hc,k⟩:=h
 refine⟨_,au (c7 (i:=1) GO.nd rfl (Or.inl rfl) (o5 lE (d9 (pv 0) rfl) (d9 (pv 0) rfl) (fun _ _=>rfl))) (au (ke (pv 0) F7 sv) (aI (b5 (pv 1)))),?_⟩
 refine⟨_,rfl,a,CS,dx,_,_,rfl,ha,T.cl,T.nw,gp _ _,_,rfl,a,CS,dx,_,_,rfl,ha,T.cl,T.np,cE _ _,z,(p:Int),c,rfl,rfl,hz,i6 hc,?_⟩
 refine⟨_,rfl,a,CS,dx,_,_,rfl,ha,T.cl,T.np,cE _ _,_,_,rfl,rfl,dx,_,ha,(by rw[i0];show 2<1000;decide),_,rfl,?_⟩
 refine k _ (gf _) ⟨hz,gX hc,dx,?_⟩
 rw[aM,mX]
 rfl
def G7 (C:B5):Sp:=fun vs H Q _=> ∃ (a:B5) (z:Str) (p:Nat) (y:Str),vs=[.ref a,.str y]/\SgAt C H a z p/\
 ∀H',Moved H H' a->SgAt C H' a z (p+((z.cps.toList.drop p).takeWhile fun c=>decide (c∈y.cps.toList)).length)->Q (.str ⟨((z.cps.toList.drop p).takeWhile fun c=>decide (c∈y.cps.toList)).toArray⟩) H'
theorem GN:Dm ["self", "wanted", "begin"] ["self", "wanted"] (ae GE):=⟨rfl,rfl,rfl,by decide+kernel,rfl,by decide+kernel,by decide+kernel⟩
theorem wK (F:Fun K "run_of" "Signs.run_of" GE f fd)(T:Txt K mg CS CN)(M:CM P w K mg base CX0 2 CS "stands_one_of" fS fdS ["self", "wanted"] (dm CS)):FnOk P w K mg base CX0 3 f fd ["self", "wanted"] (G7 CS):=by
 refine F.ok GN (fun vs H Q E h=>?_) (fun cdv A outer s H vs Q E hr h=>?_)
 ·obtain⟨a,z,p,y,rfl,_⟩:=h
  rfl
 obtain⟨a,z,p,y,rfl,S,k⟩:=h
 obtain⟨hz,hp,dx,ha⟩:=id S
 refine⟨_,au (c7 (i:=2) GN.nd rfl (Or.inl rfl) (d9 (pv 0) rfl))
  (au (jj CI.never (eN (eO (pv 0) T.cl M.me M.ok hr M.bi .nil FY (ai (pv 1) FW))) (aI (ke (pv 0) F7 sv)))
  (aI (b5 (mw GX (d9 (pv 0) rfl) (kW (pv 2)) (kW (d9 (pv 0) rfl)))))),?_⟩
 refine⟨_,rfl,a,CS,dx,_,_,rfl,ha,T.cl,T.np,cE _ _,?_⟩
 refine⟨fun m σ H'=> ∃j,σ=[some (.ref a),some (.str y),some (.int (p:Int))]/\Moved H H' a/\SgAt CS H' a z (p+j)/\m=z.length - (p+j)/\
  (z.cps.toList.drop p).takeWhile (fun c=>decide (c∈y.cps.toList))=(z.cps.toList.drop p).take j++(z.cps.toList.drop (p+j)).takeWhile (fun c=>decide (c∈y.cps.toList))/\j<=(z.cps.toList.drop p).length,⟨_,0,rfl,Moved.refl _ _,S,rfl,by simp,zL _⟩,?_⟩
 rintro m σ H' ⟨j,rfl,mv,S',rfl,tw,jl⟩
 obtain⟨hz',hp',dx',ha'⟩:=id S'
 refine⟨_,rfl,a,dx',_,rfl,ha',cA _ _ (by decide+kernel) (by decide+kernel),_,rfl,a,z,p+j,y,rfl,S',_,rfl,?_⟩
 refine Ew (fun c=>?_) (fun c=>?_)
 ·have lt:p+j<z.length:=by
   rcases Nat.lt_or_ge (p+j) z.length with h|h
   ·exact h
   ·unfold cn at c
    rw[BK (by rw[aO];exact h)] at c
    cases c
  obtain⟨c0,hc0,hdr⟩:=vh lt
  have cw:decide (c0∈y.cps.toList)=true:=by
   unfold cn at c
   rw[hdr] at c
   exact c
  refine⟨_,fun σ' H'' h=>h,⟨_,rfl,a,CS,dx',_,_,rfl,ha',T.cl,T.np,cE _ _,_,_,rfl,rfl,dx',_,ha',(by rw[i0];show 2<1000;decide),?_⟩⟩
  refine⟨z.length - (p+(j+1)),by omega,j+1,rfl,mv.trans (gf _),⟨hz,by omega,dx',?_⟩,rfl,?_,?_⟩
  ·rw[aM,mX]
   show some (HO.ins CS dx' (Ea z (((p+j:Nat):Int)+1)))=some (HO.ins CS dx' (Ea z ((p+(j+1):Nat):Int)))
   have:((p+j:Nat):Int)+1=((p+(j+1):Nat):Int):=by omega
   rw[this]
  ·rw[tw,hdr,AZ,if_pos cw]
   have:(z.cps.toList.drop p)[j]?=some c0:=by rw[Bh];exact hc0
   rw[ij this,zV]
   rfl
  ·rw[Al,aO];omega
 ·have tn:(z.cps.toList.drop (p+j)).takeWhile (fun c=>decide (c∈y.cps.toList))=[]:=by
   unfold cn at c
   split at c
   ·rename_i h;rw[h];rfl
   ·rename_i c1 r1 h
    rw[h,AZ,if_neg c]
  rw[tn,zZ] at tw
  have tl:((z.cps.toList.drop p).takeWhile fun c=>decide (c∈y.cps.toList)).length=j:=by rw[tw,z7];omega
  refine⟨_,rfl,a,CS,dx',_,_,rfl,ha',T.cl,T.nw,gp _ _,_,rfl,_,rfl,_,rfl,a,CS,dx',_,_,rfl,ha',T.cl,T.np,cE _ _,_,rfl,z,rfl,hz,?_⟩
  have q:=k H' mv (by rw[tl];exact S')
  rw[StrLaws.sliceText_nat z (a:=p) (b:=p+j) (by omega) hp',Nat.add_sub_cancel_left,<-tw]
  exact q
end
end Q
namespace Q
open PySem L2 Wd
def IsE (H:Hp):Exp->V->Prop
 |.num n,v=> ∃p,v=.ref p/\H p=some (.tup [.str "number",.int n])
 |.box x,v=> ∃p,v=.ref p/\H p=some (.tup [.str "box",.str x])
 |.bin s l r,v=> ∃p a b,v=.ref p/\H p=some (.tup [.str s,a,b])/\IsE H l a/\IsE H r b
theorem IsE.mono {H H':Hp}(g:Same H H'): ∀ {e:Exp}{v:V},IsE H e v->IsE H' e v
 |.num _,_,⟨p,e,h⟩=>⟨p,e,g _ _ h⟩
 |.box _,_,⟨p,e,h⟩=>⟨p,e,g _ _ h⟩
 |.bin _ _ _,_,⟨p,a,b,e,h,h1,h2⟩=>⟨p,a,b,e,g _ _ h,h1.mono g,h2.mono g⟩
theorem nN {H:Hp}{a p C dx:B5}{fs:List (Str×V)}{xs:List V}(ha:H a=some (.ins C dx fs))(h:H p=some (.tup xs)):p≠a:=fun z=>by rw[z,ha] at h;cases h
theorem IsE.moved {H H':Hp}{a C dx:B5}{fs:List (Str×V)}(ha:H a=some (.ins C dx fs))(g:Moved H H' a): ∀ {e:Exp}{v:V},IsE H e v->IsE H' e v
 |.num _,_,⟨p,e,h⟩=>⟨p,e,g _ _ (nN ha h) h⟩
 |.box _,_,⟨p,e,h⟩=>⟨p,e,g _ _ (nN ha h) h⟩
 |.bin _ _ _,_,⟨p,x,y,e,h,h1,h2⟩=>⟨p,x,y,e,g _ _ (nN ha h) h,h1.moved ha g,h2.moved ha g⟩
def fq (C CN:B5)(H:Hp)(a:B5)(z:Str)(Q:VK)(E:XK):Option (Exp×List Nat)->Prop
 |some (e,r)=> ∀v H',Moved H H' a->SgAt C H' a z (z.length - r.length)->IsE H' e v->Q v H'
 |none=> ∀H',Moved H H' a->E (.ref CN) none H'
def dz (C CN:B5)(fP:Nat->List Nat->Option (Exp×List Nat))(m:Nat):Sp:=fun vs H Q E=> ∃ (a:B5) (z:Str) (p:Nat),vs=[.ref a,.int (5 - (m:Int))]/\SgAt C H a z p/\fq C CN H a z Q E (fP m (z.cps.toList.drop p))
def brP:Nat->List Nat->Option (Exp×List Nat)
 |0,_=>none
 |m+1,r=>bG (cJ m) r
theorem qA (m:Nat)(l:List Nat):aR m l=if l.head?=some 40 then brP m l.tail else EM l:=by
 cases m<;>rfl
def G3 (C CN:B5)(m:Nat):Sp:=fun vs H Q E=> ∃ (a:B5) (z:Str) (p:Nat) (r:List Nat),vs=[.ref a,.int (6 - (m:Int))]/\m<=5/\SgAt C H a z p/\z.cps.toList.drop p=40::r/\fq C CN H a z Q E (brP m r)
theorem jL {f:List Nat->Option (Exp×List Nat)}{ops:List Nat}{e:Exp}: ∀ {n:Nat}{l:List Nat},(∀c r,l=c::r-> ¬c∈ops)->DM f ops n e l=some (e,l)
 |0,_,_=>rfl
 |_+1,[],_=>rfl
 |_+1,c::r,h=>by
  unfold DM
  rw[if_neg (h c r rfl)]
theorem vj:("+-":Str).cps.toList=FU:=by decide+kernel
theorem vk:("*":Str).cps.toList=FS:=by decide+kernel
theorem yp:("(":Str).cps.toList=[40]:=by decide+kernel
theorem yo:(")":Str).cps.toList=[41]:=by decide+kernel
theorem nq {z:Str}{p:Nat}(hp:p<=z.length):z.length - (z.cps.toList.drop p).length=p:=by rw[Al,aO];omega
theorem fk {z:Str}{p c:Nat}{r:List Nat}(h:z.cps.toList.drop p=c::r):z.cps.toList[p]?=some c/\z.cps.toList.drop (p+1)=r:=by
 refine⟨?_,?_⟩
 ·have:(z.cps.toList.drop p)[0]?=some c:=by rw[h];rfl
  rw[Bh] at this
  exact this
 ·have:=congrArg (List.drop 1) h
  rw[List.drop_drop] at this
  exact this
theorem sP {f:List Nat->Option (Exp×List Nat)}{r:List Nat}(h:f r=none):bG f r=none:=by unfold bG;rw[h]
theorem vd {f:List Nat->Option (Exp×List Nat)}{r r2:List Nat}{e:Exp}(h:f r=some (e,41::r2)):bG f r=some (e,r2):=by unfold bG;rw[h];rfl
theorem sO {f:List Nat->Option (Exp×List Nat)}{r r1:List Nat}{e:Exp}(h:f r=some (e,r1))(h2: ¬r1.head?=some 41):bG f r=none:=by
 unfold bG
 rw[h]
 split
 ·rename_i heq
  cases heq
  exact absurd rfl h2
 ·rfl
theorem hW {C:B5}{H:Hp}{a:B5}{z:Str}{p:Nat}{r:List Nat}(h:r<:+z.cps.toList.drop p):z.cps.toList.drop (z.length - r.length)=r:=by
 have:=(qU (w:=z.cps.toList) rfl h).1
 rw[aO] at this
 exact this.symm
section
variable {P:B2}{w:B3}{K:PySem.W.Frag}{mg:Str->Option BZ}{base:B4}{f CS CN fG fS fK:B5}{fd fdG fdS fdK:CW}
theorem GP:Dm ["signs", "depth", "e", "sign"] ["signs", "depth"] (ae kP):=⟨rfl,rfl,rfl,by decide+kernel,rfl,by decide+kernel,by decide+kernel⟩
theorem mz {m k:Nat}(hk:2<=k)(F:Fun K "read_terms" "read_terms" kP f fd)(T:Txt K mg CS CN)(G:CF P w K mg base (CXx P w) k "read_factors" fG fdG ["signs", "depth"] (dz CS CN be m))
  (MS:CM P w K mg base CX0 2 CS "stands_one_of" fS fdS ["self", "wanted"] (dm CS))(MT:CM P w K mg base CX0 1 CS "take_sign" fK fdK ["self"] (ik CS)):FnOk P w K mg base (CXx P w) (k+1) f fd ["signs", "depth"] (dz CS CN cJ m):=by
 refine F.okX GP (fun vs H Q E h=>?_) (fun cdv A outer s H vs Q E hr h=>?_)
 ·obtain⟨a,z,p,rfl,_⟩:=h
  rfl
 obtain⟨a,z,p,rfl,S,k0⟩:=h
 refine⟨_,au (c7 (i:=2) GP.nd rfl (Or.inl rfl) (dc G.ok hr rfl G.mg G.kp G.bi .nil dG (ai (pv 0) (ai (pv 1) FW))))
  (au (jj CI.leaving (eN (eO (pv 0) T.cl MS.me MS.ok (hr.mono hk) MS.bi .nil FY (ai F8 FW)))
   (au (c7 (i:=3) GP.nd rfl (Or.inl rfl) (dF (pv 0) T.cl MT.me MT.ok (hr.mono (by omega)) MT.bi .nil FY))
   (aI (c7 (i:=2) GP.nd rfl (Or.inl rfl) (jp (ai (pv 3) (ai (pv 2) (ai (dc G.ok hr rfl G.mg G.kp G.bi .nil dG (ai (pv 0) (ai (pv 1) FW))) FW))))))))
  (aI (b5 (pv 2)))),?_⟩
 have sufG:Suf (be m):=fO m
 refine⟨_,rfl,_,rfl,a,z,p,rfl,S,?_⟩
 have k1:fq CS CN H a z Q E (FX (be m) FU (z.cps.toList.drop p)):=k0
 unfold FX at k1
 cases hG:be m (z.cps.toList.drop p) with
 |none=>
  rw[hG] at k1
  exact fun H' mv=>k1 H' mv
 |some er=>
  obtain⟨e1,r1⟩:=er
  rw[hG] at k1
  have k1:fq CS CN H a z Q E (DM (be m) FU r1.length e1 r1):=k1
  intro v1 H1 mv1 S1 i1
  have b1:z.cps.toList.drop (z.length - r1.length)=r1:=hW (C:=CS) (H:=H) (a:=a) (sufG _ _ _ hG)
  generalize hR:DM (be m) FU r1.length e1 r1=R at k1
  refine⟨fun mm σ H'=> ∃ (v:V) (e:Exp) (p' n:Nat) (sg:Option V),σ=[some (.ref a),some (.int (5 - (m:Int))),some v,sg]/\Moved H H' a/\SgAt CS H' a z p'/\IsE H' e v/\(z.cps.toList.drop p').length<=n/\
   DM (be m) FU n e (z.cps.toList.drop p')=R/\mm=z.length - p',⟨_,v1,e1,z.length - r1.length,r1.length,none,rfl,mv1,S1,i1,by rw[b1];exact zu _,by rw[b1];exact hR,rfl⟩,?_⟩
  rintro mm σ H' ⟨v,e,p',n,sg,rfl,mv,S',ie,ln,ch,rfl⟩
  obtain⟨hz,hp',dx,ha⟩:=id S'
  refine⟨_,rfl,a,dx,_,rfl,ha,cA _ _ (by decide+kernel) (by decide+kernel),a,z,p', "+-",rfl,S',_,rfl,?_⟩
  refine Ew (fun c=>?_) (fun c=>?_)
  ·unfold cn at c
   cases hd:z.cps.toList.drop p' with
   |nil=>rw[hd] at c;cases c
   |cons c0 r0=>
    rw[hd] at c ch ln
    have c0m:c0∈FU:=by rw[<-vj];exact of_decide_eq_true c
    obtain⟨n,rfl⟩: ∃n',n=n'+1:=⟨n - 1,by rw[zx] at ln;omega⟩
    obtain⟨at0,dr0⟩:=fk hd
    unfold DM at ch
    rw[if_pos c0m] at ch
    refine⟨_,fun σ' H'' h=>h,⟨_,rfl,a,dx,_,rfl,ha,cA _ _ (by decide+kernel) (by decide+kernel),a,z,p',c0,rfl,S',at0,fun H2 mv2 S2=>?_⟩⟩
    obtain⟨_,hp2,dx2,ha2⟩:=id S2
    refine⟨_,rfl,_,rfl,_,rfl,_,rfl,a,z,p'+1,rfl,S2,?_⟩
    rw[dr0]
    cases hG2:be m r0 with
    |none=>
     rw[hG2] at ch
     subst ch
     exact fun H3 mv3=>k1 H3 (mv.trans (mv2.trans mv3))
    |some er2=>
     obtain⟨e2,r2⟩:=er2
     rw[hG2] at ch
     intro v2 H3 mv3 S3 i3
     refine⟨G1 (by show 3<=1000;decide),fun t ht=>?_⟩
     have g4:=cK ht (.tup [.str ⟨#[c0]⟩,v,v2])
     have suf2:r2<:+z.cps.toList.drop (p'+1):=by rw[dr0];exact sufG _ _ _ hG2
     have b2:=hW (C:=CS) (H:=H) (a:=a) suf2
     have l2:r2.length<=r0.length:=(sufG _ _ _ hG2).length_le
     have l0:=gX at0
     have l3:r0.length=z.length - (p'+1):=by rw[<-dr0,Al,aO]
     refine⟨z.length - (z.length - r2.length),by omega,.ref t,.bin ⟨#[c0]⟩ e e2,z.length - r2.length,n,_,rfl,mv.trans (mv2.trans (mv3.trans (Moved.same g4))),S3.same g4,?_,?_,?_,rfl⟩
     ·exact⟨t,v,v2,rfl,aM,((ie.moved ha mv2).moved ha2 mv3).mono g4,i3.mono g4⟩
     ·rw[b2];rw[zx] at ln;omega
     ·rw[b2];exact ch
  ·have st:DM (be m) FU n e (z.cps.toList.drop p')=some (e,z.cps.toList.drop p'):=jL fun c0 r0 hd hm=>by
    unfold cn at c
    rw[hd] at c
    exact c (decide_eq_true (by rw[vj];exact hm))
   rw[st] at ch
   subst ch
   exact⟨_,rfl,k1 v H' mv (by rw[nq hp'];exact S') ie⟩
theorem GM:Dm ["signs", "depth", "e", "sign"] ["signs", "depth"] (ae gJ):=⟨rfl,rfl,rfl,by decide+kernel,rfl,by decide+kernel,by decide+kernel⟩
theorem jt {m k:Nat}(hk:2<=k)(F:Fun K "read_factors" "read_factors" gJ f fd)(T:Txt K mg CS CN)(G:CF P w K mg base (CXx P w) k "read_factor" fG fdG ["signs", "depth"] (dz CS CN aR m))
  (MS:CM P w K mg base CX0 2 CS "stands_one_of" fS fdS ["self", "wanted"] (dm CS))(MT:CM P w K mg base CX0 1 CS "take_sign" fK fdK ["self"] (ik CS)):FnOk P w K mg base (CXx P w) (k+1) f fd ["signs", "depth"] (dz CS CN be m):=by
 refine F.okX GM (fun vs H Q E h=>?_) (fun cdv A outer s H vs Q E hr h=>?_)
 ·obtain⟨a,z,p,rfl,_⟩:=h
  rfl
 obtain⟨a,z,p,rfl,S,k0⟩:=h
 refine⟨_,au (c7 (i:=2) GM.nd rfl (Or.inl rfl) (dc G.ok hr rfl G.mg G.kp G.bi .nil dG (ai (pv 0) (ai (pv 1) FW))))
  (au (jj CI.leaving (eN (eO (pv 0) T.cl MS.me MS.ok (hr.mono hk) MS.bi .nil FY (ai F8 FW)))
   (au (c7 (i:=3) GM.nd rfl (Or.inl rfl) (dF (pv 0) T.cl MT.me MT.ok (hr.mono (by omega)) MT.bi .nil FY))
   (aI (c7 (i:=2) GM.nd rfl (Or.inl rfl) (jp (ai (pv 3) (ai (pv 2) (ai (dc G.ok hr rfl G.mg G.kp G.bi .nil dG (ai (pv 0) (ai (pv 1) FW))) FW))))))))
  (aI (b5 (pv 2)))),?_⟩
 have sufG:Suf (aR m):=eJ m
 refine⟨_,rfl,_,rfl,a,z,p,rfl,S,?_⟩
 have k1:fq CS CN H a z Q E (FX (aR m) FS (z.cps.toList.drop p)):=k0
 unfold FX at k1
 cases hG:aR m (z.cps.toList.drop p) with
 |none=>
  rw[hG] at k1
  exact fun H' mv=>k1 H' mv
 |some er=>
  obtain⟨e1,r1⟩:=er
  rw[hG] at k1
  have k1:fq CS CN H a z Q E (DM (aR m) FS r1.length e1 r1):=k1
  intro v1 H1 mv1 S1 i1
  have b1:z.cps.toList.drop (z.length - r1.length)=r1:=hW (C:=CS) (H:=H) (a:=a) (sufG _ _ _ hG)
  generalize hR:DM (aR m) FS r1.length e1 r1=R at k1
  refine⟨fun mm σ H'=> ∃ (v:V) (e:Exp) (p' n:Nat) (sg:Option V),σ=[some (.ref a),some (.int (5 - (m:Int))),some v,sg]/\Moved H H' a/\SgAt CS H' a z p'/\IsE H' e v/\(z.cps.toList.drop p').length<=n/\
   DM (aR m) FS n e (z.cps.toList.drop p')=R/\mm=z.length - p',⟨_,v1,e1,z.length - r1.length,r1.length,none,rfl,mv1,S1,i1,by rw[b1];exact zu _,by rw[b1];exact hR,rfl⟩,?_⟩
  rintro mm σ H' ⟨v,e,p',n,sg,rfl,mv,S',ie,ln,ch,rfl⟩
  obtain⟨hz,hp',dx,ha⟩:=id S'
  refine⟨_,rfl,a,dx,_,rfl,ha,cA _ _ (by decide+kernel) (by decide+kernel),a,z,p', "*",rfl,S',_,rfl,?_⟩
  refine Ew (fun c=>?_) (fun c=>?_)
  ·unfold cn at c
   cases hd:z.cps.toList.drop p' with
   |nil=>rw[hd] at c;cases c
   |cons c0 r0=>
    rw[hd] at c ch ln
    have c0m:c0∈FS:=by rw[<-vk];exact of_decide_eq_true c
    obtain⟨n,rfl⟩: ∃n',n=n'+1:=⟨n - 1,by rw[zx] at ln;omega⟩
    obtain⟨at0,dr0⟩:=fk hd
    unfold DM at ch
    rw[if_pos c0m] at ch
    refine⟨_,fun σ' H'' h=>h,⟨_,rfl,a,dx,_,rfl,ha,cA _ _ (by decide+kernel) (by decide+kernel),a,z,p',c0,rfl,S',at0,fun H2 mv2 S2=>?_⟩⟩
    obtain⟨_,hp2,dx2,ha2⟩:=id S2
    refine⟨_,rfl,_,rfl,_,rfl,_,rfl,a,z,p'+1,rfl,S2,?_⟩
    rw[dr0]
    cases hG2:aR m r0 with
    |none=>
     rw[hG2] at ch
     subst ch
     exact fun H3 mv3=>k1 H3 (mv.trans (mv2.trans mv3))
    |some er2=>
     obtain⟨e2,r2⟩:=er2
     rw[hG2] at ch
     intro v2 H3 mv3 S3 i3
     refine⟨G1 (by show 3<=1000;decide),fun t ht=>?_⟩
     have g4:=cK ht (.tup [.str ⟨#[c0]⟩,v,v2])
     have suf2:r2<:+z.cps.toList.drop (p'+1):=by rw[dr0];exact sufG _ _ _ hG2
     have b2:=hW (C:=CS) (H:=H) (a:=a) suf2
     have l2:r2.length<=r0.length:=(sufG _ _ _ hG2).length_le
     have l0:=gX at0
     have l3:r0.length=z.length - (p'+1):=by rw[<-dr0,Al,aO]
     refine⟨z.length - (z.length - r2.length),by omega,.ref t,.bin ⟨#[c0]⟩ e e2,z.length - r2.length,n,_,rfl,mv.trans (mv2.trans (mv3.trans (Moved.same g4))),S3.same g4,?_,?_,?_,rfl⟩
     ·exact⟨t,v,v2,rfl,aM,((ie.moved ha mv2).moved ha2 mv3).mono g4,i3.mono g4⟩
     ·rw[b2];rw[zx] at ln;omega
     ·rw[b2];exact ch
  ·have st:DM (aR m) FS n e (z.cps.toList.drop p')=some (e,z.cps.toList.drop p'):=jL fun c0 r0 hd hm=>by
    unfold cn at c
    rw[hd] at c
    exact c (decide_eq_true (by rw[vk];exact hm))
   rw[st] at ch
   subst ch
   exact⟨_,rfl,k1 v H' mv (by rw[nq hp'];exact S') ie⟩
theorem GJ:Dm ["signs", "depth", "e"] ["signs", "depth"] (ae fV):=⟨rfl,rfl,rfl,by decide+kernel,rfl,by decide+kernel,by decide+kernel⟩
theorem wM (F:Fun K "read_bracket" "read_bracket" fV f fd)(T:Txt K mg CS CN):FnOk P w K mg base (CXx P w) 1 f fd ["signs", "depth"] (G3 CS CN 0):=by
 refine F.okX GJ (fun vs H Q E h=>?_) (fun cdv A outer s H vs Q E hr h=>?_)
 ·obtain⟨a,z,p,r,rfl,_⟩:=h
  rfl
 obtain⟨a,z,p,r,rfl,h5,S,hd,k0⟩:=h
 obtain⟨t5,g5⟩:=T.n5
 refine⟨_,au (fu (c9 kg (pv 1) (cO (v:=.int 5) rfl g5 ⟨_,rfl⟩) (dH _)) (aI (eC eB rfl rfl T.mgN T.exN (ai F8 FW))) Gd) pX,?_⟩
 refine⟨_,rfl,_,_,rfl,rfl,_,rfl,?_⟩
 refine Ez ⟨G1 (by show 1<=1000;decide),k0 H (Moved.refl _ _)⟩
theorem yu {m k:Nat}(hk:2<=k)(F:Fun K "read_bracket" "read_bracket" fV f fd)(T:Txt K mg CS CN)(G:CF P w K mg base (CXx P w) k "read_terms" fG fdG ["signs", "depth"] (dz CS CN cJ m))
  (MS:CM P w K mg base CX0 2 CS "stands_one_of" fS fdS ["self", "wanted"] (dm CS))(MT:CM P w K mg base CX0 1 CS "take_sign" fK fdK ["self"] (ik CS)):FnOk P w K mg base (CXx P w) (k+1) f fd ["signs", "depth"] (G3 CS CN (m+1)):=by
 refine F.okX GJ (fun vs H Q E h=>?_) (fun cdv A outer s H vs Q E hr h=>?_)
 ·obtain⟨a,z,p,r,rfl,_⟩:=h
  rfl
 obtain⟨a,z,p,r,rfl,h5,S,hd,k0⟩:=h
 obtain⟨t5,g5⟩:=T.n5
 refine⟨_,au (fu (c9 kg (pv 1) (cO (v:=.int 5) rfl g5 ⟨_,rfl⟩) (dH _)) (aI (eC eB rfl rfl T.mgN T.exN (ai F8 FW))) Gd)
  (au (kU (dF (pv 0) T.cl MT.me MT.ok (hr.mono (by omega)) MT.bi .nil FY))
  (au (c7 (i:=2) GJ.nd rfl (Or.inl rfl) (dc G.ok hr rfl G.mg G.kp G.bi .nil dG (ai (pv 0) (ai (pv 1) FW))))
  (au (fu (ol (eN (eO (pv 0) T.cl MS.me MS.ok (hr.mono hk) MS.bi .nil FY (ai F8 FW)))) (aI (eC eB rfl rfl T.mgN T.exN (ai F8 FW))) Gd)
  (au (kU (dF (pv 0) T.cl MT.me MT.ok (hr.mono (by omega)) MT.bi .nil FY))
  (aI (b5 (pv 2))))))),?_⟩
 obtain⟨hz,hp,dx,ha⟩:=id S
 obtain⟨at0,dr0⟩:=fk hd
 refine⟨_,rfl,_,_,rfl,rfl,_,rfl,?_⟩
 refine Ew (fun c=>?_) (fun c=>?_)
 ·have c1:(6 - ((m+1:Nat):Int))>5:=of_decide_eq_true c
  omega
 ·refine⟨_,rfl,a,dx,_,rfl,ha,cA _ _ (by decide+kernel) (by decide+kernel),a,z,p,40,rfl,S,at0,fun H1 mv1 S1=>?_⟩
  have e6:(6 - ((m+1:Nat):Int))=5 - (m:Int):=by omega
  refine⟨_,rfl,_,rfl,a,z,p+1,by show [V.ref a,V.int (6 - ((m+1:Nat):Int))]=_;rw[e6],S1,?_⟩
  rw[dr0]
  have k1:fq CS CN H a z Q E (bG (cJ m) r):=k0
  cases hG:cJ m r with
  |none=>
   rw[sP hG] at k1
   exact fun H' mv=>k1 H' (mv1.trans mv)
  |some er=>
   obtain⟨e1,r1⟩:=er
   intro v2 H2 mv2 S2 i2
   obtain⟨_,hp2,dx2,ha2⟩:=id S2
   have suf1:r1<:+z.cps.toList.drop (p+1):=by rw[dr0];exact j7 m _ _ _ hG
   have b1:=hW (C:=CS) (H:=H) (a:=a) suf1
   refine⟨_,rfl,a,dx2,_,rfl,ha2,cA _ _ (by decide+kernel) (by decide+kernel),a,z,_, ")",rfl,S2,_,rfl,?_⟩
   have st:cn z (z.length - r1.length) ")"=decide (r1.head?=some 41):=by
    unfold cn
    rw[b1]
    cases r1 with
    |nil=>rfl
    |cons c0 r0=>
     show decide (c0∈(")":Str).cps.toList)=decide (some c0=some 41)
     rw[yo,decide_eq_decide]
     simp
   rw[st]
   by_cases h41:r1.head?=some 41
   ·rw[decide_eq_true h41]
    obtain⟨r2,rfl⟩: ∃r2,r1=41::r2:=by
     cases r1 with
     |nil=>cases h41
     |cons c0 r0=>have:c0=41:=by simpa using h41
                  subst this;exact⟨r0,rfl⟩
    obtain⟨at1,dr1⟩:=fk b1
    refine Ey ⟨_,rfl,a,dx2,_,rfl,ha2,cA _ _ (by decide+kernel) (by decide+kernel),a,z,_,41,rfl,S2,at1,fun H3 mv3 S3=>⟨_,rfl,?_⟩⟩
    rw[vd hG] at k1
    have k2: ∀v H',Moved H H' a->SgAt CS H' a z (z.length - r2.length)->IsE H' e1 v->Q v H':=k1
    refine k2 v2 H3 (mv1.trans (mv2.trans mv3)) ?_ (i2.moved ha2 mv3)
    have l1:=gX at1
    have:z.length - (41::r2).length+1=z.length - r2.length:=by
     have:=suf1.length_le
     rw[Al,aO,zx] at this
     rw[zx];omega
    rw[this] at S3
    exact S3
   ·rw[decide_eq_false h41]
    refine Ez ⟨G1 (by show 1<=1000;decide),?_⟩
    rw[sO hG h41] at k1
    have k2: ∀H',Moved H H' a->E (.ref CN) none H':=k1
    exact k2 H2 (mv1.trans mv2)
theorem GL:Dm ["signs", "depth", "factor"] ["signs", "depth"] (ae iS):=⟨rfl,rfl,rfl,by decide+kernel,rfl,by decide+kernel,by decide+kernel⟩
theorem xY:LET.length+FIG.length<=sizeLine:=by decide+kernel
theorem jv {z:Str}(h:Fu z=true):PySem.intText? z=some (b6 z)/\z.length<=640:=by
 unfold Fu at h
 simp only[zI,decide_eq_true_eq] at h
 obtain⟨⟨h1,h2⟩,_,h4⟩:=h
 refine⟨?_,by omega⟩
 refine PySem.intText_digits (fun c hc=>?_) (fun e=>?_) (by omega)
 ·exact Eo.mp (zR.mp h4 c hc)
 ·have:=aO z;rw[e] at this;simp at this;omega
theorem kh {m k:Nat}{fN fM fR:B5}{fdN fdM fdR:CW}(hk:3<=k)(hm5:m<=5)(F:Fun K "read_factor" "read_factor" iS f fd)(T:Txt K mg CS CN)(G:CF P w K mg base (CXx P w) k "read_bracket" fG fdG ["signs", "depth"] (G3 CS CN m))
  (MS:CM P w K mg base CX0 2 CS "stands_one_of" fS fdS ["self", "wanted"] (dm CS))(MR:CM P w K mg base CX0 3 CS "run_of" fR fdR ["self", "wanted"] (G7 CS))
  (FN:CF P w K mg base CX0 1 "is_name" fN fdN ["word"] i9)(FM:CF P w K mg base CX0 1 "is_number" fM fdM ["word"] G6):FnOk P w K mg base (CXx P w) (k+1) f fd ["signs", "depth"] (dz CS CN aR m):=by
 refine F.okX GL (fun vs H Q E h=>?_) (fun cdv A outer s H vs Q E hr h=>?_)
 ·obtain⟨a,z,p,rfl,_⟩:=h
  rfl
 obtain⟨a,z,p,rfl,S,k0⟩:=h
 obtain⟨tL,hL⟩:=T.let_
 obtain⟨tF,hF⟩:=T.fig
 refine⟨_,au (fu (eN (eO (pv 0) T.cl MS.me MS.ok (hr.mono (by omega)) MS.bi .nil FY (ai F8 FW))) (aI (b5 (dc G.ok hr rfl G.mg G.kp G.bi .nil dG (ai (pv 0) (ai (o4 FD (pv 1) F7) FW))))) Gd)
  (au (c7 (i:=2) GL.nd rfl (Or.inl rfl) (eO (pv 0) T.cl MR.me MR.ok (hr.mono hk) MR.bi .nil FY (ai (o4 FE (cO (v:=.str LET) rfl hL ⟨_,rfl⟩) (cO (v:=.str FIG) rfl hF ⟨_,rfl⟩)) FW)))
  (au (fu (eN (dc FN.ok (hr.mono (by omega)) rfl FN.mg FN.kp FN.bi .nil FY (ai (pv 2) FW))) (aI (b5 (jp (ai F8 (ai (pv 2) FW))))) Gd)
  (au (fu (eN (dc FM.ok (hr.mono (by omega)) rfl FM.mg FM.kp FM.bi .nil FY (ai (pv 2) FW))) (aI (b5 (jp (ai F8 (ai (kf hJ rfl T.int PyProof.Rows.boot_int (ai (pv 2) FW)) FW))))) Gd)
  (aI (eC eB rfl rfl T.mgN T.exN (ai F8 FW)))))),?_⟩
 obtain⟨hz,hp,dx,ha⟩:=id S
 refine⟨_,rfl,a,dx,_,rfl,ha,cA _ _ (by decide+kernel) (by decide+kernel),a,z,p, "(",rfl,S,_,rfl,?_⟩
 rw[qA] at k0
 have st:cn z p "("=decide ((z.cps.toList.drop p).head?=some 40):=by
  unfold cn
  cases hd:z.cps.toList.drop p with
  |nil=>rfl
  |cons c0 r0=>
   show decide (c0∈("(":Str).cps.toList)=decide (some c0=some 40)
   rw[yp,decide_eq_decide]
   simp
 rw[st]
 by_cases h40:(z.cps.toList.drop p).head?=some 40
 ·rw[decide_eq_true h40]
  rw[if_pos h40] at k0
  obtain⟨r,hd⟩: ∃r,z.cps.toList.drop p=40::r:=by
   cases hd:z.cps.toList.drop p with
   |nil=>rw[hd] at h40;cases h40
   |cons c0 r0=>rw[hd] at h40
                have:c0=40:=by simpa using h40
                subst this;exact⟨r0,rfl⟩
  rw[hd] at k0
  refine Ez ⟨_,rfl,_,rfl,_,_,rfl,rfl,a,z,p,r,?_,hm5,S,hd,k0⟩
  show [V.ref a,V.int (5 - (m:Int)+1)]=_
  have:(5 - (m:Int)+1)=6 - (m:Int):=by omega
  rw[this]
 ·rw[decide_eq_false h40]
  rw[if_neg h40] at k0
  refine Ey ⟨_,rfl,a,dx,_,rfl,ha,cA _ _ (by decide+kernel) (by decide+kernel),_,_,rfl,rfl,xY,a,z,p,LET++FIG,rfl,S,fun H1 mv1 S1=>?_⟩
  have ean:(fun c=>decide (c∈(LET++FIG).cps.toList))=Em:=rfl
  rw[ean] at S1 ⊢
  have fl:(⟨((z.cps.toList.drop p).takeWhile Em).toArray⟩:Str).length<=sizeLine:=by
   show (((z.cps.toList.drop p).takeWhile Em).toArray).size<=sizeLine
   rw[zF]
   have:=(List.takeWhile_sublist (l:=z.cps.toList.drop p) Em).length_le
   rw[Al,aO] at this
   omega
  have dw:z.length - ((z.cps.toList.drop p).dropWhile Em).length=p+((z.cps.toList.drop p).takeWhile Em).length:=by
   have e:=congrArg List.length (List.takeWhile_append_dropWhile (p:=Em) (l:=z.cps.toList.drop p))
   rw[zv,Al,aO] at e
   omega
  unfold EM at k0
  refine⟨_,rfl,_,rfl,fl,fun H2 g2=>⟨_,rfl,?_⟩⟩
  refine Ew (fun c=>?_) (fun c=>?_)
  ·rw[if_pos c] at k0
   have k1: ∀v H',Moved H H' a->SgAt CS H' a z (z.length - ((z.cps.toList.drop p).dropWhile Em).length)->IsE H' (.box ⟨((z.cps.toList.drop p).takeWhile Em).toArray⟩) v->Q v H':=k0
   refine⟨_,rfl,G1 (by show 2<=1000;decide),fun t ht=>?_⟩
   refine k1 _ _ (mv1.trans ((Moved.same g2).trans (Moved.same (cK ht _)))) ?_ ⟨t,rfl,aM⟩
   rw[dw]
   exact (S1.same g2).same (cK ht _)
  ·rw[if_neg c] at k0
   refine⟨_,rfl,_,rfl,fl,fun H3 g3=>⟨_,rfl,?_⟩⟩
   refine Ew (fun c2=>?_) (fun c2=>?_)
   ·rw[if_pos c2] at k0
    have k1: ∀v H',Moved H H' a->SgAt CS H' a z (z.length - ((z.cps.toList.drop p).dropWhile Em).length)->IsE H' (.num (b6 ⟨((z.cps.toList.drop p).takeWhile Em).toArray⟩)) v->Q v H':=k0
    obtain⟨n1,n2⟩:=jv c2
    refine⟨_,rfl,_,_,rfl,n1,n2,G1 (by show 2<=1000;decide),fun t ht=>?_⟩
    refine k1 _ _ (mv1.trans ((Moved.same g2).trans ((Moved.same g3).trans (Moved.same (cK ht _))))) ?_ ⟨t,rfl,aM⟩
    rw[dw]
    exact ((S1.same g2).same g3).same (cK ht _)
   ·rw[if_neg c2] at k0
    exact⟨G1 (by show 1<=1000;decide),k0 H3 (mv1.trans ((Moved.same g2).trans (Moved.same g3)))⟩
end
end Q
namespace Q
open PySem L2 Wd
def Told (CN:B5)(H:Hp)(Q:VK)(E:XK):Option Exp->Prop
 |some e=> ∀v H',Same H H'->IsE H' e v->Q v H'
 |none=> ∀H',Same H H'->E (.ref CN) none H'
def nR (CN:B5):Sp:=fun vs H Q E=> ∃z:Str,vs=[.str z]/\z.length<=sizeLine/\Told CN H Q E (D4 z)
section
variable {P:B2}{w:B3}{K:PySem.W.Frag}{mg:Str->Option BZ}{base:B4}{f CS CN fT fI fD:B5}{fd fdT fdI fdD:CW}
theorem GK:Dm ["word", "signs", "e"] ["word"] (ae Gz):=⟨rfl,rfl,rfl,by decide+kernel,rfl,by decide+kernel,by decide+kernel⟩
theorem ue {k:Nat}(hk:2<=k)(F:Fun K "expression" "expression" Gz f fd)(T:Txt K mg CS CN)(G:CF P w K mg base (CXx P w) k "read_terms" fT fdT ["signs", "depth"] (dz CS CN cJ 5))
  (M:Mk K CS fI)(GI:FnOk P w K mg base CX0 1 fI fdI ["self", "word"] (oT CS))(bI:Binds K fdI ["self", "word"] [])(MD:CM P w K mg base CX0 1 CS "is_done" fD fdD ["self"] (kL CS)):FnOk P w K mg base (CXx P w) (k+1) f fd ["word"] (nR CN):=by
 refine F.okX GK (fun vs H Q E h=>?_) (fun cdv A outer s H vs Q E hr h=>?_)
 ·obtain⟨z,rfl,_⟩:=h
  rfl
 obtain⟨z,rfl,hz,k0⟩:=h
 obtain⟨t60,h60⟩:=T.n60
 refine⟨_,au (fu (c9 kg (cP DJ rfl T.len PySem.boot_len (ai (pv 0) FW)) (cO (v:=.int 60) rfl h60 ⟨_,rfl⟩) (dH _)) (aI (eC eB rfl rfl T.mgN T.exN (ai F8 FW))) Gd)
  (au (c7 (i:=1) GK.nd rfl (Or.inl rfl) (t4 M GI (hr.mono hk) rfl T.mgS bI .nil FY (ai (pv 0) FW)))
  (au (c7 (i:=2) GK.nd rfl (Or.inl rfl) (dc G.ok hr rfl G.mg G.kp G.bi .nil dG (ai (pv 1) (ai F7 FW))))
  (au (fu (ol (eN (dF (pv 1) T.cl MD.me MD.ok (hr.mono (by omega)) MD.bi .nil FY))) (aI (eC eB rfl rfl T.mgN T.exN (ai F8 FW))) Gd)
  (aI (b5 (pv 2)))))),?_⟩
 refine⟨_,rfl,z,rfl,hz,_,_,rfl,rfl,_,rfl,?_⟩
 unfold D4 at k0
 refine Ew (fun c=>?_) (fun c=>?_)
 ·have c1:(z.length:Int)>60:=of_decide_eq_true c
  rw[if_pos (by omega)] at k0
  exact⟨G1 (by show 1<=1000;decide),k0 H (Same.refl _)⟩
 ·have c1: ¬(z.length:Int)>60:=of_decide_eq_false (Ax.mpr c)
  rw[if_neg (by omega)] at k0
  refine⟨_,rfl,fun x dx nx ndx nex=>?_⟩
  refine⟨x,dx,z,rfl,aM,hz,fun H1 mv1 S1=>⟨rfl,?_⟩⟩
  have s0: ∀ {H2:Hp},Moved H1 H2 x->Same H H2:=fun{H2} mv b o e=>mv b o (aY e nx) (mv1 b o (aY e nx) (by rw[ar (aY e nx),ar (aY e ndx)];exact e))
  refine⟨_,rfl,x,z,0,rfl,S1,?_⟩
  rw[Aw]
  cases hG:cJ 5 z.cps.toList with
  |none=>
   rw[hG] at k0
   exact fun H2 mv2=>k0 H2 (s0 mv2)
  |some er=>
   obtain⟨e1,r1⟩:=er
   rw[hG] at k0
   intro v2 H2 mv2 S2 i2
   obtain⟨_,hp2,dx2,ha2⟩:=id S2
   refine⟨_,rfl,x,dx2,_,rfl,ha2,cA _ _ (by decide+kernel) (by decide+kernel),x,z,_,rfl,S2,_,rfl,?_⟩
   have rl:r1.length<=z.length:=by
    have:=(j7 5 _ _ _ hG).length_le
    rw[aO] at this;exact this
   cases r1 with
   |nil=>
    have k1: ∀v H',Same H H'->IsE H' e1 v->Q v H':=k0
    rw[decide_eq_true (by simp:z.length - ([]:List Nat).length=z.length)]
    exact Ey ⟨_,rfl,k1 v2 H2 (s0 mv2) i2⟩
   |cons c0 r0=>
    have k1: ∀H',Same H H'->E (.ref CN) none H':=k0
    rw[decide_eq_false (by rw[zx] at rl ⊢;omega)]
    exact Ez ⟨G1 (by show 1<=1000;decide),k1 H2 (s0 mv2)⟩
end
section
variable {P:B2}{w:B3}{K:PySem.W.Frag}{mg:Str->Option BZ}{base:B4}{CS CN fT fF fA fB fS fK fN fM fR:B5}{fdT fdF fdA fdB fdS fdK fdN fdM fdR:CW}
theorem oW (T:Txt K mg CS CN)(FT:Fun K "read_terms" "read_terms" kP fT fdT)(bT:Binds K fdT ["signs", "depth"] [])(mT:mg "read_terms"=some (.ref fT))
  (FF:Fun K "read_factors" "read_factors" gJ fF fdF)(bF:Binds K fdF ["signs", "depth"] [])(mF:mg "read_factors"=some (.ref fF))
  (FA:Fun K "read_factor" "read_factor" iS fA fdA)(bA:Binds K fdA ["signs", "depth"] [])(mA:mg "read_factor"=some (.ref fA))
  (FB:Fun K "read_bracket" "read_bracket" fV fB fdB)(bB:Binds K fdB ["signs", "depth"] [])(mB:mg "read_bracket"=some (.ref fB))
  (MS:CM P w K mg base CX0 2 CS "stands_one_of" fS fdS ["self", "wanted"] (dm CS))(MT:CM P w K mg base CX0 1 CS "take_sign" fK fdK ["self"] (ik CS))(MR:CM P w K mg base CX0 3 CS "run_of" fR fdR ["self", "wanted"] (G7 CS))
  (CN':CF P w K mg base CX0 1 "is_name" fN fdN ["word"] i9)(CM':CF P w K mg base CX0 1 "is_number" fM fdM ["word"] G6):
  ∀m,m<=5->CF P w K mg base (CXx P w) (4 * m+7) "read_terms" fT fdT ["signs", "depth"] (dz CS CN cJ m)
 |0,h=>by
  have B0:CF P w K mg base (CXx P w) 4 "read_bracket" fB fdB ["signs", "depth"] (G3 CS CN 0):=⟨(wM FB T).mono (by decide),bB,FB.kp,mB⟩
  have A0:CF P w K mg base (CXx P w) 5 "read_factor" fA fdA ["signs", "depth"] (dz CS CN aR 0):=⟨kh (by decide) h FA T B0 MS MR CN' CM',bA,FA.kp,mA⟩
  have F0:CF P w K mg base (CXx P w) 6 "read_factors" fF fdF ["signs", "depth"] (dz CS CN be 0):=⟨jt (by decide) FF T A0 MS MT,bF,FF.kp,mF⟩
  exact⟨mz (by decide) FT T F0 MS MT,bT,FT.kp,mT⟩
 |m+1,h=>by
  have T0:=oW T FT bT mT FF bF mF FA bA mA FB bB mB MS MT MR CN' CM' m (by omega)
  have B0:CF P w K mg base (CXx P w) (4 * m+8) "read_bracket" fB fdB ["signs", "depth"] (G3 CS CN (m+1)):=⟨yu (by omega) FB T T0 MS MT,bB,FB.kp,mB⟩
  have A0:CF P w K mg base (CXx P w) (4 * m+9) "read_factor" fA fdA ["signs", "depth"] (dz CS CN aR (m+1)):=⟨kh (by omega) h FA T B0 MS MR CN' CM',bA,FA.kp,mA⟩
  have F0:CF P w K mg base (CXx P w) (4 * m+10) "read_factors" fF fdF ["signs", "depth"] (dz CS CN be (m+1)):=⟨jt (by omega) FF T A0 MS MT,bF,FF.kp,mF⟩
  exact⟨mz (by omega) FT T F0 MS MT,bT,FT.kp,mT⟩
end
end Q
namespace Wd
open PySem L2
theorem fg {f:List Nat->Option (Exp×List Nat)}{ops:List Nat}(hf:Suf f): ∀ (n:Nat) (e:Exp) (l:List Nat),l.length<=n->DM f ops n e l=DM f ops l.length e l
 |0,e,[],_=>rfl
 |0,e,c::r,h=>by simp at h
 |n+1,e,[],_=>rfl
 |n+1,e,c::r,h=>by
  rw[zx] at h ⊢
  unfold DM
  split
  ·cases hr:f r with
   |none=>rfl
   |some er=>
    obtain⟨e2,r2⟩:=er
    have l2:=(hf r e2 r2 hr).length_le
    show DM f ops n (.bin ⟨#[c]⟩ e e2) r2=DM f ops r.length (.bin ⟨#[c]⟩ e e2) r2
    rw[fg hf n _ r2 (by omega),fg hf r.length _ r2 l2]
  ·rfl
theorem jM (f:List Nat->Option (Exp×List Nat))(ops:List Nat)(n:Nat)(e:Exp)(c:Nat)(r:List Nat):DM f ops (n+1) e (c::r)=if c∈ops then (match f r with
 |none=>none
 |some (e2,r2)=>DM f ops n (.bin ⟨#[c]⟩ e e2) r2) else some (e,c::r):=rfl
theorem iE {f:List Nat->Option (Exp×List Nat)}{ops:List Nat}{e:Exp}{n:Nat}{l:List Nat}(h:∀c r,l=c::r-> ¬c∈ops):DM f ops n e l=some (e,l):=by
 cases n with
 |zero=>rfl
 |succ n=>cases l with
  |nil=>rfl
  |cons c r=>unfold DM;rw[if_neg (h c r rfl)]
def Ft (l:List Nat):Prop:= ∀c r,l=c::r->Em c=false
noncomputable def ox (l:List Nat):Prop:= ∀c r,l=c::r->c≠42
def AtomT (W:List Nat)(e:Exp)(d:Nat):Prop:= ∀m Gm,Ft Gm->aR m (W++Gm)=if d<=m then some (e,Gm) else none
def ProdT (W:List Nat)(e:Exp)(d:Nat):Prop:= ∀m Gm,Ft Gm->be m (W++Gm)=if d<=m then DM (aR m) FS Gm.length e Gm else none
def SumT (W:List Nat)(e:Exp)(d:Nat):Prop:= ∀m Gm,Ft Gm->ox Gm->cJ m (W++Gm)=if d<=m then DM (be m) FU Gm.length e Gm else none
theorem AtomT.prod {W:List Nat}{e:Exp}{d:Nat}(h:AtomT W e d):ProdT W e d:=fun m Gm hr=>by
 unfold be FX
 rw[h m Gm hr]
 by_cases hd:d<=m
 ·rw[if_pos hd,if_pos hd]
 ·rw[if_neg hd,if_neg hd]
theorem kb {l:List Nat}(h:ox l): ∀c r,l=c::r-> ¬c∈FS:=fun c r e hm=>h c r e (by simpa [FS] using hm)
theorem ProdT.sum {W:List Nat}{e:Exp}{d:Nat}(h:ProdT W e d):SumT W e d:=fun m Gm hr hs=>by
 unfold cJ FX
 rw[h m Gm hr]
 by_cases hd:d<=m
 ·rw[if_pos hd,if_pos hd,iE (kb hs)]
 ·rw[if_neg hd,if_neg hd]
theorem lu {c:Nat}{r:List Nat}(h:Em c=false):Ft (c::r):=fun c' r' e=>by cases e;exact h
theorem ki {c:Nat}{r:List Nat}(h:c≠42):ox (c::r):=fun c' r' e=>by cases e;exact h
theorem jU {c:Nat}(h:c=40\/c=41\/c=42\/c=43\/c=45):Em c=false:=by
 rw[g7]
 cases h1:Er c with
 |true=>have:=Es.mp h1;omega
 |false=>
  cases h2:En c with
  |true=>have:=Eo.mp h2;omega
  |false=>rfl
theorem SumT.bracket {W:List Nat}{e:Exp}{d:Nat}(h:SumT W e d):AtomT (40::(W++[41])) e (d+1):=fun m Gm hr=>by
 cases m with
 |zero=>
  rw[if_neg (by omega)]
  rfl
 |succ m=>
  show (if (some 40:Option Nat)=some 40 then bG (cJ m) ((W++[41])++Gm) else EM _)=_
  rw[if_pos rfl]
  unfold bG
  rw[zV]
  show (match cJ m (W++(41::Gm)) with|some (e,41::r2)=>some (e,r2)|_=>none)=_
  rw[h m (41::Gm) (lu (jU (by omega))) (ki (by decide))]
  by_cases hd:d<=m
  ·rw[if_pos hd,if_pos (by omega),iE (fun c r e hm=>by cases e;simp [FU] at hm)];rfl
  ·rw[if_neg hd,if_neg (by omega)]
theorem SumT.bin {Wl Wr:List Nat}{l r:Exp}{dl dr c:Nat}(hl:SumT Wl l dl)(hr:ProdT Wr r dr)(hc:c=43\/c=45):SumT (Wl++c::Wr) (.bin ⟨#[c]⟩ l r) (max dl dr):=fun m Gm hn hs=>by
 have e0:(Wl++c::Wr)++Gm=Wl++(c::(Wr++Gm)):=by simp
 rw[e0,hl m _ (lu (jU (by omega))) (ki (by omega))]
 by_cases h1:dl<=m
 ·rw[if_pos h1,zx]
  rw[jM,if_pos (by simp [FU];omega),hr m Gm hn]
  by_cases h2:dr<=m
  ·rw[if_pos h2,if_pos (by omega),iE (kb hs)]
   exact fg (fO m) (Wr++Gm).length _ Gm (by rw[zv];omega)
  ·rw[if_neg h2,if_neg (by omega)]
 ·rw[if_neg h1,if_neg (by omega)]
theorem ProdT.bin {Wl Wr:List Nat}{l r:Exp}{dl dr:Nat}(hl:ProdT Wl l dl)(hr:AtomT Wr r dr):ProdT (Wl++42::Wr) (.bin ⟨#[42]⟩ l r) (max dl dr):=fun m Gm hn=>by
 have e0:(Wl++42::Wr)++Gm=Wl++(42::(Wr++Gm)):=by simp
 rw[e0,hl m _ (lu (jU (by omega)))]
 by_cases h1:dl<=m
 ·rw[if_pos h1,zx]
  rw[jM,if_pos (by simp [FS]),hr m Gm hn]
  by_cases h2:dr<=m
  ·rw[if_pos h2,if_pos (by omega)]
   exact fg (eJ m) (Wr++Gm).length _ Gm (by rw[zv];omega)
  ·rw[if_neg h2,if_neg (by omega)]
 ·rw[if_neg h1,if_neg (by omega)]
theorem d7 {p:Nat->Bool}: ∀ {W Gm:List Nat},W.all p=true->(∀c r,Gm=c::r->p c=false)->(W++Gm).takeWhile p=W/\(W++Gm).dropWhile p=Gm
 |[],Gm,_,h=>by
  cases Gm with
  |nil=>exact⟨rfl,rfl⟩
  |cons c r=>
   have:=h c r rfl
   simp [AZ,BL,this]
 |c::W,Gm,hw,h=>by
  rw[AA,zI] at hw
  obtain⟨a,b⟩:=d7 (W:=W) hw.2 h
  simp [AZ,BL,hw.1,a,b]
theorem sQ {z:Str}(h:ah z=true):AtomT z.cps.toList (.box z) 0:=fun m Gm hr=>by
 have h':=h
 unfold ah at h'
 simp only[zI,decide_eq_true_eq] at h'
 obtain⟨⟨h1,h2⟩,h3,h4⟩:=h'
 have an:z.cps.toList.all Em=true:=by
  rw[zR] at h3 ⊢
  intro c hc
  rw[g7,h3 c hc];rfl
 obtain⟨t1,t2⟩:=d7 an hr
 obtain⟨c0,r0,e0⟩: ∃c0 r0,z.cps.toList=c0::r0:=by
  cases hz:z.cps.toList with
  |nil=>have:z.length=0:=by show z.cps.size=0;rw[<-AG,hz];rfl
        omega
  |cons a b=>exact⟨a,b,rfl⟩
 have hd: ¬(z.cps.toList++Gm).head?=some 40:=by
  rw[e0]
  intro h40
  have:c0=40:=by simpa using h40
  rw[zR] at an
  have a0:=an c0 (by rw[e0];exact zB)
  rw[this,jU (by omega)] at a0
  cases a0
 have ez:(⟨z.cps.toList.toArray⟩:Str)=z:=by cases z;simp
 have lf:aR m (z.cps.toList++Gm)=EM (z.cps.toList++Gm):=by
  cases m<;>(unfold aR;rw[if_neg hd])
 rw[lf,if_pos (zL _)]
 unfold EM
 rw[t1,t2,ez,if_pos h]
theorem Fv {z:Str}(h:Fu z=true):AtomT z.cps.toList (.num (b6 z)) 0:=fun m Gm hr=>by
 have h':=h
 unfold Fu at h'
 simp only[zI,decide_eq_true_eq] at h'
 obtain⟨⟨h1,h2⟩,_,h3⟩:=h'
 have an:z.cps.toList.all Em=true:=by
  rw[zR] at h3 ⊢
  intro c hc
  rw[g7,h3 c hc,Bool.or_true]
 obtain⟨t1,t2⟩:=d7 an hr
 obtain⟨c0,r0,e0⟩: ∃c0 r0,z.cps.toList=c0::r0:=by
  cases hz:z.cps.toList with
  |nil=>have:z.length=0:=by show z.cps.size=0;rw[<-AG,hz];rfl
        omega
  |cons a b=>exact⟨a,b,rfl⟩
 have hd: ¬(z.cps.toList++Gm).head?=some 40:=by
  rw[e0]
  intro h40
  have:c0=40:=by simpa using h40
  rw[zR] at an
  have a0:=an c0 (by rw[e0];exact zB)
  rw[this,jU (by omega)] at a0
  cases a0
 have ez:(⟨z.cps.toList.toArray⟩:Str)=z:=by cases z;simp
 have nn: ¬ah z=true:=fun hn=>by
  unfold ah at hn
  simp only[zI] at hn
  have a:=zR.mp hn.2.1 c0 (by rw[e0];exact zB)
  have b:=zR.mp h3 c0 (by rw[e0];exact zB)
  have a:=Es.mp a
  have b:=Eo.mp b
  omega
 have lf:aR m (z.cps.toList++Gm)=EM (z.cps.toList++Gm):=by
  cases m<;>(unfold aR;rw[if_neg hd])
 rw[lf,if_pos (zL _)]
 unfold EM
 rw[t1,t2,ez,if_neg nn,if_pos h]
theorem SumT.expr {z:Str}{e:Exp}{d:Nat}(h:SumT z.cps.toList e d):D4 z=if z.length>60\/d>5 then none else some e:=by
 unfold D4
 by_cases h1:z.length>60
 ·rw[if_pos h1,if_pos (.inl h1)]
 ·rw[if_neg h1]
  have q:=h 5 [] (fun c r e=>by cases e) (fun c r e=>by cases e)
  rw[zZ] at q
  rw[q]
  by_cases h2:d<=5
  ·rw[if_pos h2,if_neg (by omega)];rfl
  ·rw[if_neg h2,if_pos (.inr (by omega))]
noncomputable def cp (x:Int×Int)(c:Nat):Int×Int:=
 let d1:=if c=40 then x.1+1 else x.1
 let d2:=if c=41 then d1 - 1 else d1
 (d2,if d2>x.2 then d2 else x.2)
def DeepT (W:List Nat)(d:Nat):Prop:= ∀deep most:Int,deep<=most->W.foldl cp (deep,most)=(deep,max most (deep+d))
theorem DeepT.app {W V:List Nat}{d e:Nat}(h:DeepT W d)(g:DeepT V e):DeepT (W++V) (max d e):=fun deep most hm=>by
 rw[A1,h deep most hm,g _ _ (by omega)]
 congr 1
 omega
theorem e7: ∀ {W:List Nat},(∀c∈W,c≠40/\c≠41)->DeepT W 0
 |[],_=>fun deep most hm=>by show (deep,most)=_;congr 1;omega
 |c::W,h=>fun deep most hm=>by
  have h0:=h c zB
  rw[Bg]
  have e:cp (deep,most) c=(deep,most):=by
   unfold cp
   simp only[if_neg h0.1,if_neg h0.2]
   rw[if_neg (by omega)]
  rw[e]
  exact e7 (fun c hc=>h c (zK _ hc)) deep most hm
theorem DeepT.bracket {W:List Nat}{d:Nat}(h:DeepT W d):DeepT (40::(W++[41])) (d+1):=fun deep most hm=>by
 rw[Bg,A1]
 have e:cp (deep,most) 40=(deep+1,max most (deep+1)):=by
  show (deep+1,if deep+1>most then deep+1 else most)=_
  congr 1
  by_cases h:deep+1>most
  ·rw[if_pos h];omega
  ·rw[if_neg h];omega
 rw[e,h _ _ (by omega)]
 show (deep+1 - 1,if deep+1 - 1>max (max most (deep+1)) (deep+1+d) then deep+1 - 1 else max (max most (deep+1)) (deep+1+d))=_
 rw[if_neg (by omega)]
 congr 1
 ·omega
 ·have:((d+1:Nat):Int)=(d:Int)+1:=by omega
  rw[this];omega
section
def EI (c:Nat):Nat:=if En c=true then 2 else if Er c=true then 1 else 0
noncomputable abbrev Tk:=Nat×List Nat
def toks:List Nat->List Tk
 |[]=>[]
 |c::r=>match toks r with
  |[]=>[(EI c,[c])]
  |(k,t)::ts=>if EI c≠0/\k=EI c then (k,c::t)::ts else (EI c,[c])::(k,t)::ts
end
section
noncomputable def D3:Exp->W
 |.num n=>.tup [.str "number",.int n]
 |.box x=>.tup [.str "box",.str x]
 |.bin s l r=>.tup [.str s,D3 l,D3 r]
def i4 (ws:List W):M W:=match ws with
 |[.str z]=>gd (z.length<=sizeLine) (pr (.bl (ah z)))
 |_=>no
def lK (ws:List W):M W:=match ws with
 |[.str z]=>gd (z.length<=sizeLine) (pr (.bl (Fu z)))
 |_=>no
def zp (ws:List W):M W:=match ws with
 |[.str z]=>gd (z.length<=sizeLine) (match D4 z with
  |some e=>pr (D3 e)
  |none=>fun h=>.ex "NoRow" h)
 |_=>no
def f6 (ws:List W):M W:=match ws with
 |[.str z]=>gd (z.length<=sizeLine) (match D4 z with
  |some e=>pr (D3 e)
  |none=>no)
 |_=>no
end
end Wd
namespace Q
open PySem L2 Wd
theorem oE {K:PySem.W.Frag}{mu:Nat->B5}{h:List Ob}{H:Hp}: ∀ {e:Exp}{v:V},IsE H e v->Rv K ⟨mu,h,H⟩ (D3 e) v
 |.num n,v,q=>by
  obtain⟨p,rfl,e⟩:=q
  unfold D3 Rv
  exact⟨p,_,rfl,.of e,Rvs.cons (Gw.mpr rfl) (Rvs.cons (Gu.mpr rfl) Rvs.nil)⟩
 |.box n,v,q=>by
  obtain⟨p,rfl,e⟩:=q
  unfold D3 Rv
  exact⟨p,_,rfl,.of e,Rvs.cons (Gw.mpr rfl) (Rvs.cons (Gw.mpr rfl) Rvs.nil)⟩
 |.bin s l r,v,q=>by
  obtain⟨p,a,b,rfl,e,h1,h2⟩:=q
  unfold D3 Rv
  exact⟨p,_,rfl,.of e,Rvs.cons (Gw.mpr rfl) (Rvs.cons (oE h1) (Rvs.cons (oE h2) Rvs.nil))⟩
section
variable {P:B2}{w:B3}{K:PySem.W.Frag}{mg:Str->Option BZ}{base:B4}{f CN:B5}{fd:CW}{k:Nat}
theorem qD (C:CF P w K mg base CX0 1 "is_name" f fd ["word"] i9):CG P w K mg base 1 "is_name" f fd ["word"] 1 i4:=
 ⟨C.ok.imp fun vs H Q E h=>by
  obtain⟨o,ws,rfl,hl,R,rv,h⟩:=h
  rcases ws with _|⟨x,_|⟨_,_⟩⟩
  ·exact h.elim
  ·obtain⟨v,rfl,r⟩:=rv.one
   cases x with
   |str z=>
    obtain⟨hz,h⟩:=h.gd
    exact⟨z,by rw[Gw.mp r],hz,fun H' g=>ml (ws:=[]) R g (Gr.mpr rfl) h⟩
   |_=>exact h.elim
  ·exact absurd hl (by simp),C.bi,C.kp,C.mg⟩
theorem sI (C:CF P w K mg base CX0 1 "is_number" f fd ["word"] G6):CG P w K mg base 1 "is_number" f fd ["word"] 1 lK:=
 ⟨C.ok.imp fun vs H Q E h=>by
  obtain⟨o,ws,rfl,hl,R,rv,h⟩:=h
  rcases ws with _|⟨x,_|⟨_,_⟩⟩
  ·exact h.elim
  ·obtain⟨v,rfl,r⟩:=rv.one
   cases x with
   |str z=>
    obtain⟨hz,h⟩:=h.gd
    exact⟨z,by rw[Gw.mp r],hz,fun H' g=>ml (ws:=[]) R g (Gr.mpr rfl) h⟩
   |_=>exact h.elim
  ·exact absurd hl (by simp),C.bi,C.kp,C.mg⟩
theorem u4 (C:CF P w K mg base (CXx P w) k "expression" f fd ["word"] (nR CN)):CG P w K mg base k "expression" f fd ["word"] 1 f6:=
 ⟨sE C.ok fun vs H Q E h=>by
  obtain⟨o,ws,rfl,hl,R,rv,h⟩:=h
  rcases ws with _|⟨x,_|⟨_,_⟩⟩
  ·exact h.elim
  ·obtain⟨v,rfl,r⟩:=rv.one
   cases x with
   |str z=>
    obtain⟨hz,h⟩:=h.gd
    refine⟨z,by rw[Gw.mp r],hz,?_⟩
    cases e:D4 z with
    |none=>rw[e] at h;exact h.elim
    |some x=>
     rw[e] at h
     exact fun v H' g i=>Ps.at (p:=⟨o.mu,o.h,H'⟩) h rfl (Ex.same g) (R.same g) (oE i)
   |_=>exact h.elim
  ·exact absurd hl (by simp),C.bi,C.kp,C.mg⟩
end
end Q
namespace Q
open PySem L2 Wd
noncomputable abbrev nU:Cw:=top 27
noncomputable abbrev pW:Cw:=top 38
noncomputable abbrev mn:Cw:=top 39
noncomputable abbrev jd:Cw:=top 37
noncomputable abbrev kd:Cw:=top 36
noncomputable abbrev jX:Cw:=top 41
noncomputable abbrev nS:Cw:=top 43
noncomputable abbrev ft:Cw:=top 42
noncomputable abbrev gA:Cw:=bJ (top 40) 0
noncomputable abbrev gy:Cw:=bJ (top 40) 1
noncomputable abbrev dB:Cw:=bJ (top 40) 8
noncomputable abbrev fz:Cw:=bJ (top 40) 3
noncomputable abbrev fw:Cw:=bJ (top 40) 4
noncomputable abbrev fU:Cw:=bJ (top 40) 5
noncomputable abbrev fE:Cw:=bJ (top 40) 6
noncomputable abbrev gx:Cw:=bJ (top 40) 7
noncomputable abbrev jg:Cw:=bJ (top 40) 2
noncomputable abbrev eK:Cw:=bJ (top 40) 9
noncomputable abbrev vY:Cw:=top 35
noncomputable abbrev n6:Cw:=top 45
noncomputable abbrev nX:Cw:=top 46
noncomputable abbrev dO:Cw:=top 47
noncomputable abbrev nY:Cw:=top 48
noncomputable abbrev nV:Cw:=top 49
noncomputable abbrev kO:Cw:=top 50
noncomputable abbrev jW:Cw:=top 51
noncomputable abbrev nZ:Cw:=top 52
noncomputable abbrev iL:Cw:=top 53
noncomputable abbrev iq:Cw:=top 54
noncomputable abbrev fQ:Cw:=top 55
noncomputable abbrev d8:Cw:=top 56
noncomputable abbrev iG:Cw:=top 57
noncomputable abbrev mq:Cw:=top 58
def cc (fr:List W->M W):Dl->M Fl:=(GF (sIf (mB (m2 eqW (m2 ixW (Ff 0) (mC (.int 0))) (mC (.str "number")))) (GD (mTl (EO E5))) GC) (GF (sIf (mB (m2 eqW (m2 ixW (Ff 0) (mC (.int 0))) (mC (.str "box")))) (GD (mTl (EO (EY (m2 ixW (Ff 0) (mC (.int 1))) E5)))) GC) (GD (m2 DC (EW (arW 1 fr) (EY (m2 ixW (Ff 0) (mC (.int 1))) E5)) (EW (arW 1 fr) (EY (m2 ixW (Ff 0) (mC (.int 2))) E5))))))
def aP:Nat->List W->M W
 |0=>fun _=>no
 |n+1=>Gp 1 (cc (aP n))
def gj:Dl->M Fl:=(GF (sIf (E6 (mB (EW (arW 1 i4) (EY (Ff 0) E5)))) Gy GC) (GD (Ff 0)))
def bp:List W->M W:=Gp 1 gj
def dS:Dl->M Fl:=(GF (sIf (E6 (mB (EW (arW 1 lK) (EY (Ff 0) E5)))) Gy GC) (GD (EW Ek (EY (Ff 0) E5))))
def dY:List W->M W:=Gp 1 dS
def cS:Dl->M Fl:=(GF (GG 1 (m2 ixW (Ff 0) (mC (.int 2)))) (GF (sIf (mOr (mB (m2 b7 (Ff 1) (mC (.tup ((["<", "="]:List Str).map W.str))))) (mB (m2 neW (m2 ixW (Ff 0) (mC (.int 5))) (mC (.str "else"))))) Gy GC) (GF (GG 2 (EW (arW 1 f6) (EY (m2 ixW (Ff 0) (mC (.int 1))) E5))) (GF (GG 3 (EW (arW 1 f6) (EY (m2 ixW (Ff 0) (mC (.int 3))) E5))) (GD (Fe (EY (mC (.str "if")) (EY (Ff 1) (EY (Ff 2) (EY (Ff 3) (EY (EW (arW 1 bp) (EY (m2 ixW (Ff 0) (mC (.int 4))) E5)) (EY (EW (arW 1 bp) (EY (m2 ixW (Ff 0) (mC (.int 6))) E5)) E5))))))))))))
def cU:List W->M W:=Gp 4 cS
def gm:Dl->M Fl:=(GF (GG 1 (E3 isS G8 (Ff 0) (EY (mC (.str " ")) E5))) (GF (GG 2 (m2 ixW (Ff 1) (mC (.int 0)))) (GF (GG 3 (EW EQ (EY (Ff 1) E5))) (GF (sIf (EU (mB (m2 eqW (Ff 2) (mC (.str "box")))) (mB (m2 eqW (Ff 3) (mC (.int 3))))) (GD (Fe (EY (mC (.str "box")) (EY (EW (arW 1 bp) (EY (m2 ixW (Ff 1) (mC (.int 1))) E5)) (EY (EW (arW 1 dY) (EY (m2 ixW (Ff 1) (mC (.int 2))) E5)) E5))))) GC) (GF (sIf (EU (mB (m2 eqW (Ff 2) (mC (.str "block")))) (mB (m2 eqW (Ff 3) (mC (.int 2))))) (GD (Fe (EY (mC (.str "block")) (EY (EW (arW 1 bp) (EY (m2 ixW (Ff 1) (mC (.int 1))) E5)) E5)))) GC) (GF (sIf (EU (mB (m2 eqW (Ff 2) (mC (.str "put")))) (mB (m2 eqW (Ff 3) (mC (.int 3))))) (GD (Fe (EY (mC (.str "put")) (EY (EW (arW 1 bp) (EY (m2 ixW (Ff 1) (mC (.int 1))) E5)) (EY (EW (arW 1 f6) (EY (m2 ixW (Ff 1) (mC (.int 2))) E5)) E5))))) GC) (GF (sIf (EU (mB (m2 eqW (Ff 2) (mC (.str "say")))) (mB (m2 eqW (Ff 3) (mC (.int 2))))) (GD (Fe (EY (mC (.str "say")) (EY (EW (arW 1 f6) (EY (m2 ixW (Ff 1) (mC (.int 1))) E5)) E5)))) GC) (GF (sIf (EU (mB (m2 eqW (Ff 2) (mC (.str "ask")))) (mB (m2 eqW (Ff 3) (mC (.int 2))))) (GD (Fe (EY (mC (.str "ask")) (EY (EW (arW 1 bp) (EY (m2 ixW (Ff 1) (mC (.int 1))) E5)) E5)))) GC) (GF (sIf (EU (mB (m2 eqW (Ff 2) (mC (.str "go")))) (mB (m2 eqW (Ff 3) (mC (.int 2))))) (GD (Fe (EY (mC (.str "go")) (EY (EW (arW 1 bp) (EY (m2 ixW (Ff 1) (mC (.int 1))) E5)) E5)))) GC) (GF (sIf (EU (mB (m2 eqW (Ff 2) (mC (.str "if")))) (mB (m2 eqW (Ff 3) (mC (.int 7))))) (GD (EW (arW 1 cU) (EY (Ff 1) E5))) GC) (GF (sIf (EU (mB (m2 eqW (Ff 2) (mC (.str "table")))) (mB (bW leW leW (mC (.int 3)) (Ff 3) (m2 DC (mC (.int 2)) (mC (.int 6)))))) (GD (Fe (EY (mC (.str "table")) (EY (EW (arW 1 f6) (EY (m2 ixW (Ff 1) (mC (.int 1))) E5)) (EY (EW gw (EY (mTl (EX [] (Fb (m3 slW (Ff 1) (E8 (mC (.int 2))) aA) G9) (tgN 0) Fg (EW (arW 1 bp) (EY (Ff 0) E5)) 2)) E5)) E5))))) GC) (GF (sIf (EU (mB (m2 eqW (Ff 2) (mC (.str "stop")))) (mB (m2 eqW (Ff 3) (mC (.int 1))))) (GD (Fe (EY (mC (.str "stop")) E5))) GC) Gy))))))))))))
def gu:List W->M W:=Gp 4 gm
def al:Dl->M Fl:=(GF (sIf (mB (m2 eqW (m2 ixW (Ff 0) (mC (.int 0))) (mC (.str "put")))) (GD (mTl (DL (mTl (EO (EY (m2 ixW (Ff 0) (mC (.int 1))) E5))) (EW (arW 1 (aP 62)) (EY (m2 ixW (Ff 0) (mC (.int 2))) E5))))) GC) (GF (sIf (mB (m2 eqW (m2 ixW (Ff 0) (mC (.int 0))) (mC (.str "say")))) (GD (EW (arW 1 (aP 62)) (EY (m2 ixW (Ff 0) (mC (.int 1))) E5))) GC) (GF (sIf (mB (m2 eqW (m2 ixW (Ff 0) (mC (.int 0))) (mC (.str "ask")))) (GD (mTl (EO (EY (m2 ixW (Ff 0) (mC (.int 1))) E5)))) GC) (GF (sIf (mB (m2 eqW (m2 ixW (Ff 0) (mC (.int 0))) (mC (.str "if")))) (GD (m2 DC (EW (arW 1 (aP 62)) (EY (m2 ixW (Ff 0) (mC (.int 2))) E5)) (EW (arW 1 (aP 62)) (EY (m2 ixW (Ff 0) (mC (.int 3))) E5)))) GC) (GF (sIf (mB (m2 eqW (m2 ixW (Ff 0) (mC (.int 0))) (mC (.str "table")))) (GD (EW (arW 1 (aP 62)) (EY (m2 ixW (Ff 0) (mC (.int 1))) E5))) GC) (GD (mTl (EO E5))))))))
def aH:List W->M W:=Gp 1 al
def eS:Dl->M Fl:=(GF (sIf (mB (m2 b7 (Ff 0) (Ff 1))) Gy GC) (GD (E3 Ep GV (Ff 1) (EY (Ff 0) E5))))
def cF:List W->M W:=Gp 2 eS
def aG:Dl->M Fl:=(GF (sIf (mB (m2 eqW (m2 ixW (Ff 0) (mC (.int 0))) (mC (.str "go")))) (GD (Fe (EY (mC (.str "go")) (EY (EW (arW 2 cF) (EY (m2 ixW (Ff 0) (mC (.int 1))) (EY (Ff 1) E5))) E5)))) GC) (GF (sIf (mB (m2 eqW (m2 ixW (Ff 0) (mC (.int 0))) (mC (.str "if")))) (GD (m2 DC (m3 slW (Ff 0) aA (E8 (mC (.int 4)))) (Fe (EY (EW (arW 2 cF) (EY (m2 ixW (Ff 0) (mC (.int 4))) (EY (Ff 1) E5))) (EY (EW (arW 2 cF) (EY (m2 ixW (Ff 0) (mC (.int 5))) (EY (Ff 1) E5))) E5))))) GC) (GF (sIf (mB (m2 eqW (m2 ixW (Ff 0) (mC (.int 0))) (mC (.str "table")))) (GD (Fe (EY (mC (.str "table")) (EY (m2 ixW (Ff 0) (mC (.int 1))) (EY (EW gw (EY (mTl (EX [] (Fb (m2 ixW (Ff 0) (mC (.int 2))) Hb) (tgN 0) Fg (EW (arW 2 cF) (EY (Ff 0) (EY (Ff 3) E5))) 2)) E5)) E5))))) GC) (GD (Ff 0)))))
def bf:List W->M W:=Gp 2 aG
def bP:Dl->M Fl:=(GF (GA "Reading" "boxes" (Ff 0) (E4 (EO E5))) (GF (GA "Reading" "block_names" (Ff 0) (E4 (EO E5))) (GF (GA "Reading" "ended_blocks" (Ff 0) (E4 (EO E5))) (GA "Reading" "statements" (Ff 0) (E4 (EO E5))))))
def bQ:List W->M W:=Gp 1 bP
def bM:Dl->M Fl:=(GD (m2 gtW (EW EQ (EY (m1 (D8 "Reading" "block_names") (Ff 0)) E5)) (EW EQ (EY (m1 (D8 "Reading" "ended_blocks") (Ff 0)) E5))))
def ba:List W->M W:=Gp 1 bM
def bE:Dl->M Fl:=(GD (mTl (EX [] (Fb (m1 (D8 "Reading" "boxes") (Ff 0)) G9) (tgT [0,1]) Fg (Ff 0) 3)))
def bg:List W->M W:=Gp 1 bE
def ay:Dl->M Fl:=(sIf (mB (m2 eqW (Ff 1) (mC (.str "box")))) (sIf (mB (m2 gtW (EW EQ (EY (m1 (D8 "Reading" "block_names") (Ff 0)) E5)) (mC (.int 0)))) Gy GC) (sIf (mB (m2 eqW (Ff 1) (mC (.str "block")))) (sIf (mB (E2 "Reading" "in_block" 1 ba (Ff 0) E5)) Gy GC) (sIf (E6 (mB (E2 "Reading" "in_block" 1 ba (Ff 0) E5))) Gy GC)))
def aq:List W->M W:=Gp 2 ay
def ax:Dl->M Fl:=(GF (sIf (EU (mB (m2 eqW (m2 ixW (Ff 1) (mC (.int 0))) (mC (.str "box")))) (mB (m2 inW (m2 ixW (Ff 1) (mC (.int 1))) (E2 "Reading" "box_names" 1 bg (Ff 0) E5)))) Gy GC) (sIf (EU (mB (m2 eqW (m2 ixW (Ff 1) (mC (.int 0))) (mC (.str "block")))) (mB (m2 inW (m2 ixW (Ff 1) (mC (.int 1))) (m1 (D8 "Reading" "block_names") (Ff 0))))) Gy GC))
def ao:List W->M W:=Gp 2 ax
def az:Dl->M Fl:=(GF (sIf (EU (mB (m2 eqW (Ff 1) (mC (.str "box")))) (mB (m2 eqW (EW EQ (EY (m1 (D8 "Reading" "boxes") (Ff 0)) E5)) (mC (.int 4))))) Gy GC) (GF (sIf (EU (mB (m2 eqW (Ff 1) (mC (.str "block")))) (mB (m2 eqW (EW EQ (EY (m1 (D8 "Reading" "block_names") (Ff 0)) E5)) (mC (.int 10))))) Gy GC) (sIf (EU (mB (m2 inW (Ff 1) (mC (.tup ((["put", "say", "ask"]:List Str).map W.str))))) (mB (m2 eqW (EW EQ (EY (m1 (D8 "Reading" "statements") (Ff 0)) E5)) (mC (.int 8))))) Gy GC)))
def av:List W->M W:=Gp 2 az
def bu:Dl->M Fl:=(GF (GG 2 (E2 "Reading" "box_names" 1 bg (Ff 0) E5)) (GB (Fb (EW (arW 1 aH) (EY (Ff 1) E5)) G9) (tgN 3) (sIf (mB (m2 b7 (Ff 3) (Ff 2))) Gy GC)))
def aX:List W->M W:=Gp 4 bu
def aw:Dl->M Fl:=(sIf (mB (m2 eqW (m2 ixW (Ff 1) (mC (.int 0))) (mC (.str "box")))) (sEx (E3 isL aU (m1 (D8 "Reading" "boxes") (Ff 0)) (EY (Fe (EY (m2 ixW (Ff 1) (mC (.int 1))) (EY (m2 ixW (Ff 1) (mC (.int 2))) E5))) E5))) (sIf (mB (m2 eqW (m2 ixW (Ff 1) (mC (.int 0))) (mC (.str "block")))) (GF (sEx (E3 isL aU (m1 (D8 "Reading" "block_names") (Ff 0)) (EY (m2 ixW (Ff 1) (mC (.int 1))) E5))) (GA "Reading" "statements" (Ff 0) (E4 (EO E5)))) (sIf (mB (m2 inW (m2 ixW (Ff 1) (mC (.int 0))) (mC (.tup ((["put", "say", "ask"]:List Str).map W.str))))) (sEx (E3 isL aU (m1 (D8 "Reading" "statements") (Ff 0)) (EY (Ff 1) E5))) (sEx (E3 isL aU (m1 (D8 "Reading" "ended_blocks") (Ff 0)) (EY (Fe (EY (m2 ixW (m1 (D8 "Reading" "block_names") (Ff 0)) (m1 Fn (mC (.int 1)))) (EY (m1 (D8 "Reading" "statements") (Ff 0)) (EY (Ff 1) E5)))) E5))))))
def am:List W->M W:=Gp 2 aw
def cT:Dl->M Fl:=(GF (sEx (E2 "Reading" "check_place" 2 aq (Ff 0) (EY (m2 ixW (Ff 1) (mC (.int 0))) E5))) (GF (sEx (E2 "Reading" "check_twice" 2 ao (Ff 0) (EY (Ff 1) E5))) (GF (sEx (E2 "Reading" "check_room" 2 av (Ff 0) (EY (m2 ixW (Ff 1) (mC (.int 0))) E5))) (GF (sEx (E2 "Reading" "check_boxes" 2 aX (Ff 0) (EY (Ff 1) E5))) (sEx (E2 "Reading" "put_down" 2 am (Ff 0) (EY (Ff 1) E5)))))))
def cV:List W->M W:=Gp 2 cT
def bh:Dl->M Fl:=(GF (sIf (mOr (mB (E2 "Reading" "in_block" 1 ba (Ff 0) E5)) (mB (m2 eqW (EW EQ (EY (m1 (D8 "Reading" "block_names") (Ff 0)) E5)) (mC (.int 0))))) Gy GC) (GF (GG 1 (E4 (EO E5))) (GF (GB (Fb (m1 (D8 "Reading" "ended_blocks") (Ff 0)) G9) (tgT [2,3,4]) (sEx (E3 isL aU (Ff 1) (EY (Fe (EY (Ff 2) (EY (Ff 3) (EY (EW (arW 2 bf) (EY (Ff 4) (EY (m1 (D8 "Reading" "block_names") (Ff 0)) E5))) E5)))) E5)))) (GD (Fe (EY (m1 (D8 "Reading" "boxes") (Ff 0)) (EY (Ff 1) E5)))))))
def bj:List W->M W:=Gp 5 bh
def lJ:Dl->M Fl:=(GF (GG 1 (E3 isS G8 (Ff 0) (EY (mC (.str "\n")) E5))) (GF (sIf (mB (m2 gtW (EW EQ (EY (Ff 1) E5)) (mC (.int 120)))) Gy GC) (GF (GG 2 (EZ "Reading" 1 bQ E5)) (GF (GB (Fb (Ff 1) G9) (tgN 3) (sEx (E2 "Reading" "take" 2 cV (Ff 2) (EY (EW (arW 1 gu) (EY (Ff 3) E5)) E5)))) (GD (E2 "Reading" "told_program" 1 bj (Ff 2) E5))))))
def gF:List W->M W:=Gp 4 lJ
def eY:Dl->M Fl:=(GD (EW Hj (EY (E9 (Ff 0) (E8 (Ff 1)) (E8 (mC (.int 63))) (E8 (mC (.int 11)))) E5)))
def cH:List W->M W:=Gp 2 eY
def eV:Dl->M Fl:=(GF (sIf (mB (m2 geW (Ff 0) (m2 Gb (mC (.int 10)) (mC (.int 18))))) (GD (m2 Fj (m2 GU (m2 Hi (Ff 0) (m2 Gb (mC (.int 10)) (mC (.int 18)))) (m2 Fm (mC (.int 28)) (Ff 1))) (m2 Gb (mC (.int 2)) (mC (.int 28))))) GC) (GF (GG 2 (m2 Fj (m2 Fm (m2 DC (m2 DC (Ff 0) (m2 Fm (mC (.int 1013)) (Ff 1))) (mC (.int 1))) (mC (.int 16807))) (mC (.int 2147483647)))) (GF (GG 2 (m2 Fj (m2 Fm (Ff 2) (Ff 2)) (mC (.int 2147483629)))) (GD (m2 D5 (m2 Fj (m2 Fm (Ff 2) (mC (.int 39373))) (mC (.int 2147483587))) (mC (.int 8)))))))
def ag:List W->M W:=Gp 3 eV
def dW:Dl->M Fl:=(GF (GG 3 (mC (.str "abcdefghijklmnopqrstuvwxyz"))) (GF (GG 4 (mTl (EO (EY (mC (.str "box")) (EY (mC (.str "block")) (EY (mC (.str "put")) (EY (mC (.str "say")) (EY (mC (.str "ask")) (EY (mC (.str "go")) (EY (mC (.str "if")) (EY (mC (.str "else")) (EY (mC (.str "table")) (EY (mC (.str "stop")) E5))))))))))))) (GF (GG 5 (m2 DC (mC (.int 1)) (m2 Fj (EW (arW 2 ag) (EY (Ff 0) (EY (Ff 1) E5))) (mC (.int 8))))) (GF (GG 6 (E3 isS EE (mC (.str "")) (EY (mTl (EX [] (Fc (EY (Ff 5) E5) Gn) (tgN 0) Fg (m2 ixW (Ff 5) (m2 Fj (EW (arW 2 ag) (EY (Ff 2) (EY (m2 DC (m2 DC (Ff 3) (mC (.int 1))) (Ff 0)) E5))) (mC (.int 26)))) 2)) E5))) (GF (GG 7 (E4 (EO E5))) (GF (GB (Fc (EY (Ff 2) E5) Gn) (tgN 8) (GF (GG 9 (EW (arW 2 ag) (EY (Ff 0) (EY (m2 DC (m2 DC (Ff 1) (mC (.int 9))) (Ff 8)) E5)))) (GF (GG 10 (m2 Fj (Ff 9) (Ff 5))) (GF (GG 11 (m2 DC (m2 DC (m3 slW (Ff 6) aA (E8 (Ff 10))) (m2 ixW (Ff 3) (m2 Fj (m2 D5 (Ff 9) (mC (.int 8))) (mC (.int 26))))) (m3 slW (Ff 6) (E8 (m2 DC (Ff 10) (mC (.int 1)))) aA))) (GF (sIf (mB (m2 eqW (m2 Fj (m2 D5 (Ff 9) (mC (.int 208))) (mC (.int 4))) (mC (.int 0)))) (GG 11 (m3 slW (Ff 6) aA (E8 (m2 DC (Ff 10) (mC (.int 1)))))) GC) (GF (sIf (mOr (mB (m2 inW (Ff 11) (Ff 7))) (mB (m2 inW (Ff 11) (Ff 4)))) (GG 11 (m2 ixW (mTl (EX [] (Fb (mTl (EX [] (Fc (EY (mC (.int 12)) E5) Gn) (tgN 0) Fg (m2 DC (mC (.str "zz")) (m2 ixW (Ff 5) (Ff 0))) 2)) G9) (tgN 0) (mB (m2 b7 (Ff 0) (Ff 9))) (Ff 0) 2)) (m2 Fj (m2 D5 (Ff 9) (mC (.int 832))) (mC (.int 2))))) GC) (sEx (E3 isL aU (Ff 7) (EY (Ff 11) E5))))))))) (GD (m1 Eh (Ff 7)))))))))
def ci:List W->M W:=Gp 12 dW
def eW:Dl->M Fl:=(GF (sIf (EU (mB (m2 eqW (m2 Fj (Ff 0) (mC (.int 2))) (mC (.int 0)))) (mB (m2 neW (Ff 1) (mTl (EO E5))))) (GD (Fe (EY (mC (.str "box")) (EY (m2 ixW (Ff 1) (m2 Fj (m2 D5 (Ff 0) (mC (.int 2))) (EW EQ (EY (Ff 1) E5)))) E5)))) GC) (GD (Fe (EY (mC (.str "number")) (EY (m2 Fj (m2 D5 (Ff 0) (mC (.int 10))) (m2 ixW (mTl (EO (EY (mC (.int 10)) (EY (mC (.int 1000)) E5)))) (m2 D5 (m2 Fj (m2 D5 (Ff 0) (mC (.int 2))) (mC (.int 5))) (mC (.int 4))))) E5)))))
def eZ:List W->M W:=Gp 2 eW
def eU (fr:List W->M W):Dl->M Fl:=(GF (GG 4 (EW (arW 2 ag) (EY (Ff 0) (EY (Ff 1) E5)))) (GF (sIf (mOr (mB (m2 eqW (Ff 2) (mC (.int 0)))) (mB (m2 eqW (m2 Fj (Ff 4) (mC (.int 3))) (mC (.int 0))))) (GD (EW (arW 2 eZ) (EY (m2 D5 (Ff 4) (mC (.int 3))) (EY (Ff 3) E5)))) GC) (GF (GG 5 (m2 ixW (mC (.str "+-*")) (m2 Fj (m2 D5 (Ff 4) (mC (.int 3))) (mC (.int 3))))) (GF (GG 6 (EW (arW 4 fr) (EY (Ff 0) (EY (m2 DC (m2 Fm (mC (.int 2)) (Ff 1)) (mC (.int 1))) (EY (m2 Hi (Ff 2) (mC (.int 1))) (EY (Ff 3) E5)))))) (GD (Fe (EY (Ff 5) (EY (Ff 6) (EY (EW (arW 4 fr) (EY (Ff 0) (EY (m2 DC (m2 Fm (mC (.int 2)) (Ff 1)) (mC (.int 2))) (EY (m2 Hi (Ff 2) (mC (.int 1))) (EY (Ff 3) E5))))) E5)))))))))
def cG:Nat->List W->M W
 |0=>fun _=>no
 |n+1=>Gp 7 (eU (cG n))
def bD (fr:List W->M W):Dl->M Fl:=(GF (sIf (mB (m2 eqW (EW EQ (EY (Ff 0) E5)) (mC (.int 2)))) (GD (EW Hh (EY (m2 ixW (Ff 0) (mC (.int 1))) E5))) GC) (GF (GG 2 (EW (arW 2 fr) (EY (m2 ixW (Ff 0) (mC (.int 1))) (EY (m2 D5 (Ff 1) (mC (.int 2))) E5)))) (GF (GG 3 (EW (arW 2 fr) (EY (m2 ixW (Ff 0) (mC (.int 2))) (EY (m2 D5 (Ff 1) (mC (.int 3))) E5)))) (GF (sIf (mOr (EU (mB (m2 eqW (m2 ixW (Ff 0) (mC (.int 0))) (mC (.str "*")))) (mB (m2 inW (m2 ixW (m2 ixW (Ff 0) (mC (.int 1))) (mC (.int 0))) (mTl (EO (EY (mC (.str "+")) (EY (mC (.str "-")) E5))))))) (mB (m2 eqW (m2 Fj (Ff 1) (mC (.int 5))) (mC (.int 1))))) (GG 2 (m2 DC (m2 DC (mC (.str "(")) (Ff 2)) (mC (.str ")")))) GC) (GF (sIf (mOr (mB (m2 inW (m2 ixW (m2 ixW (Ff 0) (mC (.int 2))) (mC (.int 0))) (mTl (EO (EY (mC (.str "+")) (EY (mC (.str "-")) E5)))))) (mOr (EU (mB (m2 eqW (m2 ixW (Ff 0) (mC (.int 0))) (mC (.str "*")))) (mB (m2 eqW (m2 ixW (m2 ixW (Ff 0) (mC (.int 2))) (mC (.int 0))) (mC (.str "*"))))) (mB (m2 eqW (m2 Fj (Ff 1) (mC (.int 7))) (mC (.int 1)))))) (GG 3 (m2 DC (m2 DC (mC (.str "(")) (Ff 3)) (mC (.str ")")))) GC) (GD (m2 DC (m2 DC (Ff 2) (m2 ixW (Ff 0) (mC (.int 0)))) (Ff 3))))))))
def aC:Nat->List W->M W
 |0=>fun _=>no
 |n+1=>Gp 4 (bD (aC n))
def dh:Dl->M Fl:=(GF (GG 1 (mC (.int 0))) (GF (GG 2 (mC (.int 0))) (GF (GB (Fb (Ff 0) Ha) (tgN 3) (GF (GG 1 (m2 Hi (m2 DC (Ff 1) (EW Ek (EY (m2 eqW (Ff 3) (mC (.str "("))) E5))) (EW Ek (EY (m2 eqW (Ff 3) (mC (.str ")"))) E5)))) (GG 2 (EW Fi (EY (Ff 2) (EY (Ff 1) E5)))))) (GD (Ff 2)))))
def dj:List W->M W:=Gp 4 dh
def eX:Dl->M Fl:=(GF (GG 3 (EW (arW 4 (cG 5)) (EY (Ff 0) (EY (Ff 1) (EY (m2 Fj (EW (arW 2 ag) (EY (Ff 0) (EY (m2 DC (Ff 1) (mC (.int 90))) E5))) (mC (.int 4))) (EY (Ff 2) E5)))))) (GF (GB (Fb (mTl (EO (EY (EW (arW 2 ag) (EY (Ff 0) (EY (m2 DC (Ff 1) (mC (.int 91))) E5))) (EY (mC (.int 0)) E5)))) G9) (tgN 4) (GF (GG 5 (EW (arW 2 (aC 5)) (EY (Ff 3) (EY (Ff 4) E5)))) (sIf (EU (mB (m2 leW (EW EQ (EY (Ff 5) E5)) (mC (.int 60)))) (mB (m2 ltW (EW (arW 1 dj) (EY (Ff 5) E5)) (mC (.int 6))))) (GD (mTl (EO (EY (Ff 5) (EY (Ff 3) E5))))) GC))) (GD (mTl (EO (EY (mC (.str "7")) (EY (Fe (EY (mC (.str "number")) (EY (mC (.int 7)) E5))) E5)))))))
def c8:List W->M W:=Gp 6 eX
def cz:Dl->M Fl:=(GF (GG 2 (EW (arW 2 ag) (EY (Ff 0) (EY (mC (.int 0)) E5)))) (GF (GH (tgL [3,4]) (EW (arW 3 c8) (EY (Ff 0) (EY (mC (.int 3)) (EY (Ff 1) E5))))) (GF (sIf (mOr (mB (m2 eqW (m2 Fj (Ff 2) (mC (.int 4))) (mC (.int 0)))) (mB (m2 eqW (Ff 1) (mTl (EO E5))))) (GD (mTl (EO (EY (m2 DC (mC (.str "say ")) (Ff 3)) (EY (Fe (EY (mC (.str "say")) (EY (Ff 4) E5))) E5))))) GC) (GF (GG 5 (m2 ixW (Ff 1) (m2 Fj (m2 D5 (Ff 2) (mC (.int 8))) (EW EQ (EY (Ff 1) E5))))) (GF (sIf (mB (m2 eqW (m2 Fj (Ff 2) (mC (.int 4))) (mC (.int 1)))) (GD (mTl (EO (EY (m2 DC (mC (.str "ask ")) (Ff 5)) (EY (Fe (EY (mC (.str "ask")) (EY (Ff 5) E5))) E5))))) GC) (GD (mTl (EO (EY (m2 DC (m2 DC (m2 DC (mC (.str "put ")) (Ff 5)) (mC (.str " "))) (Ff 3)) (EY (Fe (EY (mC (.str "put")) (EY (Ff 5) (EY (Ff 4) E5)))) E5))))))))))
def bU:List W->M W:=Gp 6 cz
def gk:Dl->M Fl:=(GF (GG 3 (EW (arW 2 ag) (EY (Ff 0) (EY (mC (.int 0)) E5)))) (GF (GG 4 (m2 Fj (Ff 3) (mC (.int 6)))) (GF (GG 5 (mTl (EX [] (Fc (EY (mC (.int 6)) E5) Gn) (tgN 0) Fg (m2 Fj (EW (arW 2 ag) (EY (Ff 2) (EY (m2 DC (mC (.int 40)) (Ff 0)) E5))) (EW EQ (EY (Ff 4) E5))) 2))) (GF (GH (tgL [6,7]) (EW (arW 3 c8) (EY (Ff 0) (EY (mC (.int 3)) (EY (Ff 1) E5))))) (GF (GH (tgL [8,9]) (EW (arW 3 c8) (EY (Ff 0) (EY (mC (.int 60)) (EY (Ff 1) E5))))) (GF (sIf (mB (m2 ltW (Ff 4) (mC (.int 2)))) (GD (mTl (EO (EY (m2 DC (mC (.str "go ")) (m2 ixW (Ff 2) (m2 ixW (Ff 5) (mC (.int 0))))) (EY (Fe (EY (mC (.str "go")) (EY (m2 ixW (Ff 5) (mC (.int 0))) E5))) E5))))) GC) (GF (sIf (mB (m2 ltW (Ff 4) (mC (.int 4)))) (GF (GG 10 (m2 ixW (mC (.str "<=")) (m2 Fj (m2 D5 (Ff 3) (mC (.int 6))) (mC (.int 2))))) (GF (GG 11 (mTl (EO (EY (mC (.str "if")) (EY (Ff 6) (EY (Ff 10) (EY (Ff 8) (EY (m2 ixW (Ff 2) (m2 ixW (Ff 5) (mC (.int 0)))) (EY (mC (.str "else")) (EY (m2 ixW (Ff 2) (m2 ixW (Ff 5) (mC (.int 1)))) E5)))))))))) (GD (mTl (EO (EY (E3 isS EE (mC (.str " ")) (EY (Ff 11) E5)) (EY (Fe (EY (mC (.str "if")) (EY (Ff 10) (EY (Ff 7) (EY (Ff 9) (EY (m2 ixW (Ff 5) (mC (.int 0))) (EY (m2 ixW (Ff 5) (mC (.int 1))) E5))))))) E5))))))) GC) (GF (sIf (mB (m2 eqW (Ff 4) (mC (.int 4)))) (GF (GG 12 (m3 slW (Ff 5) aA (E8 (m2 DC (mC (.int 1)) (m2 Fj (m2 D5 (Ff 3) (mC (.int 6))) (mC (.int 6))))))) (GD (mTl (EO (EY (E3 isS EE (mC (.str " ")) (EY (mTl (DL (mTl (EO (EY (mC (.str "table")) (EY (Ff 6) E5)))) (mTl (EX [] (Fb (Ff 12) G9) (tgN 0) Fg (m2 ixW (Ff 4) (Ff 0)) 2)))) E5)) (EY (Fe (EY (mC (.str "table")) (EY (Ff 7) (EY (EW gw (EY (Ff 12) E5)) E5)))) E5)))))) GC) (GD (mTl (EO (EY (mC (.str "stop")) (EY (Fe (EY (mC (.str "stop")) E5)) E5)))))))))))))
def dE:List W->M W:=Gp 13 gk
def dX:Dl->M Fl:=(GF (GG 3 (E4 (EX [] (Fb (Ff 1) G9) (tgT [0,1]) Fg (m2 DC (m2 DC (m2 DC (mC (.str "box ")) (Ff 0)) (mC (.str " "))) (EW Hh (EY (Ff 1) E5))) 3))) (GF (GG 4 (mTl (EX [] (Fb (Ff 1) G9) (tgT [0,1]) Fg (Ff 0) 3))) (GF (GG 5 (E4 (EO E5))) (GF (GB (Fc (EY (Ff 2) E5) DZ) (tgT [6,7]) (GF (GG 8 (EW (arW 2 cH) (EY (Ff 0) (EY (m2 DC (mC (.int 1)) (Ff 6)) E5)))) (GF (sEx (E3 isL aU (Ff 3) (EY (m2 DC (mC (.str "block ")) (Ff 7)) E5))) (GF (GG 9 (E4 (EO E5))) (GF (GB (Fc (EY (m2 ixW (mTl (EO (EY (mC (.int 0)) (EY (mC (.int 1)) (EY (mC (.int 3)) (EY (mC (.int 8)) (EY (m2 Fj (EW (arW 2 ag) (EY (Ff 8) (EY (mC (.int 600)) E5))) (mC (.int 9))) E5))))))) (m2 Fj (EW (arW 2 ag) (EY (Ff 8) (EY (mC (.int 601)) E5))) (mC (.int 5)))) E5) Gn) (tgN 10) (GF (GH (tgL [11,12]) (EW (arW 2 bU) (EY (m2 DC (EW (arW 2 ag) (EY (Ff 8) (EY (m2 DC (mC (.int 610)) (Ff 10)) E5))) (Ff 10)) (EY (Ff 4) E5)))) (GF (sEx (E3 isL aU (Ff 3) (EY (Ff 11) E5))) (sEx (E3 isL aU (Ff 9) (EY (Ff 12) E5)))))) (GF (GH (tgL [11,12]) (EW (arW 3 dE) (EY (m2 DC (EW (arW 2 ag) (EY (Ff 8) (EY (mC (.int 602)) E5))) (Ff 6)) (EY (Ff 4) (EY (Ff 2) E5))))) (GF (sEx (E3 isL aU (Ff 3) (EY (Ff 11) E5))) (sEx (E3 isL aU (Ff 5) (EY (Fe (EY (Ff 7) (EY (m1 Eh (Ff 9)) (EY (Ff 12) E5)))) E5)))))))))) (GD (mTl (EO (EY (m1 Eh (Ff 3)) (EY (Fe (EY (Ff 1) (EY (m1 Eh (Ff 5)) E5))) E5)))))))))
def du:List W->M W:=Gp 13 dX
def dg:Dl->M Fl:=(GF (GG 1 (EW (arW 2 cH) (EY (Ff 0) (EY (mC (.int 0)) E5)))) (GF (GG 2 (m3 slW (EW (arW 3 ci) (EY (Ff 1) (EY (mC (.int 300)) (EY (mC (.int 4)) E5)))) aA (E8 (m2 Fj (EW (arW 2 ag) (EY (Ff 1) (EY (mC (.int 620)) E5))) (mC (.int 5)))))) (GF (GG 3 (mTl (EX [] (Fc (EY (Ff 2) E5) DZ) (tgT [0,1]) Fg (Fe (EY (Ff 1) (EY (m2 ixW (mTl (EO (EY (mC (.int 0)) (EY (mC (.int 999)) (EY (mC (.int 7)) (EY (mC (.int 40)) E5)))))) (m2 Fj (m2 DC (m2 D5 (EW (arW 2 ag) (EY (Ff 4) (EY (mC (.int 630)) E5))) (mC (.int 4))) (Ff 0)) (mC (.int 4)))) E5))) 3))) (GF (GG 4 (m3 slW (EW (arW 3 ci) (EY (Ff 1) (EY (mC (.int 400)) (EY (mC (.int 10)) E5)))) aA (E8 (m2 DC (mC (.int 1)) (m2 Fj (EW (arW 2 ag) (EY (Ff 1) (EY (mC (.int 621)) E5))) (mC (.int 10))))))) (GF (sIf (mB (m2 eqW (m2 Fj (EW (arW 2 ag) (EY (Ff 1) (EY (mC (.int 622)) E5))) (mC (.int 3))) (mC (.int 0)))) (GG 4 (m3 slW (m2 DC (Ff 2) (mTl (EX [] (Fb (Ff 4) G9) (tgN 0) (mB (m2 b7 (Ff 0) (Ff 4))) (Ff 0) 2))) aA (E8 (EW EQ (EY (Ff 4) E5))))) GC) (GD (EW (arW 3 du) (EY (Ff 0) (EY (Ff 3) (EY (Ff 4) E5))))))))))
def di:List W->M W:=Gp 5 dg
def dU (fr:List W->M W):Dl->M Fl:=(GF (sIf (mB (EW Eu (EY (Ff 0) (EY (Fe (EY (mC (.ty "tuple")) (EY (mC (.ty "list")) E5))) E5)))) (GD (m2 eqW (mTl (EX [] (Fb (Ff 0) Hc) (tgN 0) (E6 (mB (EW (arW 1 fr) (EY (Ff 0) E5)))) (Ff 0) 2)) (mTl (EO E5)))) GC) (GD (EV (EW Eu (EY (Ff 0) (EY (Fe (EY (mC (.ty "str")) (EY (mC (.ty "int")) E5))) E5))) (E7 (EW Ev (EY (Ff 0) (EY (mC (.ty "bool")) E5)))))))
def bH:Nat->List W->M W
 |0=>fun _=>no
 |n+1=>Gp 1 (dU (bH n))
def pz:Dl->M Fl:=(GF (GH (tgL [1,2]) (EW (arW 1 di) (EY (Ff 0) E5))) (GF (GG 3 (E3 isS EE (mC (.str "\n")) (EY (Ff 1) E5))) (GF (GG 4 (EW (arW 1 gF) (EY (Ff 3) E5))) (GF (sIf (mOr (E6 (mB (EW Ev (EY (Ff 4) (EY (mC (.ty "tuple")) E5))))) (mOr (mB (m2 neW (Ff 4) (Ff 2))) (E6 (mB (EW (arW 1 (bH 12)) (EY (Ff 4) E5)))))) (GD (mC (.bl false))) GC) (GF (GG 5 (mTl (DL (mTl (EO (EY (m2 ixW (Ff 4) (mC (.int 0))) (EY (m2 ixW (Ff 4) (mC (.int 1))) E5)))) (mTl (EX [] (Fb (m2 ixW (Ff 4) (mC (.int 1))) G9) (tgT [0,1,2]) Fg (Ff 1) 4))))) (GF (GG 6 (mTl (EX [] (Fb (Ff 5) G9) (tgN 0) Fg (EW EQ (EY (Ff 0) E5)) 2))) (GF (GB (Fb (Ff 5) G9) (tgN 7) (GF (sIf (E6 (mB (EW Ev (EY (Ff 7) (EY (mC (.ty "list")) E5))))) (GD (mC (.bl false))) GC) (sEx (E3 isL aU (Ff 7) (EY (Fe (EY (mC (.str "zebra")) (EY (mC (.int 0)) E5))) E5))))) (GF (sIf (mB (m2 neW (mTl (EX [] (Fb (Ff 5) G9) (tgN 0) Fg (EW EQ (EY (Ff 0) E5)) 2)) (mTl (EX [] (Fb (Ff 6) G9) (tgN 0) Fg (m2 DC (Ff 0) (mC (.int 1))) 2)))) (GD (mC (.bl false))) GC) (GD (m2 eqW (EW (arW 1 gF) (EY (Ff 3) E5)) (Ff 2)))))))))))
def mZ:List W->M W:=Gp 8 pz
section
variable {P:B2}{w:B3}{K:PySem.W.Frag}{mg:Str->Option BZ}{base:B4}{f:B5}{fd:CW}
end
end Q
namespace Q
open PySem L2
local macro_rules | `(tactic| simp! only [$xs,*]) => `(tactic| try simp only [D6,bY,cX,cW,cZ,cY,cM,d4,d5,GB,E2,aZ,sAug,sAugW,GA,tupW,GD,GG,GC,sEx,sPass,cN,sCont,GH,cL,mB,L2.m2,L2.m1,L2.m3,Ff,mC,EW,EY,E5,Fe,mTl,E4,EO,listL,E8,aA,EU,mOr,E6,EV,mOrV,E7,mIf,bW,E3,isS,Fb,Fc,G9,Hb,Ha,tgN,tgT,GR,Fg,cq,bd_no,asB_bl,addW_int,subW_int,ltW_int,leW_int,gtW_int,geW_int,eqW_int,eqW_str,neW_int,neW_str,neW_bl,slW_tl,slW_cl,lenW_tl,lenW_tup,Fn,List.set_cons_zero,List.set_cons_succ,List.getElem?_cons_zero,Bm,zx,List.length_nil,arW,if_true,if_false,Bool.false_eq_true,ite_true,ite_false,reduceIte,decide_true,decide_false,Bool.not_true,Bool.not_false,dQ,gdn0,gdn1,gdn2,gdn3,gdn4,gdn5,gdn6,gdn7,gdn8,gdn9,gdn10,gdn11,gdn12,gdn13,gdn14,gdn15,gdn16,gdn17,gdn18,gdn19,gdn20,gdn21,gdn22,gdn23,gdn24,$xs,*])
local macro_rules | `(tactic| simp!) => `(tactic| simp! only [aa])
section
theorem sz {n:Nat}(h:n<=100000):n<=sizeLine:=zJ h (by decide)
theorem gY (l:List W):ES (.tl l)=pr l:=rfl
theorem bX (l:List W):G9 (.tl l)=pr ⟨l,fun _=>True⟩:=rfl
theorem ig (l:List W):gw [.tl l]=pr (.tup l):=rfl
theorem lR (a b:List W)(h:a.length+b.length<=sizeLine):DC (.tl a) (.tl b)=pr (.tl (a++b)):=by
 show gd (a.length+b.length<=sizeLine) (pr (W.tl (a++b)))=_
 exact af h
noncomputable def Pd:Nat->W->Prop
 |0,_=>False
 |n+1,w=>(∃i,w=.int i)\/(∃z,w=.str z/\C9.strOk z=true)\/ ∃l,(w=.tup l\/w=.tl l)/\l.length<=1000/\ ∀x∈l,Pd n x
theorem Pd.mono: ∀ {n:Nat}{w:W},Pd n w->Pd (n+1) w
 |n+1,w,p=>by
  rcases p with p|p|⟨l,e,z,p⟩
  ·exact .inl p
  ·exact .inr (.inl p)
  ·exact .inr (.inr ⟨l,e,z,fun x hx=>(p x hx).mono⟩)
theorem Pd.up {n m:Nat}{w:W}(p:Pd n w)(h:n<=m):Pd m w:=by
 induction m with
 |zero=>
  have:n=0:=by omega
  subst this;exact p
 |succ m ih=>
  by_cases e:n=m+1
  ·subst e;exact p
  ·exact (ih (by omega)).mono
theorem Pd.int {n:Nat}{i:Int}:Pd (n+1) (.int i):=.inl ⟨i,rfl⟩
theorem Pd.str {n:Nat}{i:Str}(h:C9.strOk i=true):Pd (n+1) (.str i):=.inr (.inl ⟨i,rfl,h⟩)
theorem Pd.tup {n:Nat}{l:List W}(z:l.length<=1000)(p:∀x∈l,Pd n x):Pd (n+1) (.tup l):=.inr (.inr ⟨l,.inl rfl,z,p⟩)
theorem Pd.lst {n:Nat}{l:List W}(z:l.length<=1000)(p:∀x∈l,Pd n x):Pd (n+1) (.tl l):=.inr (.inr ⟨l,.inr rfl,z,p⟩)
theorem FZ {a:Str}{i:Int}{n:Nat}(h:C9.strOk a=true):Pd (n+2) (.tup [.str a,.int i]):=.tup (by simp) fun x hx=>by
 rcases zA.mp hx with rfl|hx
 ·exact .str h
 ·rw[zT.mp hx];exact .int
theorem pd2s {a b:Str}{n:Nat}(h:C9.strOk a=true)(h2:C9.strOk b=true):Pd (n+2) (.tup [.str a,.str b]):=.tup (by simp) fun x hx=>by
 rcases zA.mp hx with rfl|hx
 ·exact .str h
 ·rw[zT.mp hx];exact .str h2
theorem pdT {l:List W}{n:Nat}(z:l.length<=1000)(h:∀x∈l,Pd n x):Pd (n+1) (.tup l):=.tup z h
theorem aK {n:Nat}{w:W}{l:List W}(h:Pd n w)(r:∀x∈l,Pd n x): ∀x∈w::l,Pd n x:=fun x hx=>by
 rcases zA.mp hx with rfl|hx
 ·exact h
 ·exact r x hx
theorem eg {n:Nat}: ∀x∈([]:List W),Pd n x:=fun x hx=>absurd hx zQ
theorem gP {n:Nat}{h:List Ob}: ∀ (l:List W),(∀x∈l,∃d,DV h n x=some d/\d.canLay0=true)-> ∃ds,FV (DV h n) l=some ds/\C9.canLayAll0 ds=true
 |[],_=>⟨[],rfl,by rw[C9.canLayAll0]⟩
 |x::l,q=>by
  obtain⟨d,e,c⟩:=q x zB
  obtain⟨ds,es,cs⟩:=gP l fun y hy=>q y (zK _ hy)
  refine⟨d::ds,?_,?_⟩
  ·simp only[FV,e,es]
  ·rw[C9.canLayAll0,c,cs];rfl
theorem Pd.data {h:List Ob}: ∀ {n:Nat}{w:W},Pd n w-> ∃d,DV h n w=some d/\d.canLay0=true
 |n+1,w,p=>by
  rcases p with⟨i,rfl⟩|⟨z,rfl,hz⟩|⟨l,e,_,p⟩
  ·exact⟨.int i,rfl,by rw[C9.canLay0]⟩
  ·exact⟨.str z,rfl,by rw[C9.canLay0];exact hz⟩
  ·obtain⟨ds,es,cs⟩:=gP (h:=h) l fun x hx=>(p x hx).data
   rcases e with rfl|rfl
   ·exact⟨.tuple ds,by show (FV (DV h n) l).map C9.tuple=_;rw[es];rfl,by rw[C9.canLay0];exact cs⟩
   ·exact⟨.list ds,by show (FV (DV h n) l).map C9.list=_;rw[es];rfl,by rw[C9.canLay0];exact cs⟩
theorem ni {l:List W}(p:∀x∈l,Pd 49 x):eqW (.tl l) (.tl l)=pr (.bl true):=xP fun h=>by
 obtain⟨ds,es,cs⟩:=gP (h:=h) l fun x hx=>(p x hx).data
 rw[qB es es cs cs,dZ ds cs]
inductive E17
 |go (t:Int)
 |iff (s:Str)(a b:W)(x y:Int)
 |table (e:W)(ts:List Int)
 |stop
noncomputable def E17.w:E17->W
 |.go t=>.tup [.str "go",.int t]
 |.iff s a b x y=>.tup [.str "if",.str s,a,b,.int x,.int y]
 |.table e ts=>.tup [.str "table",e,.tup (ts.map W.int)]
 |.stop=>.tup [.str "stop"]
theorem wN:C9.strOk "box"=true:=by decide+kernel
theorem qa:C9.strOk "number"=true:=by decide+kernel
end
section
open Wd
theorem mj:(" ":Str)=⟨#[32]⟩:=by decide+kernel
theorem vn:("\n":Str)=⟨#[10]⟩:=by decide+kernel
structure Cln (z:Str):Prop where
 sp:32 ∉ z.cps.toList
 nl:10 ∉ z.cps.toList
 len:z.length<=60
noncomputable def clnB (z:Str):Bool:=decide (32 ∉ z.cps.toList) && (decide (10 ∉ z.cps.toList) && decide (z.length<=60))
theorem Cln.of {z:Str}(h:clnB z=true):Cln z:=by
 unfold clnB at h
 simp only[zI,decide_eq_true_eq] at h
 exact⟨h.1,h.2.1,h.2.2⟩
theorem br {z:Str}(h:ah z=true):Cln z:=by
 unfold ah at h
 simp only[zI,decide_eq_true_eq,zR] at h
 have q: ∀c∈z.cps.toList,97<=c:=fun c hc=>(Es.mp (h.2.1 c hc)).1
 exact⟨fun z=>absurd (q _ z) (by decide),fun z=>absurd (q _ z) (by decide),by omega⟩
theorem lq {z:Str}(h:Fu z=true):Cln z:=by
 unfold Fu at h
 simp only[zI,decide_eq_true_eq,zR] at h
 have q: ∀c∈z.cps.toList,48<=c:=fun c hc=>(Eo.mp (h.2.2 c hc)).1
 exact⟨fun z=>absurd (q _ z) (by decide),fun z=>absurd (q _ z) (by decide),by omega⟩
noncomputable def D1:Exp->List Str
 |.num _=>[]
 |.box x=>[x]
 |.bin _ l r=>D1 l++D1 r
noncomputable def D2:Exp->Bool
 |.num _=>true
 |.box _=>true
 |.bin s l r=>decide (s∈(["+", "-", "*"]:List Str)) && (D2 l && D2 r)
noncomputable def D0:Exp->Nat
 |.num _=>0
 |.box _=>0
 |.bin _ l r=>1+max (D0 l) (D0 r)
structure Wrd (z:Str)(e:Exp):Prop where
 ex:D4 z=some e
 c:Cln z
 ok:D2 e=true
 dp:D0 e<=60
 nm:(D1 e).length<=60
theorem GT:(decide (("+":Str)= "number")=false/\decide (("+":Str)= "box")=false)/\(decide (("-":Str)= "number")=false/\decide (("-":Str)= "box")=false)/\decide (("*":Str)= "number")=false/\decide (("*":Str)= "box")=false:=by decide+kernel
theorem wO:decide (("box":Str)= "number")=false:=by decide+kernel
theorem vU {s:Str}(h:s∈(["+", "-", "*"]:List Str)):decide (s= "number")=false/\decide (s= "box")=false:=by
 simp only[zA,zQ,or_false] at h
 rcases h with rfl|rfl|rfl
 ·exact GT.1
 ·exact GT.2.1
 ·exact GT.2.2
theorem jy: ∀ (n:Nat) (e:Exp),D0 e<n->(D1 e).length<=1000->D2 e=true->aP n [D3 e]=pr (.tl ((D1 e).map W.str))
 |0,e,h,_,_=>absurd h (AK _)
 |n+1,.num i,_,_,_=>by
  have e0:aP (n+1) [D3 (.num i)]=bd (cc (aP n) [some (.tup [.str "number",.int i])]) D6:=rfl
  rw[e0]
  unfold cc
  simp! only[aa,ix0]
  rfl
 |n+1,.box x,_,_,_=>by
  have e0:aP (n+1) [D3 (.box x)]=bd (cc (aP n) [some (.tup [.str "box",.str x])]) D6:=rfl
  rw[e0]
  unfold cc
  simp! only[aa,ix0,ix1,wO]
  rfl
 |n+1,.bin s l r,h,z,k=>by
  have h:1+max (D0 l) (D0 r)<n+1:=h
  have z:(D1 l++D1 r).length<=1000:=z
  have k:(decide (s∈(["+", "-", "*"]:List Str)) && (D2 l && D2 r))=true:=k
  rw[zv] at z
  rw[zI,zI,decide_eq_true_eq] at k
  have e0:aP (n+1) [D3 (.bin s l r)]=bd (cc (aP n) [some (.tup [.str s,D3 l,D3 r])]) D6:=rfl
  rw[e0]
  unfold cc
  have h1:=jy n l (by omega) (by omega) k.2.1
  have h2:=jy n r (by omega) (by omega) k.2.2
  have sn:=vU k.1
  have ad:=lR ((D1 l).map W.str) ((D1 r).map W.str) (by rw[zr,zr];exact sz (by omega))
  simp! only[aa,ix0,ix1,ix2,sn.1,sn.2,h1,h2,ad]
  show pr _=pr (W.tl ((D1 l++D1 r).map W.str))
  rw[zw]
inductive Rr
 |box (nm v:Str)
 |block (nm:Str)
 |put (nm z:Str)(e:Exp)
 |say (z:Str)(e:Exp)
 |ask (nm:Str)
 |go (nm:Str)
 |iff (s z1:Str)(e1:Exp)(z2:Str)(e2:Exp)(x y:Str)
 |table (z:Str)(e:Exp)(xs:List Str)
 |stop
def Rr.ws:Rr->List Str
 |.box nm v=>["box",nm,v]
 |.block nm=>["block",nm]
 |.put nm z _=>["put",nm,z]
 |.say z _=>["say",z]
 |.ask nm=>["ask",nm]
 |.go nm=>["go",nm]
 |.iff s z1 _ z2 _ x y=>["if",z1,s,z2,x, "else",y]
 |.table z _ xs=> "table"::z::xs
 |.stop=>["stop"]
def Rr.tx (r:Rr):Str:=Str.join ⟨#[32]⟩ r.ws
def Rr.form:Rr->W
 |.box nm v=>.tup [.str "box",.str nm,.int (b6 v)]
 |.block nm=>.tup [.str "block",.str nm]
 |.put nm _ e=>.tup [.str "put",.str nm,D3 e]
 |.say _ e=>.tup [.str "say",D3 e]
 |.ask nm=>.tup [.str "ask",.str nm]
 |.go nm=>.tup [.str "go",.str nm]
 |.iff s _ e1 _ e2 x y=>.tup [.str "if",.str s,D3 e1,D3 e2,.str x,.str y]
 |.table _ e xs=>.tup [.str "table",D3 e,.tup (xs.map W.str)]
 |.stop=>.tup [.str "stop"]
def Rr.Ok:Rr->Prop
 |.box nm v=>ah nm=true/\Fu v=true
 |.block nm=>ah nm=true
 |.put nm z e=>ah nm=true/\Wrd z e
 |.say z e=>Wrd z e
 |.ask nm=>ah nm=true
 |.go nm=>ah nm=true
 |.iff s z1 e1 z2 e2 x y=>(s= "<"\/s= "=")/\Wrd z1 e1/\Wrd z2 e2/\ah x=true/\ah y=true
 |.table z e xs=>Wrd z e/\xs≠ []/\xs.length<=6/\ ∀x∈xs,ah x=true
 |.stop=>True
theorem yY:Cln "box"/\Cln "block"/\Cln "put"/\Cln "say"/\Cln "ask"/\Cln "go"/\Cln "if"/\Cln "else"/\Cln "table"/\Cln "stop"/\Cln "<"/\Cln "=":=⟨.of (by decide+kernel),.of (by decide+kernel),.of (by decide+kernel),.of (by decide+kernel),.of (by decide+kernel),.of (by decide+kernel),.of (by decide+kernel),.of (by decide+kernel),.of (by decide+kernel),.of (by decide+kernel),.of (by decide+kernel),.of (by decide+kernel)⟩
theorem d6: ∀z∈([]:List Str),Cln z:=fun z h=>absurd h zQ
theorem aD {z:Str}{l:List Str}(h:Cln z)(t:∀z∈l,Cln z): ∀y∈z::l,Cln y:=fun y hy=>by
 rcases zA.mp hy with rfl|hy
 ·exact h
 ·exact t y hy
theorem Rr.Ok.cln {r:Rr}(g:r.Ok):(∀z∈r.ws,Cln z)/\r.ws≠ []/\r.ws.length<=8:=by
 obtain⟨k1,k2,k3,k4,k5,k6,k7,k8,k9,k10,k11,k12⟩:=yY
 cases r with
 |box nm v=>exact⟨aD k1 (aD (br g.1) (aD (lq g.2) d6)),by simp [ws],by simp [ws]⟩
 |block nm=>exact⟨aD k2 (aD (br g) d6),by simp [ws],by simp [ws]⟩
 |put nm z e=>exact⟨aD k3 (aD (br g.1) (aD g.2.c d6)),by simp [ws],by simp [ws]⟩
 |say z e=>exact⟨aD k4 (aD g.c d6),by simp [ws],by simp [ws]⟩
 |ask nm=>exact⟨aD k5 (aD (br g) d6),by simp [ws],by simp [ws]⟩
 |go nm=>exact⟨aD k6 (aD (br g) d6),by simp [ws],by simp [ws]⟩
 |iff s z1 e1 z2 e2 x y=>
  have hs:Cln s:=by rcases g.1 with rfl|rfl;exact k11;exact k12
  exact⟨aD k7 (aD g.2.1.c (aD hs (aD g.2.2.1.c (aD (br g.2.2.2.1) (aD k8 (aD (br g.2.2.2.2) d6)))))),by simp [ws],by simp [ws]⟩
 |table z e xs=>exact⟨aD k9 (aD g.1.c fun x hx=>br (g.2.2.2 x hx)),by simp [ws],by have:=g.2.2.1;simp [ws];omega⟩
 |stop=>exact⟨aD k10 d6,by simp [ws],by simp [ws]⟩
theorem pq {c:Nat}{n:Nat}: ∀ {l:List Str},(∀z∈l,z.length<=n)->(Str.join ⟨#[c]⟩ l).length<=(n+1) * l.length:=fun{l} h=>by
 refine zJ (StrLaws.join_length_le _ l) ?_
 have:(l.map (·.length)).sum<=n * l.length:=by
  induction l with
  |nil=>simp
  |cons z l ih=>
   have a:=h z zB
   have b:=ih fun z hz=>h z (zK _ hz)
   rw[zD,Av,zx,Bu]
   omega
 rw[Nat.add_mul,show (⟨#[c]⟩:Str).length=1 from rfl,Nat.mul_one,Nat.one_mul]
 omega
theorem Rr.Ok.len {r:Rr}(g:r.Ok):r.tx.length<=600:=by
 have a:=pq (c:=32) (n:=60) fun z hz=>(g.cln.1 z hz).len
 have b:=g.cln.2.2
 unfold Rr.tx
 omega
theorem tp {r:Rr}(g:r.Ok):G8 (.str r.tx) [.str " "]=pr (.tl (r.ws.map W.str)):=by
 rw[mj]
 exact mi g.cln.2.1 (fun z hz=>(g.cln.1 z hz).sp) (sz (by have:=g.len;unfold Rr.tx at this;omega)) (sz (by have:=g.cln.2.2;omega))
theorem uO {l:List Str}(h:∀z∈l,10 ∉ z.cps.toList):10 ∉ (Str.join ⟨#[32]⟩ l).cps.toList:=by
 induction l with
 |nil=>exact fun z=>by cases z
 |cons x l ih=>
  cases l with
  |nil=>exact h x zB
  |cons y l=>
   rw[eH,zY,zA,not_or,not_or]
   exact⟨h x zB,by decide,ih fun z hz=>h z (zK _ hz)⟩
theorem Rr.Ok.nl {r:Rr}(g:r.Ok):10 ∉ r.tx.cps.toList:=uO fun z hz=>(g.cln.1 z hz).nl
theorem qr {z:Str}(h:ah z=true):i4 [.str z]=pr (.bl true):=by
 show gd (z.length<=sizeLine) (pr (W.bl (ah z)))=_
 rw[af (sz (by have:=(br h).len;omega)),h]
theorem sm {z:Str}(h:Fu z=true):lK [.str z]=pr (.bl true):=by
 show gd (z.length<=sizeLine) (pr (W.bl (Fu z)))=_
 rw[af (sz (by have:=(lq h).len;omega)),h]
theorem g9 {z:Str}{e:Exp}(h:Wrd z e):f6 [.str z]=pr (D3 e):=by
 show gd (z.length<=sizeLine) (match D4 z with
  |some e=>pr (D3 e)
  |none=>no)=_
 rw[af (sz (by have:=h.c.len;omega)),h.ex]
theorem b8 {z:Str}(h:ah z=true):bp [.str z]=pr (.str z):=by
 have e0:bp [.str z]=bd (gj [some (.str z)]) D6:=rfl
 rw[e0]
 unfold gj
 simp! only[aa,qr h]
theorem uS {z:Str}(h:Fu z=true):Ek [.str z]=pr (.int (b6 z)):=by
 have a:=jv h
 show (match PySem.intText? z with
  |some n=>gd (z.length<=640) (pr (W.int n))
  |none=>no)=_
 rw[a.1]
 exact af a.2
theorem lm {z:Str}(h:Fu z=true):dY [.str z]=pr (.int (b6 z)):=by
 have e0:dY [.str z]=bd (dS [some (.str z)]) D6:=rfl
 rw[e0]
 unfold dS
 simp! only[aa,sm h,uS h]
theorem tx0 (a:W)(l:List W):ixW (.tl (a::l)) (.int 0)=pr a:=bt (aE (by decide) rfl)
theorem tx1 (a b:W)(l:List W):ixW (.tl (a::b::l)) (.int 1)=pr b:=bt (aE (by decide) rfl)
theorem tx2 (a b c:W)(l:List W):ixW (.tl (a::b::c::l)) (.int 2)=pr c:=bt (aE (by decide) rfl)
theorem tx3 (a b c d:W)(l:List W):ixW (.tl (a::b::c::d::l)) (.int 3)=pr d:=bt (aE (by decide) rfl)
theorem tx4 (a b c d e:W)(l:List W):ixW (.tl (a::b::c::d::e::l)) (.int 4)=pr e:=bt (aE (by decide) rfl)
theorem tx5 (a b c d e f:W)(l:List W):ixW (.tl (a::b::c::d::e::f::l)) (.int 5)=pr f:=bt (aE (by decide) rfl)
theorem tx6 (a b c d e f g:W)(l:List W):ixW (.tl (a::b::c::d::e::f::g::l)) (.int 6)=pr g:=bt (aE (by decide) rfl)
theorem pw {x:Str}{ss:List Str}{h:List Ob}:inB (.str x) (.tup (ss.map W.str)) h=some (decide (x∈ss)):=by
 show (match vOf (.str x),HB (ss.map W.str) with
  |some v,some vs=>some (inV v vs)
  |_,_=>none)=_
 rw[eA (k:=V.str) (fun a=>rfl)]
 show some (inV (.str x) (ss.map V.str))=_
 rw[g8]
theorem iC {x:Str}{ss:List Str}:inW (.str x) (.tup (ss.map W.str))=pr (.bl (decide (x∈ss))):=by
 funext h
 unfold inW
 rw[pw];rfl
theorem qc {x:Str}{ss:List Str}:b7 (.str x) (.tup (ss.map W.str))=pr (.bl (!decide (x∈ss))):=by
 funext h
 unfold b7
 rw[pw];rfl
theorem rO {s:Str}(h:s= "<"\/s= "="):b7 (.str s) (.tup ((["<", "="]:List Str).map W.str))=pr (.bl false):=by
 rw[qc,decide_eq_true (by simpa using h)];rfl
theorem hds:(decide (("box":Str)= "block")=false/\decide (("box":Str)= "put")=false/\decide (("box":Str)= "say")=false/\decide (("box":Str)= "ask")=false/\decide (("box":Str)= "go")=false/\decide (("box":Str)= "if")=false/\decide (("box":Str)= "table")=false/\decide (("box":Str)= "stop")=false)/\(decide (("block":Str)= "box")=false/\decide (("block":Str)= "put")=false/\decide (("block":Str)= "say")=false/\decide (("block":Str)= "ask")=false/\decide (("block":Str)= "go")=false/\decide (("block":Str)= "if")=false/\decide (("block":Str)= "table")=false/\decide (("block":Str)= "stop")=false)/\(decide (("put":Str)= "box")=false/\decide (("put":Str)= "block")=false/\decide (("put":Str)= "say")=false/\decide (("put":Str)= "ask")=false/\decide (("put":Str)= "go")=false/\decide (("put":Str)= "if")=false/\decide (("put":Str)= "table")=false/\decide (("put":Str)= "stop")=false)/\(decide (("say":Str)= "box")=false/\decide (("say":Str)= "block")=false/\decide (("say":Str)= "put")=false/\decide (("say":Str)= "ask")=false/\decide (("say":Str)= "go")=false/\decide (("say":Str)= "if")=false/\decide (("say":Str)= "table")=false/\decide (("say":Str)= "stop")=false)/\(decide (("ask":Str)= "box")=false/\decide (("ask":Str)= "block")=false/\decide (("ask":Str)= "put")=false/\decide (("ask":Str)= "say")=false/\decide (("ask":Str)= "go")=false/\decide (("ask":Str)= "if")=false/\decide (("ask":Str)= "table")=false/\decide (("ask":Str)= "stop")=false)/\(decide (("go":Str)= "box")=false/\decide (("go":Str)= "block")=false/\decide (("go":Str)= "put")=false/\decide (("go":Str)= "say")=false/\decide (("go":Str)= "ask")=false/\decide (("go":Str)= "if")=false/\decide (("go":Str)= "table")=false/\decide (("go":Str)= "stop")=false)/\(decide (("if":Str)= "box")=false/\decide (("if":Str)= "block")=false/\decide (("if":Str)= "put")=false/\decide (("if":Str)= "say")=false/\decide (("if":Str)= "ask")=false/\decide (("if":Str)= "go")=false/\decide (("if":Str)= "table")=false/\decide (("if":Str)= "stop")=false)/\(decide (("table":Str)= "box")=false/\decide (("table":Str)= "block")=false/\decide (("table":Str)= "put")=false/\decide (("table":Str)= "say")=false/\decide (("table":Str)= "ask")=false/\decide (("table":Str)= "go")=false/\decide (("table":Str)= "if")=false/\decide (("table":Str)= "stop")=false)/\(decide (("stop":Str)= "box")=false/\decide (("stop":Str)= "block")=false/\decide (("stop":Str)= "put")=false/\decide (("stop":Str)= "say")=false/\decide (("stop":Str)= "ask")=false/\decide (("stop":Str)= "go")=false/\decide (("stop":Str)= "if")=false/\decide (("stop":Str)= "table")=false):=⟨by decide+kernel,by decide+kernel,by decide+kernel,by decide+kernel,by decide+kernel,by decide+kernel,by decide+kernel,by decide+kernel,by decide+kernel⟩
theorem iI:(decide (((0+1:Nat):Int)=1)=true/\decide (((0+1:Nat):Int)=2)=false/\decide (((0+1:Nat):Int)=3)=false)/\(decide (((0+1+1:Nat):Int)=2)=true/\decide (((0+1+1:Nat):Int)=3)=false)/\decide (((0+1+1+1:Nat):Int)=3)=true/\decide (((0+1+1+1+1+1+1+1:Nat):Int)=7)=true:=by decide
theorem u3 {s z1 z2 x y:Str}{e1 e2:Exp}(g:(Rr.iff s z1 e1 z2 e2 x y).Ok):cU [.tl ((Rr.iff s z1 e1 z2 e2 x y).ws.map W.str)]=pr (Rr.iff s z1 e1 z2 e2 x y).form:=by
 obtain⟨g1,g2,g3,g4,g5⟩:=g
 have e0:cU [.tl ((Rr.iff s z1 e1 z2 e2 x y).ws.map W.str)]=bd (cS [some (.tl [.str "if",.str z1,.str s,.str z2,.str x,.str "else",.str y]),none,none,none]) D6:=rfl
 rw[e0]
 unfold cS
 simp! only[aa,tx1,tx2,tx3,tx4,tx5,tx6,rO g1,g9 g2,g9 g3,b8 g4,b8 g5]
 rfl
theorem oy {xs:List Str}{ρ:Dl}(h:∀x∈xs,ah x=true):DP (fun _=>True) (tgN 0) Fg (EW (arW 1 bp) (EY (Ff 0) E5)) 2 (xs.map W.str) ρ=pr (xs.map W.str):=by
 have:=nv (t:=tgN 0) (f:=Fg) (e:=EW (arW 1 bp) (EY (Ff 0) E5)) (n:=2) (ρ:=ρ) (b:=fun _=>true) (v:=id) (l:=xs.map W.str) fun w hw=>by
  obtain⟨x,hx,rfl⟩:=zE.mp hw
  refine⟨_,rfl,rfl,fun _=>?_⟩
  simp! only[List.replicate,Ac,z0,aa,b8 (h x hx),id]
 rw[this,List.map_id,A2.mpr fun _ _=>rfl]
theorem uW {r:Rr}(g:r.Ok):gu [.str r.tx]=pr r.form:=by
 have e0:gu [.str r.tx]=bd (gm [some (.str r.tx),none,none,none]) D6:=rfl
 rw[e0]
 unfold gm
 have sp:=tp g
 cases r with
 |box nm v=>
  generalize (Rr.box nm v).tx=T at *
  simp! only[aa,sp,Rr.ws,zD,Ag,tx0,tx1,tx2,b8 g.1,lm g.2,eq_self,decide_true,iI]
  rfl
 |block nm=>
  generalize (Rr.block nm).tx=T at *
  simp! only[aa,sp,Rr.ws,zD,Ag,tx0,tx1,tx2,hds,b8 g,eq_self,decide_true,iI]
  rfl
 |put nm z e=>
  generalize (Rr.put nm z e).tx=T at *
  simp! only[aa,sp,Rr.ws,zD,Ag,tx0,tx1,tx2,hds,b8 g.1,g9 g.2,eq_self,decide_true,iI]
  rfl
 |say z e=>
  generalize (Rr.say z e).tx=T at *
  simp! only[aa,sp,Rr.ws,zD,Ag,tx0,tx1,tx2,hds,g9 g,eq_self,decide_true,iI]
  rfl
 |ask nm=>
  generalize (Rr.ask nm).tx=T at *
  simp! only[aa,sp,Rr.ws,zD,Ag,tx0,tx1,tx2,hds,b8 g,eq_self,decide_true,iI]
  rfl
 |go nm=>
  generalize (Rr.go nm).tx=T at *
  simp! only[aa,sp,Rr.ws,zD,Ag,tx0,tx1,tx2,hds,b8 g,eq_self,decide_true,iI]
  rfl
 |iff s z1 e1 z2 e2 x y=>
  have ce:=u3 g
  generalize (Rr.iff s z1 e1 z2 e2 x y).tx=T at *
  generalize (Rr.iff s z1 e1 z2 e2 x y).form=F at *
  simp only[Rr.ws,zD,Ag] at sp ce
  simp! only[aa,sp,tx0,tx1,tx2,hds,eq_self,decide_true,iI,ce]
 |table z e xs=>
  obtain⟨g1,g2,g3,g4⟩:=g
  generalize (Rr.table z e xs).tx=T at *
  simp only[Rr.ws,zD] at sp
  have cu:DS (W.str "table"::W.str z::xs.map W.str) (some 2) none=xs.map W.str:=by
   unfold DS
   show List.take _ (xs.map W.str)=_
   rw[Bi]
   show _<=(xs.map W.str).length+1+1 - 2
   omega
  have l0:0<xs.length:=BM.mpr g2
  have gl: ∀ {α:Type} (q:M α),gd ((xs.map W.str).length<=sizeLine) q=q:=fun q=>af (by rw[zr];exact sz (by omega))
  have c1:decide ((3:Int)<=(((xs.map W.str).length+1+1:Nat):Int))=true:=decide_eq_true (by rw[zr];omega)
  have c2:decide ((((xs.map W.str).length+1+1:Nat):Int)<=2+6)=true:=decide_eq_true (by rw[zr];omega)
  have nc: ∀ρ,_:=fun ρ=>oy (ρ:=ρ) g4
  simp! only[aa,sp,tx0,tx1,hds,eq_self,decide_true,c1,c2,g9 g1,cu,aZ,bX,gl,nc,ig]
  rfl
 |stop=>
  generalize Rr.stop.tx=T at *
  simp! only[aa,sp,Rr.ws,zD,Ag,tx0,hds,eq_self,decide_true,iI]
  rfl
end
section
open Wd
noncomputable def D9:List Str:=["boxes", "block_names", "ended_blocks", "statements"]
theorem fne:(((("block_names":Str)= "boxes")=False)/\((("ended_blocks":Str)= "boxes")=False)/\((("statements":Str)= "boxes")=False)/\((("ended_blocks":Str)= "block_names")=False)/\((("statements":Str)= "block_names")=False)/\((("statements":Str)= "ended_blocks")=False))/\(((("boxes":Str)= "statements")=False)/\((("block_names":Str)= "statements")=False)/\((("ended_blocks":Str)= "statements")=False))/\((("boxes":Str)= "block_names")=False)/\((("boxes":Str)= "ended_blocks")=False)/\((("block_names":Str)= "ended_blocks")=False):=
 ⟨⟨eq_false (by decide+kernel),eq_false (by decide+kernel),eq_false (by decide+kernel),eq_false (by decide+kernel),eq_false (by decide+kernel),eq_false (by decide+kernel)⟩,⟨eq_false (by decide+kernel),eq_false (by decide+kernel),eq_false (by decide+kernel)⟩,eq_false (by decide+kernel),eq_false (by decide+kernel),eq_false (by decide+kernel)⟩
theorem uI (a b c d:W):ER D9 [a,b,c,d] "boxes"=some a:=by simp only[D9,ER,if_true]
theorem mO (a b c d:W):ER D9 [a,b,c,d] "block_names"=some b:=by simp only[D9,ER,fne,if_true,if_false]
theorem xG (a b c d:W):ER D9 [a,b,c,d] "ended_blocks"=some c:=by simp only[D9,ER,fne,if_true,if_false]
theorem xF (a b c d:W):ER D9 [a,b,c,d] "statements"=some d:=by simp only[D9,ER,fne,if_true,if_false]
theorem zf (a b c d y:W):Gg D9 [a,b,c,d] "statements" y=(D9,[a,b,c,y]):=by simp only[D9,Gg,fne,if_true,if_false]
theorem Fk:("in_block":Str) ∉ D9/\("box_names":Str) ∉ D9/\("check_place":Str) ∉ D9/\("check_twice":Str) ∉ D9/\("check_room":Str) ∉ D9/\("check_boxes":Str) ∉ D9/\("put_down":Str) ∉ D9/\("take":Str) ∉ D9/\("told_program":Str) ∉ D9:=by decide+kernel
structure RS where
 bx:List (Str×Int)
 nm:List Str
 dn:List (Str×List W×Rr)
 st:List W
noncomputable def bqW (b:Str×Int):W:=.tup [.str b.1,.int b.2]
def dnW (b:Nat×Str×List W×Rr):W:=.tup [.str b.2.1,.loc b.1,b.2.2.2.form]
structure RdAt (h:List Ob)(o jb jn je js:Nat)(dl:List (Nat×Str×List W×Rr))(s:RS):Prop where
 ob:h[o]?=some (.ins "Reading" D9 [.loc jb,.loc jn,.loc je,.loc js])
 b:h[jb]?=some (.lst (s.bx.map bqW))
 n:h[jn]?=some (.lst (s.nm.map W.str))
 e:h[je]?=some (.lst (dl.map dnW))
 st:s.dn.length<s.nm.length->h[js]?=some (.lst s.st)
 ne:o<jb/\jb<jn/\jn<je/\je<js
 z:s.bx.length<=4/\s.nm.length<=10/\s.dn.length<=s.nm.length/\s.st.length<=8/\s.nm.length<=s.dn.length+1
 d:dl.map (·.2)=s.dn
 pl: ∀x∈dl,h[x.1]?=some (.lst x.2.2.1)/\je<x.1
 nd:(dl.map (·.1)).Nodup
 nj:s.dn.length<s.nm.length->js ∉ dl.map (·.1)
section
variable {h:List Ob}{o jb jn je js:Nat}{dl:List (Nat×Str×List W×Rr)}{s:RS}
theorem RdAt.dn (A:RdAt h o jb jn je js dl s):dl.length=s.dn.length:=by rw[<-A.d,zr]
theorem jE (A:RdAt h o jb jn je js dl s):Ok (ba [.loc o]) h fun w h'=>w=.bl (decide (s.dn.length<s.nm.length))/\h'=h:=by
 have e0:ba [.loc o]=bd (bM [some (.loc o)]) D6:=rfl
 rw[e0]
 unfold bM
 simp!
 refine bV A.ob (mO ..) ?_
 simp!
 refine (Lw.len (.inr ⟨jn,rfl,A.n⟩)) ?_
 simp!
 refine bV A.ob (xG ..) ?_
 simp!
 refine (Lw.len (.inr ⟨je,rfl,A.e⟩)) ?_
 simp!
 refine ak ⟨?_,rfl⟩
 rw[zr,zr,A.dn]
 congr 1
 rw[decide_eq_decide]
 omega
theorem ku (A:RdAt h o jb jn je js dl s):Ok (bg [.loc o]) h fun w h'=>w=.tl ((s.bx.map (·.1)).map W.str)/\h'=h:=by
 have e0:bg [.loc o]=bd (bE [some (.loc o)]) D6:=rfl
 rw[e0]
 unfold bE
 simp!
 refine bV A.ob (uI ..) ?_
 refine lh A.b ?_
 have gl: ∀ {α:Type} (q:M α),gd ((s.bx.map bqW).length<=sizeLine) q=q:=fun q=>af (by rw[zr];exact sz (by have:=A.z.1;omega))
 simp! only[aa,gl]
 refine cx (I:=fun i a h'=>h'=h/\a=((s.bx.take i).map (·.1)).map W.str) ⟨rfl,rfl⟩ dy (fun _ _ _ I=>by rw[I.1];exact A.b) (fun i w a h' hw I=>?_) fun a h' I=>?_
 ·obtain⟨rfl,rfl⟩:=I
  rw[zG] at hw
  obtain⟨b,hb,rfl⟩:=zM.mp hw
  refine⟨_,rfl,?_⟩
  simp! only[List.replicate,Ac,z0,aa]
  refine ak ⟨rfl,?_⟩
  rw[Ae,hb,zw,zw];rfl
 ·obtain⟨rfl,rfl⟩:=I
  rw[zr,Ab]
  simp!
  exact ak ⟨rfl,rfl⟩
theorem wb (A:RdAt h o jb jn je js dl s)(p:s.nm=[]):Ok (aq [.loc o,.str "box"]) h fun _ h'=>h'=h:=by
 have e0:aq [.loc o,.str "box"]=bd (ay [some (.loc o),some (.str "box")]) D6:=rfl
 rw[e0]
 unfold ay
 simp!
 refine bV A.ob (mO ..) ?_
 simp!
 refine (Lw.len (.inr ⟨jn,rfl,A.n⟩)) ?_
 have:decide ((0:Int)<(((s.nm.map W.str).length:Nat):Int))=false:=by rw[p];rfl
 simp! only[aa,this]
 exact ak rfl
theorem rn (A:RdAt h o jb jn je js dl s)(p:s.dn.length=s.nm.length):Ok (aq [.loc o,.str "block"]) h fun _ h'=>h'=h:=by
 have e0:aq [.loc o,.str "block"]=bd (ay [some (.loc o),some (.str "block")]) D6:=rfl
 rw[e0]
 unfold ay
 simp! only[aa,hds]
 refine dA A.ob Fk.1 ?_
 simp!
 refine aV (jE A) fun w h' qq_=>?_
 obtain⟨ew,eh⟩:=qq_
 subst ew eh
 simp! only[aa,decide_eq_false (show¬s.dn.length<s.nm.length by omega)]
 exact ak rfl
theorem yf {z:Str}(A:RdAt h o jb jn je js dl s)(n1:decide (z= "box")=false)(n2:decide (z= "block")=false)(p:s.dn.length<s.nm.length):Ok (aq [.loc o,.str z]) h fun _ h'=>h'=h:=by
 have e0:aq [.loc o,.str z]=bd (ay [some (.loc o),some (.str z)]) D6:=rfl
 rw[e0]
 unfold ay
 simp! only[aa,n1,n2]
 refine dA A.ob Fk.1 ?_
 simp!
 refine aV (jE A) fun w h' qq_=>?_
 obtain⟨ew,eh⟩:=qq_
 subst ew eh
 simp! only[aa,decide_eq_true p]
 exact ak rfl
theorem vI {nm:Str}{w:W}(A:RdAt h o jb jn je js dl s)(p:nm ∉ s.bx.map (·.1)):Ok (ao [.loc o,.tup [.str "box",.str nm,w]]) h fun _ h'=>h'=h:=by
 have e0:ao [.loc o,.tup [.str "box",.str nm,w]]=bd (ax [some (.loc o),some (.tup [.str "box",.str nm,w])]) D6:=rfl
 rw[e0]
 unfold ax
 simp! only[aa,ix0,ix1]
 refine dA A.ob Fk.2.1 ?_
 simp!
 refine aV (ku A) fun w h' qq_=>?_
 obtain⟨ew,eh⟩:=qq_
 subst ew eh
 simp! only[aa,iY,decide_eq_false p,hds]
 exact ak rfl
theorem qL {nm:Str}(A:RdAt h o jb jn je js dl s)(p:nm ∉ s.nm):Ok (ao [.loc o,.tup [.str "block",.str nm]]) h fun _ h'=>h'=h:=by
 have e0:ao [.loc o,.tup [.str "block",.str nm]]=bd (ax [some (.loc o),some (.tup [.str "block",.str nm])]) D6:=rfl
 rw[e0]
 unfold ax
 simp! only[aa,ix0,ix1,hds]
 refine bV A.ob (mO ..) ?_
 simp!
 refine vm A.n ?_
 simp! only[aa,decide_eq_false p]
 exact ak rfl
theorem ya {z:Str}{l:List W}(n1:decide (z= "box")=false)(n2:decide (z= "block")=false):Ok (ao [.loc o,.tup (.str z::l)]) h fun _ h'=>h'=h:=by
 have e0:ao [.loc o,.tup (.str z::l)]=bd (ax [some (.loc o),some (.tup (.str z::l))]) D6:=rfl
 rw[e0]
 unfold ax
 simp! only[aa,ix0,n1,n2]
 exact ak rfl
theorem Hf:decide (("box":Str)∈(["put", "say", "ask"]:List Str))=false/\decide (("block":Str)∈(["put", "say", "ask"]:List Str))=false:=by decide+kernel
theorem v3 (A:RdAt h o jb jn je js dl s)(p:s.bx.length<4):Ok (av [.loc o,.str "box"]) h fun _ h'=>h'=h:=by
 have e0:av [.loc o,.str "box"]=bd (az [some (.loc o),some (.str "box")]) D6:=rfl
 rw[e0]
 unfold az
 simp!
 refine bV A.ob (uI ..) ?_
 simp!
 refine (Lw.len (.inr ⟨jb,rfl,A.b⟩)) ?_
 have:decide ((((s.bx.map bqW).length:Nat):Int)=4)=false:=decide_eq_false (by rw[zr];omega)
 simp! only[aa,this,hds,iC,Hf.1]
 exact ak rfl
theorem rg (A:RdAt h o jb jn je js dl s)(p:s.nm.length<10):Ok (av [.loc o,.str "block"]) h fun _ h'=>h'=h:=by
 have e0:av [.loc o,.str "block"]=bd (az [some (.loc o),some (.str "block")]) D6:=rfl
 rw[e0]
 unfold az
 simp! only[aa,hds]
 refine bV A.ob (mO ..) ?_
 simp!
 refine (Lw.len (.inr ⟨jn,rfl,A.n⟩)) ?_
 have:decide ((((s.nm.map W.str).length:Nat):Int)=10)=false:=decide_eq_false (by rw[zr];omega)
 simp! only[aa,this,hds,iC,Hf.2]
 exact ak rfl
theorem ye {z:Str}(A:RdAt h o jb jn je js dl s)(n1:decide (z= "box")=false)(n2:decide (z= "block")=false)(p:s.dn.length<s.nm.length)(q:z∈(["put", "say", "ask"]:List Str)->s.st.length<8):Ok (av [.loc o,.str z]) h fun _ h'=>h'=h:=by
 have e0:av [.loc o,.str z]=bd (az [some (.loc o),some (.str z)]) D6:=rfl
 rw[e0]
 unfold az
 by_cases c:z∈(["put", "say", "ask"]:List Str)
 ·simp! only[aa,n1,n2,iC,decide_eq_true c]
  refine bV A.ob (xF ..) ?_
  simp!
  refine (Lw.len (.inr ⟨js,rfl,A.st p⟩)) ?_
  have q:=q c
  have:decide (((s.st.length:Nat):Int)=8)=false:=decide_eq_false (by omega)
  simp! only[aa,this]
  exact ak rfl
 ·simp! only[aa,n1,n2,iC,decide_eq_false c]
  exact ak rfl
def Rr.bxs:Rr->List Str
 |.put nm _ e=>nm::D1 e
 |.say _ e=>D1 e
 |.ask nm=>[nm]
 |.iff _ _ e1 _ e2 _ _=>D1 e1++D1 e2
 |.table _ e _=>D1 e
 |_=>[]
theorem gU {z:Str}{e:Exp}(h:Wrd z e):aP 62 [D3 e]=pr (.tl ((D1 e).map W.str)):=jy 62 e (by have:=h.dp;omega) (by have:=h.nm;omega) h.ok
theorem rR {r:Rr}(g:r.Ok):aH [r.form]=pr (.tl (r.bxs.map W.str)):=by
 cases r with
 |box nm v=>
  have e0:aH [(Rr.box nm v).form]=bd (al [some (.tup [.str "box",.str nm,.int (b6 v)])]) D6:=rfl
  rw[e0];unfold al
  simp! only[aa,ix0,hds]
  rfl
 |block nm=>
  have e0:aH [(Rr.block nm).form]=bd (al [some (.tup [.str "block",.str nm])]) D6:=rfl
  rw[e0];unfold al
  simp! only[aa,ix0,hds]
  rfl
 |put nm z e=>
  have e0:aH [(Rr.put nm z e).form]=bd (al [some (.tup [.str "put",.str nm,D3 e])]) D6:=rfl
  rw[e0];unfold al
  have gl: ∀ {α:Type} (q:M α),gd (0+1+((D1 e).map W.str).length<=sizeLine) q=q:=fun q=>af (by rw[zr];exact sz (by have:=g.2.nm;omega))
  simp! only[aa,ix0,ix1,ix2,hds,gU g.2,DL,gY,gl]
  rfl
 |say z e=>
  have e0:aH [(Rr.say z e).form]=bd (al [some (.tup [.str "say",D3 e])]) D6:=rfl
  rw[e0];unfold al
  simp! only[aa,ix0,ix1,hds,gU g]
  rfl
 |ask nm=>
  have e0:aH [(Rr.ask nm).form]=bd (al [some (.tup [.str "ask",.str nm])]) D6:=rfl
  rw[e0];unfold al
  simp! only[aa,ix0,ix1,hds]
  rfl
 |go nm=>
  have e0:aH [(Rr.go nm).form]=bd (al [some (.tup [.str "go",.str nm])]) D6:=rfl
  rw[e0];unfold al
  simp! only[aa,ix0,ix1,hds]
  rfl
 |iff s z1 e1 z2 e2 x y=>
  have e0:aH [(Rr.iff s z1 e1 z2 e2 x y).form]=bd (al [some (.tup [.str "if",.str s,D3 e1,D3 e2,.str x,.str y])]) D6:=rfl
  rw[e0];unfold al
  have ad:=lR ((D1 e1).map W.str) ((D1 e2).map W.str) (by rw[zr,zr];exact sz (by have:=g.2.1.nm;have:=g.2.2.1.nm;omega))
  simp! only[aa,ix0,ix2,ix3,hds,gU g.2.1,gU g.2.2.1,ad]
  show pr _=pr (W.tl ((D1 e1++D1 e2).map W.str))
  rw[zw]
 |table z e xs=>
  have e0:aH [(Rr.table z e xs).form]=bd (al [some (.tup [.str "table",D3 e,.tup (xs.map W.str)])]) D6:=rfl
  rw[e0];unfold al
  simp! only[aa,ix0,ix1,hds,gU g.1]
  rfl
 |stop=>
  have e0:aH [(Rr.stop).form]=bd (al [some (.tup [.str "stop"])]) D6:=rfl
  rw[e0];unfold al
  simp! only[aa,ix0,hds]
  rfl
theorem sJ {r:Rr}(g:r.Ok)(A:RdAt h o jb jn je js dl s)(p:∀x∈r.bxs,x∈s.bx.map (·.1)):Ok (aX [.loc o,r.form]) h fun _ h'=>h'=h:=by
 have e0:aX [.loc o,r.form]=bd (bu [some (.loc o),some r.form,none,none]) D6:=rfl
 rw[e0]
 unfold bu
 have ne:=rR g
 generalize r.form=F at *
 simp!
 refine dA A.ob Fk.2.1 ?_
 simp!
 refine aV (ku A) fun w h' qq_=>?_
 obtain⟨ew,eh⟩:=qq_
 subst ew eh
 simp! only[aa,ne,bX]
 refine fY (I:=fun i ρ h1=>h1=h'/\ ∃a,ρ=[some (.loc o),some F,some (.tl ((s.bx.map (·.1)).map W.str)),a]) ⟨rfl,_,rfl⟩ (fun _ _ _ _=>trivial) (fun i w ρ h1 hw I=>?_) fun ρ h1 I=>?_
 ·obtain⟨rfl,a,rfl⟩:=I
  rw[zG] at hw
  obtain⟨x,hx,rfl⟩:=zM.mp hw
  refine⟨_,rfl,?_⟩
  simp! only[aa,jx,decide_eq_true (p x (Ad hx))]
  exact ak ⟨_,rfl,rfl,_,rfl⟩
 ·obtain⟨rfl,a,rfl⟩:=I
  simp!
  exact ak rfl
end
end
section
open Wd
def Rr.stm:Rr->Bool
 |.put _ _ _=>true
 |.say _ _=>true
 |.ask _=>true
 |_=>false
noncomputable def Rr.end':Rr->Bool
 |.go _=>true
 |.iff _ _ _ _ _ _ _=>true
 |.table _ _ _=>true
 |.stop=>true
 |_=>false
def RS.step (s:RS)(r:Rr):RS:=match r with
 |.box nm v=>{s with bx:=s.bx++[(nm,b6 v)]}
 |.block nm=>{s with nm:=s.nm++[nm],st:=[]}
 |.put nm z e=>{s with st:=s.st++[(Rr.put nm z e).form]}
 |.say z e=>{s with st:=s.st++[(Rr.say z e).form]}
 |.ask nm=>{s with st:=s.st++[(Rr.ask nm).form]}
 |r=>{s with dn:=s.dn++[(s.nm.getLastD "",s.st,r)]}
theorem mf {s:RS}{r:Rr}(h:r.stm=true):s.step r={s with st:=s.st++[r.form]}:=by
 cases r<;>first|rfl|cases h
theorem mh {s:RS}{r:Rr}(h:r.end'=true):s.step r={s with dn:=s.dn++[(s.nm.getLastD "",s.st,r)]}:=by
 cases r<;>first|rfl|cases h
structure Dt (s:RS)(r:Rr):Prop where
 i:s.dn.length<s.nm.length
 c:r.stm=true->s.st.length<8
 b: ∀x∈r.bxs,x∈s.bx.map (·.1)
noncomputable def Pre (s:RS)(r:Rr):Prop:=match r with
 |.box nm _=>s.nm=[]/\nm ∉ s.bx.map (·.1)/\s.bx.length<4
 |.block nm=>s.dn.length=s.nm.length/\nm ∉ s.nm/\s.nm.length<10
 |r=>Dt s r
theorem wa {s:RS}{r:Rr}(p:Pre s r)(h:r.stm=true\/r.end'=true):Dt s r:=by
 cases r<;>first|exact p|(rcases h with h|h<;>cases h)
structure Fo (o:Nat)(h h':List Ob):Prop where
 eq: ∀i,i<o->h'[i]?=h[i]?
 le:h.length<=h'.length
theorem Fo.trans {o:Nat}{a b c:List Ob}(x:Fo o a b)(y:Fo o b c):Fo o a c:=⟨fun i hi=>(y.eq i hi).trans (x.eq i hi),zJ x.le y.le⟩
theorem Fo.set {o j:Nat}{h:List Ob}{b:Ob}(hj:o<=j):Fo o h (h.set j b):=⟨fun i hi=>by rw[zt (by omega)],by rw[zW];exact zu _⟩
def Rr.hd:Rr->Str
 |.box _ _=> "box"
 |.block _=> "block"
 |.put _ _ _=> "put"
 |.say _ _=> "say"
 |.ask _=> "ask"
 |.go _=> "go"
 |.iff _ _ _ _ _ _ _=> "if"
 |.table _ _ _=> "table"
 |.stop=> "stop"
theorem iZ (r:Rr): ∃l,r.form=.tup (.str r.hd::l):=by cases r<;>exact⟨_,rfl⟩
theorem sy {r:Rr}(h:r.stm=true\/r.end'=true):decide (r.hd= "box")=false/\decide (r.hd= "block")=false:=by
 cases r<;>first|(rcases h with h|h<;>cases h;done)|(unfold Rr.hd;simp only[hds];exact⟨trivial,trivial⟩)|(unfold Rr.hd;simp only[hds,and_self])
theorem Hg:("put":Str)∈(["put", "say", "ask"]:List Str)/\("say":Str)∈(["put", "say", "ask"]:List Str)/\("ask":Str)∈(["put", "say", "ask"]:List Str):=by decide+kernel
theorem DY:("go":Str) ∉ (["put", "say", "ask"]:List Str)/\("if":Str) ∉ (["put", "say", "ask"]:List Str)/\("table":Str) ∉ (["put", "say", "ask"]:List Str)/\("stop":Str) ∉ (["put", "say", "ask"]:List Str):=by decide+kernel
theorem xO {r:Rr}(h:r.stm=true):r.hd∈(["put", "say", "ask"]:List Str):=by
 cases r<;>first|exact absurd h zC|exact Hg.1|exact Hg.2.1|exact Hg.2.2
theorem sA {r:Rr}(h:r.end'=true):r.hd ∉ (["put", "say", "ask"]:List Str):=by
 cases r<;>first|exact absurd h zC|exact DY.1|exact DY.2.1|exact DY.2.2.1|exact DY.2.2.2
section
variable {h:List Ob}{o jb jn je js:Nat}{dl:List (Nat×Str×List W×Rr)}{s:RS}
theorem RdAt.pls (A:RdAt h o jb jn je js dl s){j:Nat}{b:Ob}(hj:j<=je): ∀x∈dl,(h.set j b)[x.1]?=some (.lst x.2.2.1)/\je<x.1:=fun x hx=>by
 obtain⟨a,c⟩:=A.pl x hx
 exact⟨by rw[zt (by omega)];exact a,c⟩
theorem wr {nm v:Str}(A:RdAt h o jb jn je js dl s)(p:Pre s (.box nm v)):Ok (am [.loc o,(Rr.box nm v).form]) h fun _ h'=>RdAt h' o jb jn je js dl (s.step (.box nm v))/\Fo o h h':=by
 have e0:am [.loc o,(Rr.box nm v).form]=bd (aw [some (.loc o),some (.tup [.str "box",.str nm,.int (b6 v)])]) D6:=rfl
 rw[e0]
 unfold aw
 obtain⟨n1,n2,n3,n4⟩:=A.ne
 have p:s.nm=[]/\nm ∉ s.bx.map (·.1)/\s.bx.length<4:=p
 simp! only[aa,ix0]
 refine bV A.ob (uI ..) ?_
 refine cQ A.b ?_
 simp! only[aa,ix1,ix2]
 refine cR A.b (by rw[zr];exact Ai (show _<=10 by omega) (by decide)) ?_
 simp!
 refine ak ⟨⟨?_,?_,?_,?_,?_,A.ne,?_,A.d,A.pls (by omega),A.nd,A.nj⟩,Fo.set (by omega)⟩
 ·rw[zt (by omega)];exact A.ob
 ·rw[ck A.b];show _=some (Ob.lst ((s.bx++[(nm,b6 v)]).map bqW));rw[zw];rfl
 ·rw[zt (by omega)];exact A.n
 ·rw[zt (by omega)];exact A.e
 ·intro q;rw[zt (by omega)];exact A.st q
 ·obtain⟨z1,z2,z3,z4,z5⟩:=A.z
  refine⟨?_,z2,z3,z4,z5⟩
  show (s.bx++[_]).length<=4
  rw[zv,zU];omega
theorem rE {nm:Str}(A:RdAt h o jb jn je js dl s)(p:Pre s (.block nm)):Ok (am [.loc o,(Rr.block nm).form]) h fun _ h'=>(∃js',RdAt h' o jb jn je js' dl (s.step (.block nm)))/\Fo o h h':=by
 have e0:am [.loc o,(Rr.block nm).form]=bd (aw [some (.loc o),some (.tup [.str "block",.str nm])]) D6:=rfl
 rw[e0]
 unfold aw
 obtain⟨n1,n2,n3,n4⟩:=A.ne
 have p:s.dn.length=s.nm.length/\nm ∉ s.nm/\s.nm.length<10:=p
 simp! only[aa,ix0,hds]
 refine bV A.ob (mO ..) ?_
 refine cQ A.n ?_
 simp! only[aa,ix1]
 refine cR A.n (by rw[zr];exact Ai (show _<=10 by omega) (by decide)) ?_
 simp!
 refine gC ?_
 simp!
 have le:=cC A.e
 have lo:=cC A.ob
 have ln:=cC A.n
 have eo:(h.set jn (.lst (s.nm.map W.str++[.str nm]))++[.lst []])[o]?=some (.ins "Reading" D9 [.loc jb,.loc jn,.loc je,.loc js]):=by
  rw[Aa (by rw[zW];exact lo),zt (by omega)];exact A.ob
 refine rM eo (by show 4<1000;decide) (zf ..) ?_
 simp!
 have hl:(h.set jn (.lst (s.nm.map W.str++[.str nm]))).length=h.length:=zW ..
 have lt': ∀x∈dl,x.1<h.length:=fun x hx=>cC (A.pl x hx).1
 refine ak ⟨⟨h.length,⟨?_,?_,?_,?_,?_,?_,?_,A.d,fun x hx=>?_,A.nd,fun _ hm=>?_⟩⟩,⟨fun i hi=>?_,?_⟩⟩
 ·rw[ck eo,hl]
 ·rw[zt (by omega),Aa (by rw[hl];exact cC A.b),zt (by omega)];exact A.b
 ·rw[zt (by omega),Aa (by rw[hl];exact ln),ck A.n];show _=some (Ob.lst ((s.nm++[nm]).map W.str));rw[zw];rfl
 ·rw[zt (by omega),Aa (by rw[hl];exact le),zt (by omega)];exact A.e
 ·intro _
  rw[zt (by omega)]
  have:=gh (h:=h.set jn (.lst (s.nm.map W.str++[.str nm]))) (a:=.lst [])
  rw[hl] at this
  exact this
 ·exact⟨n1,n2,n3,le⟩
 ·obtain⟨z1,z2,z3,z4,z5⟩:=A.z
  refine⟨z1,?_,?_,zL _,?_⟩
  ·show (s.nm++[nm]).length<=10
   rw[zv,zU];omega
  ·show s.dn.length<=(s.nm++[nm]).length
   rw[zv,zU];omega
  ·show (s.nm++[nm]).length<=s.dn.length+1
   rw[zv,zU];omega
 ·obtain⟨a,c⟩:=A.pl x hx
  have:=lt' x hx
  exact⟨by rw[zt (by omega),Aa (by rw[hl];omega),zt (by omega)];exact a,c⟩
 ·obtain⟨x,hx,e⟩:=zE.mp hm
  have:=lt' x hx
  omega
 ·rw[zt (by omega),Aa (by rw[hl];omega),zt (by omega)]
 ·rw[zW,zv,hl];omega
theorem wn {r:Rr}(q:r.stm=true)(A:RdAt h o jb jn je js dl s)(p:Dt s r):Ok (am [.loc o,r.form]) h fun _ h'=>RdAt h' o jb jn je js dl (s.step r)/\Fo o h h':=by
 rw[mf q]
 have nh:=sy (r:=r) (.inl q)
 have st:=xO q
 obtain⟨l,e⟩:=iZ r
 rw[e]
 have e0:am [.loc o,.tup (.str r.hd::l)]=bd (aw [some (.loc o),some (.tup (.str r.hd::l))]) D6:=rfl
 rw[e0]
 unfold aw
 obtain⟨n1,n2,n3,n4⟩:=A.ne
 have pr':=p.c q
 simp! only[aa,ix0,nh.1,nh.2,iC,decide_eq_true st]
 refine bV A.ob (xF ..) ?_
 refine cQ (A.st p.i) ?_
 simp!
 refine cR (A.st p.i) (Ai (show _<=10 by omega) (by decide)) ?_
 simp!
 have nj:=A.nj p.i
 refine ak ⟨⟨?_,?_,?_,?_,?_,A.ne,?_,A.d,fun x hx=>?_,A.nd,A.nj⟩,Fo.set (by omega)⟩
 ·rw[zt (by omega)];exact A.ob
 ·rw[zt (by omega)];exact A.b
 ·rw[zt (by omega)];exact A.n
 ·rw[zt (by omega)];exact A.e
 ·intro _;rw[ck (A.st p.i)]
 ·obtain⟨z1,z2,z3,z4,z5⟩:=A.z
  refine⟨z1,z2,z3,?_,z5⟩
  show (s.st++[_]).length<=8
  rw[zv,zU];omega
 ·obtain⟨a,c⟩:=A.pl x hx
  have:x.1≠js:=fun z=>nj (z▸AD hx)
  exact⟨by rw[zt (by omega)];exact a,c⟩
theorem oG {l:List Str}(h:l≠ []):atI (l.map W.str) (-1)=some (.str (l.getLastD "")):=by
 have e:l=l.dropLast++[l.getLast h]:=(List.dropLast_concat_getLast h).symm
 have g:l.getLastD ""=l.getLast h:=by
  cases l with
  |nil=>exact absurd rfl h
  |cons a l=>rw[List.getLastD_cons,List.getLast_eq_getLastD]
 rw[g]
 conv=>lhs;rw[e,zw]
 exact sS _ _
theorem wq {r:Rr}(q:r.end'=true)(A:RdAt h o jb jn je js dl s)(p:Dt s r):Ok (am [.loc o,r.form]) h fun _ h'=>RdAt h' o jb jn je js (dl++[(js,s.nm.getLastD "",s.st,r)]) (s.step r)/\Fo o h h':=by
 rw[mh q]
 have nh:=sy (r:=r) (.inr q)
 have st:=sA q
 obtain⟨l,e⟩:=iZ r
 have ie: ∀x,W.tup [.str x,.loc js,.tup (.str r.hd::l)]=dnW (js,x,s.st,r):=fun x=>by unfold dnW;rw[<-e]
 rw[e]
 have e0:am [.loc o,.tup (.str r.hd::l)]=bd (aw [some (.loc o),some (.tup (.str r.hd::l))]) D6:=rfl
 rw[e0]
 unfold aw
 obtain⟨n1,n2,n3,n4⟩:=A.ne
 obtain⟨z1,z2,z3,z4,z5⟩:=A.z
 have pi:=p.i
 have nn:s.nm≠ []:=fun z=>by rw[z] at pi;simp at pi
 simp! only[aa,ix0,nh.1,nh.2,iC,decide_eq_false st]
 refine bV A.ob (xG ..) ?_
 refine cQ A.e ?_
 simp!
 refine bV A.ob (mO ..) ?_
 simp!
 refine yt A.n (oG nn) ?_
 simp!
 refine bV A.ob (xF ..) ?_
 simp!
 refine cR A.e (by rw[zr,A.dn];exact Ai (show _<=10 by omega) (by decide)) ?_
 simp!
 have nj:=A.nj pi
 refine ak ⟨⟨?_,?_,?_,?_,?_,A.ne,?_,?_,fun x hx=>?_,?_,?_⟩,Fo.set (by omega)⟩
 ·rw[zt (by omega)];exact A.ob
 ·rw[zt (by omega)];exact A.b
 ·rw[zt (by omega)];exact A.n
 ·rw[ck A.e,ie];show _=some (Ob.lst ((dl++[_]).map dnW));rw[zw];rfl
 ·intro q
  have q:(s.dn++[_]).length<s.nm.length:=q
  rw[zv,zU] at q
  omega
 ·refine⟨z1,z2,?_,z4,?_⟩
  ·show (s.dn++[_]).length<=s.nm.length
   rw[zv,zU];omega
  ·show s.nm.length<=(s.dn++[_]).length+1
   rw[zv,zU];omega
 ·rw[zw,A.d];rfl
 ·rcases zY.mp hx with hx|hx
  ·exact A.pls (zu _) x hx
  ·rw[zT.mp hx]
   exact⟨by rw[zt (by omega)];exact A.st pi,n4⟩
 ·rw[zw,AL]
  refine⟨A.nd,by simp,fun a ha b hb e=>?_⟩
  have hb:b=js:=by simpa using hb
  exact nj (hb▸e▸ha)
 ·intro q
  have q:(s.dn++[_]).length<s.nm.length:=q
  rw[zv,zU] at q
  omega
theorem yO (r:Rr):(∃nm v,r=.box nm v)\/(∃nm,r=.block nm)\/r.stm=true\/r.end'=true:=by
 cases r<;>first|exact .inl ⟨_,_,rfl⟩|exact .inr (.inl ⟨_,rfl⟩)|exact .inr (.inr (.inl rfl))|exact .inr (.inr (.inr rfl))
theorem tf {r:Rr}(g:r.Ok)(A:RdAt h o jb jn je js dl s)(p:Pre s r):Ok (cV [.loc o,r.form]) h fun w h'=>w=.non/\(∃js' dl',RdAt h' o jb jn je js' dl' (s.step r))/\Fo o h h':=by
 have e0:cV [.loc o,r.form]=bd (cT [some (.loc o),some r.form]) D6:=rfl
 rw[e0]
 unfold cT
 obtain⟨m1,m2,m3,m4,m5,m6,m7,m8,m9⟩:=Fk
 have st:Ok (aq [.loc o,.str r.hd]) h (fun _ h'=>h'=h)/\Ok (ao [.loc o,r.form]) h (fun _ h'=>h'=h)/\Ok (av [.loc o,.str r.hd]) h (fun _ h'=>h'=h)/\Ok (aX [.loc o,r.form]) h (fun _ h'=>h'=h)/\Ok (am [.loc o,r.form]) h fun _ h'=>(∃js' dl',RdAt h' o jb jn je js' dl' (s.step r))/\Fo o h h':=by
  rcases yO r with⟨nm,v,rfl⟩|⟨nm,rfl⟩|q
  ·have p':s.nm=[]/\nm ∉ s.bx.map (·.1)/\s.bx.length<4:=p
   exact⟨wb A p'.1,vI A p'.2.1,v3 A p'.2.2,sJ g A (fun x hx=>absurd hx zQ),(wr A p).imp fun _ _ ⟨a,b⟩=>⟨⟨_,_,a⟩,b⟩⟩
  ·have p':s.dn.length=s.nm.length/\nm ∉ s.nm/\s.nm.length<10:=p
   exact⟨rn A p'.1,qL A p'.2.1,rg A p'.2.2,sJ g A (fun x hx=>absurd hx zQ),(rE A p).imp fun _ _ ⟨⟨_,a⟩,b⟩=>⟨⟨_,_,a⟩,b⟩⟩
  ·have pi:=wa p q
   have nh:=sy q
   obtain⟨l,e⟩:=iZ r
   refine⟨yf A nh.1 nh.2 pi.i,by rw[e];exact ya nh.1 nh.2,ye A nh.1 nh.2 pi.i fun hm=>?_,sJ g A pi.b,?_⟩
   ·rcases q with q|q
    ·exact pi.c q
    ·exact absurd hm (sA q)
   ·rcases q with q|q
    ·exact (wn q A pi).imp fun _ _ ⟨a,b⟩=>⟨⟨_,_,a⟩,b⟩
    ·exact (wq q A pi).imp fun _ _ ⟨a,b⟩=>⟨⟨_,_,a⟩,b⟩
 obtain⟨s1,s2,s3,s4,s5⟩:=st
 have ih:ixW r.form (.int 0)=pr (.str r.hd):=by obtain⟨l,e⟩:=iZ r;rw[e];exact ix0 ..
 generalize r.form=F at *
 simp!
 refine dA A.ob m3 ?_
 simp! only[aa,ih]
 refine aV s1 fun _ h1 eh=>?_
 subst eh
 simp!
 refine dA A.ob m4 ?_
 simp!
 refine aV s2 fun _ h1 eh=>?_
 subst eh
 simp!
 refine dA A.ob m5 ?_
 simp! only[aa,ih]
 refine aV s3 fun _ h1 eh=>?_
 subst eh
 simp!
 refine dA A.ob m6 ?_
 simp!
 refine aV s4 fun _ h1 eh=>?_
 subst eh
 simp!
 refine dA A.ob m7 ?_
 simp!
 refine aV s5 fun _ h1 q=>?_
 simp!
 exact ak ⟨rfl,q⟩
end
end
section
open Wd
noncomputable def EA (l:List Str)(x:Str):Nat:=(l.findIdx? (fun m=>decide (m=x))).getD 0
theorem kl {l:List Str}{x:Str}(h:x∈l):l.findIdx? (fun m=>decide (m=x))=some (EA l x)/\EA l x<l.length:=by
 unfold EA
 cases e:l.findIdx? (fun m=>decide (m=x)) with
 |none=>
  rw[List.findIdx?_eq_none_iff] at e
  have:=e x h
  simp at this
 |some i=>
  refine⟨rfl,?_⟩
  rw[Bp] at e
  exact e.1
def Rr.en (l:List Str):Rr->E17
 |.go nm=>.go (EA l nm:Nat)
 |.iff s _ e1 _ e2 x y=>.iff s (D3 e1) (D3 e2) (EA l x:Nat) (EA l y:Nat)
 |.table _ e xs=>.table (D3 e) (xs.map fun x=>((EA l x:Nat):Int))
 |_=>.stop
noncomputable def Rr.tos:Rr->List Str
 |.go nm=>[nm]
 |.iff _ _ _ _ _ x y=>[x,y]
 |.table _ _ xs=>xs
 |_=>[]
section
variable {h:List Ob}{jn:Nat}{ss:List Str}
theorem mD {β:Type}{Q:β->List Ob->Prop}{j:Nat}{x:Str}{ss:List Str}{k:W->M β}(e:h[j]?=some (.lst (ss.map W.str)))(q:Ok (k (.bl (!decide (x∈ss)))) h Q):Ok (bd (b7 (.str x) (.loc j)) k) h Q:=by
 refine bb (a:=.bl (!decide (x∈ss))) (h':=h) ?_ q
 unfold b7
 have d:DW (.loc j) h=none:=by unfold DW;simp only[e]
 have lo:ET (.loc j) h=.ok (ss.map W.str) h:=by unfold ET;simp only[e]
 have e:inB (.str x) (.loc j) h=some (decide (x∈ss)):=by
  unfold inB
  simp only[d,lo,eA (g:=W.str) (k:=V.str) (fun a=>rfl) ss]
  show some (inV (.str x) (ss.map V.str))=_
  rw[g8]
 rw[e]
theorem mK {j:Nat}{l:List W}(e:h[j]?=some (.lst l)):ES (.loc j) h=.ok l h:=by
 unfold ES
 simp only[e]
theorem gL {x:Str}(e:h[jn]?=some (.lst (ss.map W.str)))(m:x∈ss):Ok (cF [.str x,.loc jn]) h fun w h'=>w=.int (EA ss x:Nat)/\h'=h:=by
 have e0:cF [.str x,.loc jn]=bd (eS [some (.str x),some (.loc jn)]) D6:=rfl
 rw[e0]
 unfold eS
 simp!
 refine mD e ?_
 simp! only[aa,decide_eq_true m,Ep]
 refine bb (mK e) ?_
 simp! only[aa,GV]
 refine bb (mK e) ?_
 have o:FV sOf (ss.map W.str)=some ss:=gO (f:=sOf) (g:=W.str) (fun a=>rfl) ss
 rw[o]
 dsimp only
 rw[(kl m).1]
 simp!
 exact ak ⟨rfl,rfl⟩
theorem sl64 (a b c d e f:W):slW (.tup [a,b,c,d,e,f]) none (some 4)=pr (.tup [a,b,c,d]):=by
 show gd (¬(HT.sIx 6 0 none=0/\HT.sIx 6 6 (some 4)=6)) (pr (W.tup (DS [a,b,c,d,e,f] none (some 4))))=_
 rw[af (by decide)];rfl
theorem xZ (a b c d e f:W):DC (.tup [a,b,c,d]) (.tup [e,f])=pr (.tup [a,b,c,d,e,f]):=by
 show gd _ (pr (W.tup ([a,b,c,d]++[e,f])))=_
 rw[af ⟨rfl,sz (by show 4+2<=_;omega)⟩];rfl
theorem uZ {r:Rr}(q:r.end'=true)(e:h[jn]?=some (.lst (ss.map W.str)))(g:r.Ok)(m:∀x∈r.tos,x∈ss):Ok (bf [r.form,.loc jn]) h fun w h'=>w=(r.en ss).w/\h'=h:=by
 cases r with
 |go nm=>
  have e0:bf [(Rr.go nm).form,.loc jn]=bd (aG [some (.tup [.str "go",.str nm]),some (.loc jn)]) D6:=rfl
  rw[e0];unfold aG
  simp! only[aa,ix0,ix1,hds]
  refine aV (gL e (m nm zB)) fun w h' qq_=>?_
  obtain⟨ew,eh⟩:=qq_
  subst ew eh
  simp!
  exact ak ⟨rfl,rfl⟩
 |iff s z1 e1 z2 e2 x y=>
  have e0:bf [(Rr.iff s z1 e1 z2 e2 x y).form,.loc jn]=bd (aG [some (.tup [.str "if",.str s,D3 e1,D3 e2,.str x,.str y]),some (.loc jn)]) D6:=rfl
  rw[e0];unfold aG
  simp! only[aa,ix0,ix4,ix5,hds,sl64]
  refine aV (gL e (m x zB)) fun w h' qq_=>?_
  obtain⟨ew,eh⟩:=qq_
  subst ew eh
  simp! only[aa,ix5]
  refine aV (gL e (m y (zK _ zB))) fun w h' qq_=>?_
  obtain⟨ew,eh⟩:=qq_
  subst ew eh
  simp! only[aa,xZ]
  exact ak ⟨rfl,rfl⟩
 |table z e1 xs=>
  have e0:bf [(Rr.table z e1 xs).form,.loc jn]=bd (aG [some (.tup [.str "table",D3 e1,.tup (xs.map W.str)]),some (.loc jn)]) D6:=rfl
  rw[e0];unfold aG
  have gl: ∀ {α:Type} (q:M α),gd ((xs.map W.str).length<=sizeLine) q=q:=fun q=>af (by rw[zr];exact sz (by have:=g.2.2.1;omega))
  simp! only[aa,ix0,ix1,ix2,hds,gl]
  refine cx (I:=fun i a h'=>h'=h/\a=((xs.take i).map fun x=>((EA ss x:Nat):Int)).map W.int) ⟨rfl,rfl⟩ dy (fun _ _ _ _=>trivial) (fun i w a h' hw I=>?_) fun a h' I=>?_
  ·obtain⟨rfl,rfl⟩:=I
   rw[zG] at hw
   obtain⟨x,hx,rfl⟩:=zM.mp hw
   refine⟨_,rfl,?_⟩
   simp! only[List.replicate,Ac,z0,aa]
   refine (gL e (m x (Ad hx))).imp fun w h2 qz=>?_
   obtain⟨ew,eh⟩:=qz
   subst ew eh
   refine⟨rfl,?_⟩
   rw[Ae,hx,zw,zw];rfl
  ·obtain⟨rfl,rfl⟩:=I
   rw[zr,Ab]
   simp! only[aa,ig]
   exact ak ⟨rfl,rfl⟩
 |stop=>
  have e0:bf [Rr.stop.form,.loc jn]=bd (aG [some (.tup [.str "stop"]),some (.loc jn)]) D6:=rfl
  rw[e0];unfold aG
  simp! only[aa,ix0,hds]
  exact ak ⟨rfl,rfl⟩
 |_=>cases q
end
def bkP (l:List Str)(b:Nat×Str×List W×Rr):W:=.tup [.str b.2.1,.loc b.1,(b.2.2.2.en l).w]
structure Dk (s:RS):Prop where
 l:s.dn.length=s.nm.length
 l1:1<=s.nm.length
 e: ∀b∈s.dn,b.2.2.end'=true/\b.2.2.Ok/\ ∀x∈b.2.2.tos,x∈s.nm
structure Dy (h:List Ob)(o jb jl:Nat)(dl:List (Nat×Str×List W×Rr))(s:RS):Prop where
 b:h[jb]?=some (.lst (s.bx.map bqW))
 l:h[jl]?=some (.lst (dl.map (bkP s.nm)))
 d:dl.map (·.2)=s.dn
 pl: ∀x∈dl,h[x.1]?=some (.lst x.2.2.1)
 nd:(jb::jl::dl.map (·.1)).Nodup
 lo: ∀j∈jb::jl::dl.map (·.1),o<j
theorem sY {h:List Ob}{o jb jn je js:Nat}{dl:List (Nat×Str×List W×Rr)}{s:RS}(A:RdAt h o jb jn je js dl s)(E:Dk s):Ok (bj [.loc o]) h fun w h'=>(∃jl,w=.tup [.loc jb,.loc jl]/\Dy h' o jb jl dl s)/\Fo o h h':=by
 have e0:bj [.loc o]=bd (bh [some (.loc o),none,none,none,none]) D6:=rfl
 rw[e0]
 unfold bh
 obtain⟨n1,n2,n3,n4⟩:=A.ne
 obtain⟨z1,z2,z3,z4,z5⟩:=A.z
 have el:=E.l
 have el1:=E.l1
 have lo:=cC A.ob
 have lb:=cC A.b
 have ln:=cC A.n
 have le:=cC A.e
 simp!
 refine dA A.ob Fk.1 ?_
 simp!
 refine aV (jE A) fun w h' qq_=>?_
 obtain⟨ew,eh⟩:=qq_
 subst ew eh
 simp! only[aa,decide_eq_false (show¬s.dn.length<s.nm.length by omega)]
 refine bV A.ob (mO ..) ?_
 simp!
 refine (Lw.len (.inr ⟨jn,rfl,A.n⟩)) ?_
 have d0:decide ((((s.nm.map W.str).length:Nat):Int)=0)=false:=decide_eq_false (by rw[zr];omega)
 simp! only[aa,d0]
 refine gC ?_
 have ap: ∀ {j:Nat}{b:Ob},h'[j]?=some b->(h'++[.lst []])[j]?=some b:=fun e=>lI e
 simp!
 refine bV (ap A.ob) (xG ..) ?_
 refine lh (ap A.e) ?_
 simp!
 have dn:=A.dn
 refine fY (I:=fun i ρ h1=> ∃a b c,ρ=[some (.loc o),some (.loc h'.length),a,b,c]/\h1.length=h'.length+1/\(∀j,j<h'.length->h1[j]?=h'[j]?)/\h1[h'.length]?=some (.lst ((dl.take i).map (bkP s.nm)))) ⟨_,_,_,rfl,by simp,fun j hj=>by rw[Aa hj],gh⟩ (fun _ _ _ I=>by obtain⟨a,b,c,_,_,q,_⟩:=I;rw[q _ le];exact A.e) (fun i w ρ h1 hw I=>?_) fun ρ h1 I=>?_
 ·obtain⟨a,b,c,rfl,l1,q1,q2⟩:=I
  rw[zG] at hw
  obtain⟨⟨p,nm,sts,r⟩,hb,rfl⟩:=zM.mp hw
  have hbm:=Ad hb
  obtain⟨r1,r2,r3⟩:=E.e (nm,sts,r) (by rw[<-A.d];exact AD hbm)
  have hi:=(zO.mp hb).1
  refine⟨[some (.loc o),some (.loc h'.length),some (.str nm),some (.loc p),some r.form],rfl,?_⟩
  have en:h1[jn]?=some (.lst (s.nm.map W.str)):=by rw[q1 _ ln];exact A.n
  have eo:h1[o]?=some (.ins "Reading" D9 [.loc jb,.loc jn,.loc je,.loc js]):=by rw[q1 _ lo];exact A.ob
  have eb:=uZ r1 en r2 r3
  generalize r.form=F at *
  simp!
  refine cQ q2 ?_
  simp!
  refine bV eo (mO ..) ?_
  simp!
  refine aV eb fun w h2 qq_=>?_
  obtain⟨ew,eh⟩:=qq_
  subst ew eh
  simp!
  refine cR q2 (by rw[zr,z7];exact Ai (show _<=10 by omega) (by decide)) ?_
  simp!
  refine ak ⟨_,rfl,_,_,_,rfl,by rw[zW];exact l1,fun j hj=>by rw[zt (by omega)];exact q1 j hj,?_⟩
  rw[ck q2,Ae,hb,zw];rfl
 ·obtain⟨a,b,c,rfl,l1,q1,q2⟩:=I
  rw[zr,Ab] at q2
  have eo:h1[o]?=some (.ins "Reading" D9 [.loc jb,.loc jn,.loc je,.loc js]):=by rw[q1 _ lo];exact A.ob
  simp!
  refine bV eo (uI ..) ?_
  simp!
  have lp: ∀x∈dl,x.1<h'.length:=fun x hx=>cC (A.pl x hx).1
  refine ak ⟨⟨h'.length,rfl,⟨by rw[q1 _ lb];exact A.b,q2,A.d,fun x hx=>by rw[q1 _ (lp x hx)];exact (A.pl x hx).1,?_,?_⟩⟩,fun i hi=>q1 i (by omega),by omega⟩
  ·refine Ar.mpr ⟨fun hm=>?_,Ar.mpr ⟨fun hm=>?_,A.nd⟩⟩
   ·rcases zA.mp hm with z|hm
    ·omega
    ·obtain⟨x,hx,e⟩:=zE.mp hm
     have:=(A.pl x hx).2
     omega
   ·obtain⟨x,hx,e⟩:=zE.mp hm
    have:=lp x hx
    omega
  ·intro j hj
   rcases zA.mp hj with rfl|hj
   ·exact n1
   ·rcases zA.mp hj with rfl|hj
    ·exact lo
    ·obtain⟨x,hx,e⟩:=zE.mp hj
     have:=(A.pl x hx).2
     omega
def OkR:List Rr->RS->Prop
 |[],_=>True
 |r::rs,s=>(r.Ok/\Pre s r)/\OkR rs (s.step r)
def Gq (rs:List Rr)(s:RS):RS:=rs.foldl RS.step s
theorem iV: ∀ {a b:List Rr}{s:RS},OkR a s->OkR b (Gq a s)->OkR (a++b) s
 |[],_,_,_,h=>h
 |r::a,b,s,g,h=>⟨g.1,iV (a:=a) g.2 h⟩
theorem ji (a b:List Rr)(s:RS):Gq (a++b) s=Gq b (Gq a s):=A1 ..
theorem o7: ∀ {a:List Rr}{s:RS},OkR a s-> ∀r∈a,r.Ok
 |[],_,_,r,h=>absurd h zQ
 |x::a,s,g,r,h=>by
  rcases zA.mp h with rfl|h
  ·exact g.1.1
  ·exact o7 g.2 r h
noncomputable def RS.nil:RS:=⟨[],[],[],[]⟩
section
variable {β:Type}{h:List Ob}{Q:β->List Ob->Prop}
theorem lx {L:List Ob}{k:W->M β}{l:List W}{n:Nat}(hn:L.length=n)(q:Ok (k (.loc (h.length+n))) (h++(L++[.lst l])) Q):Ok (bd (Fp l) k) (h++L) Q:=by
 refine gC ?_
 rw[zv,zV,hn]
 exact q
theorem kS {L:List Ob}{c f:Str}{ns ns':List Str}{ws ws':List W}{y:W}{k:Unit->M β}(z:ns.length<1000)(e2:Gg ns ws f y=(ns',ws'))(q:Ok (k ()) (h++.ins c ns' ws'::L) Q):Ok (bd (Gf c f (.loc h.length) y) k) (h++.ins c ns ws::L) Q:=by
 refine rM (by rw[As (zu _),Bl];rfl) z e2 ?_
 rw[List.set_append_right _ _ (zu _),Bl]
 exact q
end
theorem uT (h:List Ob):Ok (bQ [.loc h.length]) (h++[.ins "Reading" [] []]) fun w h'=>w=.non/\RdAt h' h.length (h.length+1) (h.length+2) (h.length+3) (h.length+4) [] RS.nil/\Fo h.length h h':=by
 have e0:bQ [.loc h.length]=bd (bP [some (.loc h.length)]) D6:=rfl
 rw[e0]
 unfold bP
 simp!
 refine lx (n:=1) rfl ?_
 simp! only[Ac,z0,aa]
 refine kS (by show 0<1000;decide) (ns':=["boxes"]) (ws':=[.loc (h.length+1)]) rfl ?_
 simp!
 refine lx (n:=2) rfl ?_
 simp! only[Ac,z0,aa]
 refine kS (by show 1<1000;decide) (ns':=["boxes", "block_names"]) (ws':=[.loc (h.length+1),.loc (h.length+2)]) (by simp only[Gg,fne,if_false]) ?_
 simp!
 refine lx (n:=3) rfl ?_
 simp! only[Ac,z0,aa]
 refine kS (by show 2<1000;decide) (ns':=["boxes", "block_names", "ended_blocks"]) (ws':=[.loc (h.length+1),.loc (h.length+2),.loc (h.length+3)]) (by simp only[Gg,fne,if_false]) ?_
 simp!
 refine lx (n:=4) rfl ?_
 simp! only[Ac,z0,aa]
 refine kS (by show 3<1000;decide) (ns':=D9) (ws':=[.loc (h.length+1),.loc (h.length+2),.loc (h.length+3),.loc (h.length+4)]) (by simp only[D9,Gg,fne,if_false]) ?_
 simp!
 have at': ∀ (L:List Ob) (k:Nat),(h++L)[h.length+k]?=L[k]?:=fun L k=>by rw[As (by omega)];congr 1;omega
 refine ak ⟨rfl,⟨at' _ 0,at' _ 1,at' _ 2,at' _ 3,fun _=>at' _ 4,⟨by omega,by omega,by omega,by omega⟩,⟨zL _,zL _,zu _,zL _,zL _⟩,rfl,fun x hx=>absurd hx zQ,List.nodup_nil,fun _ hm=>absurd hm zQ⟩,⟨fun i hi=>Aa hi,by rw[zv];omega⟩⟩
def Hw (rs:List Rr):Str:=Str.join ⟨#[10]⟩ (rs.map Rr.tx)
theorem tO {h:List Ob}{rs:List Rr}(K:OkR rs RS.nil)(E:Dk (Gq rs RS.nil))(l1:rs≠ [])(l2:rs.length<=120):Ok (gF [.str (Hw rs)]) h fun w h'=>(∃jb jl dl,w=.tup [.loc jb,.loc jl]/\Dy h' h.length jb jl dl (Gq rs RS.nil))/\Fo h.length h h':=by
 have e0:gF [.str (Hw rs)]=bd (lJ [some (.str (Hw rs)),none,none,none]) D6:=rfl
 rw[e0]
 unfold lJ
 have all:=o7 K
 have hz: ∀z∈rs.map Rr.tx,z.length<=600:=fun z hz=>by
  obtain⟨r,hr,rfl⟩:=zE.mp hz
  exact (all r hr).len
 have sp:G8 (.str (Hw rs)) [.str "\n"]=pr (.tl ((rs.map Rr.tx).map W.str)):=by
  rw[vn]
  refine mi (fun z=>l1 (BN.mp z)) (fun z hz=>?_) (zJ (pq hz) ?_) (sz (by rw[zr];omega))
  ·obtain⟨r,hr,rfl⟩:=zE.mp hz
   exact (all r hr).nl
  ·rw[zr];exact sz (by omega)
 generalize Hw rs=T at *
 have d0:decide ((120:Int)<((((rs.map Rr.tx).map W.str).length:Nat):Int))=false:=decide_eq_false (by rw[zr,zr];omega)
 simp! only[aa,sp,d0,EZ]
 refine uc (by rfl) (uT h) fun h1 qz=>?_
 obtain⟨A,F1⟩:=qz
 simp! only[aa,bX]
 generalize h.length+1=jb at *
 generalize h.length+2=jn at *
 generalize h.length+3=je at *
 generalize h.length+4=js at *
 generalize ho:h.length=o at *
 have m8:=Fk.2.2.2.2.2.2.2.1
 have m9:=Fk.2.2.2.2.2.2.2.2
 refine fY (I:=fun i ρ h2=> ∃a js dl s,ρ=[some (.str T),some (.tl ((rs.map Rr.tx).map W.str)),some (.loc o),a]/\RdAt h2 o jb jn je js dl s/\OkR (rs.drop i) s/\Gq (rs.drop i) s=Gq rs RS.nil/\Fo o h h2) ⟨_,js,[],RS.nil,rfl,A,K,rfl,F1⟩ (fun _ _ _ _=>trivial) (fun i w ρ h2 hw I=>?_) fun ρ h2 I=>?_
 ·obtain⟨a,js,dl,s,rfl,A,K,er,F2⟩:=I
  rw[zG,zG] at hw
  obtain⟨x,hx,rfl⟩:=zM.mp hw
  obtain⟨r,hr,rfl⟩:=zM.mp hx
  have hi:=(zO.mp hr).1
  have ed:rs.drop i=r::rs.drop (i+1):=by
   rw[AJ hi]
   congr 1
   exact Option.some.inj ((Ah hi).symm.trans hr)
  rw[ed] at K er
  obtain⟨⟨g,p⟩,K⟩:=K
  have fe:=uW g
  have tk:=tf g A p
  refine⟨_,rfl,?_⟩
  generalize r.form=F at *
  generalize r.tx=X at *
  simp!
  refine dA A.ob m8 ?_
  simp! only[aa,fe]
  refine aV tk fun w h3 qq_=>?_
  obtain⟨ew,⟨js',dl',A'⟩,F3⟩:=qq_
  subst ew
  simp!
  exact ak ⟨_,rfl,_,js',dl',_,rfl,A',K,er,F2.trans F3⟩
 ·obtain⟨a,js,dl,s,rfl,A,K,er,F2⟩:=I
  rw[zr,zr,Bn] at er
  have er:s=Gq rs RS.nil:=er
  subst er
  simp!
  refine dA A.ob m9 ?_
  simp!
  refine aV (sY A E) fun w h3 qq_=>?_
  obtain⟨⟨jl,ew,T3⟩,F3⟩:=qq_
  subst ew
  simp!
  exact ak ⟨⟨jb,jl,dl,rfl,T3⟩,F2.trans F3⟩
end
section
open Wd
structure Bt where
 nm:Str
 ss:List Rr
 e:Rr
noncomputable def Bt.rows (b:Bt):List Rr:=.block b.nm::(b.ss++[b.e])
def pgR (bx:List (Str×Str))(bl:List Bt):List Rr:=(bx.map fun b=>Rr.box b.1 b.2)++bl.flatMap Bt.rows
structure BtG (bn ns:List Str)(b:Bt):Prop where
 nm:ah b.nm=true
 l:b.ss.length<=8
 s: ∀r∈b.ss,r.stm=true/\r.Ok/\ ∀x∈r.bxs,x∈bn
 e:b.e.end'=true/\b.e.Ok/\(∀x∈b.e.bxs,x∈bn)/\ ∀x∈b.e.tos,x∈ns
structure Du (bx:List (Str×Str))(bl:List Bt):Prop where
 b: ∀x∈bx,ah x.1=true/\Fu x.2=true
 bn:(bx.map (·.1)).Nodup
 b4:bx.length<=4
 n:(bl.map Bt.nm).Nodup
 l:bl.length<=10
 l1:1<=bl.length
 g: ∀b∈bl,BtG (bx.map (·.1)) (bl.map Bt.nm) b
def bxV (bx:List (Str×Str)):List (Str×Int):=bx.map fun b=>(b.1,b6 b.2)
theorem oV: ∀ (bx:List (Str×Str)) (d:List (Str×Int)),(∀x∈bx,ah x.1=true/\Fu x.2=true)->(d.map (·.1)++bx.map (·.1)).Nodup->d.length+bx.length<=4->OkR (bx.map fun b=>Rr.box b.1 b.2) ⟨d,[],[],[]⟩/\Gq (bx.map fun b=>Rr.box b.1 b.2) ⟨d,[],[],[]⟩=⟨d++bxV bx,[],[],[]⟩
 |[],d,_,_,_=>⟨trivial,by show _=RS.mk (d++[]) _ _ _;rw[zZ];rfl⟩
 |b::bx,d,g,nd,l=>by
  have ih:=oV bx (d++[(b.1,b6 b.2)]) (fun x hx=>g x (zK _ hx)) (by rw[zw,zV];exact nd) (by rw[zv,zU];rw[zx] at l;omega)
  rw[zx] at l
  refine⟨⟨⟨g b zB,rfl,fun hm=>?_,by show d.length<4;omega⟩,ih.1⟩,?_⟩
  ·rw[zD,AL] at nd
   exact nd.2.2 _ hm _ zB rfl
  ·show Gq (bx.map fun b=>Rr.box b.1 b.2) ⟨d++[(b.1,b6 b.2)],[],[],[]⟩=_
   rw[ih.2,zV];rfl
theorem oU: ∀ (ss:List Rr) (s:RS),s.dn.length<s.nm.length->s.st.length+ss.length<=8->(∀r∈ss,r.stm=true/\r.Ok/\ ∀x∈r.bxs,x∈s.bx.map (·.1))->OkR ss s/\Gq ss s={s with st:=s.st++ss.map Rr.form}
 |[],s,_,_,_=>⟨trivial,by rw[Ag,zZ];rfl⟩
 |r::ss,s,i,l,g=>by
  rw[zx] at l
  obtain⟨g1,g2,g3⟩:=g r zB
  have es:=mf (s:=s) g1
  have ih:=oU ss {s with st:=s.st++[r.form]} i (by show (s.st++[_]).length+_<=8;rw[zv,zU];omega) fun r hr=>g r (zK _ hr)
  have p:Dt s r:=⟨i,fun _=>by omega,g3⟩
  have p:Pre s r:=by cases r<;>first|exact p|cases g1
  refine⟨⟨⟨g2,p⟩,by rw[es];exact ih.1⟩,?_⟩
  show Gq ss (s.step r)=_
  rw[es,ih.2]
  show RS.mk s.bx s.nm s.dn ((s.st++[r.form])++ss.map Rr.form)=RS.mk s.bx s.nm s.dn (s.st++(r::ss).map Rr.form)
  rw[zV];rfl
theorem qi (l:List Str)(x:Str):(l++[x]).getLastD ""=x:=by simp
theorem u0 {r:Rr}(a:r.end'=true)(b:r.stm=true):False:=by
 cases r<;>first|exact absurd a zC|exact absurd b zC
theorem tK {bn ns:List Str}{b:Bt}{s:RS}(g:BtG bn ns b)(hb:s.bx.map (·.1)=bn)(i:s.dn.length=s.nm.length)(l:s.nm.length<10)(n:b.nm ∉ s.nm):OkR b.rows s/\Gq b.rows s=⟨s.bx,s.nm++[b.nm],s.dn++[(b.nm,b.ss.map Rr.form,b.e)],b.ss.map Rr.form⟩:=by
 subst hb
 have h1:=oU b.ss ⟨s.bx,s.nm++[b.nm],s.dn,[]⟩ (by show s.dn.length<(s.nm++[_]).length;rw[zv,zU];omega) (by show 0+_<=8;have:=g.l;omega) g.s
 have e2:Gq b.ss ⟨s.bx,s.nm++[b.nm],s.dn,[]⟩=⟨s.bx,s.nm++[b.nm],s.dn,b.ss.map Rr.form⟩:=by rw[h1.2];rfl
 have p:Dt ⟨s.bx,s.nm++[b.nm],s.dn,b.ss.map Rr.form⟩ b.e:=⟨by show s.dn.length<(s.nm++[_]).length;rw[zv,zU];omega,fun q=>(u0 g.e.1 q).elim,g.e.2.2.1⟩
 have p:Pre ⟨s.bx,s.nm++[b.nm],s.dn,b.ss.map Rr.form⟩ b.e:=by
  have ge:=g.e.1
  cases h:b.e<;>rw[h] at p ge<;>first|exact p|cases ge
 refine⟨⟨⟨g.nm,i,n,l⟩,iV h1.1 ?_⟩,?_⟩
 ·show OkR [b.e] (Gq b.ss ⟨s.bx,s.nm++[b.nm],s.dn,[]⟩)
  rw[e2]
  exact⟨⟨g.e.2.1,p⟩,trivial⟩
 ·show Gq (b.ss++[b.e]) ⟨s.bx,s.nm++[b.nm],s.dn,[]⟩=_
  rw[ji,e2]
  show RS.step _ b.e=_
  rw[mh g.e.1]
  show RS.mk s.bx (s.nm++[b.nm]) (s.dn++[((s.nm++[b.nm]).getLastD "",b.ss.map Rr.form,b.e)]) _=_
  rw[qi]
theorem mt {bn ns:List Str}: ∀ (bl:List Bt) (s:RS),(∀b∈bl,BtG bn ns b)->s.bx.map (·.1)=bn->s.dn.length=s.nm.length->(s.nm++bl.map Bt.nm).Nodup->s.nm.length+bl.length<=10->OkR (bl.flatMap Bt.rows) s/\ ∃st,Gq (bl.flatMap Bt.rows) s=⟨s.bx,s.nm++bl.map Bt.nm,s.dn++bl.map (fun b=>(b.nm,b.ss.map Rr.form,b.e)),st⟩
 |[],s,_,_,_,_,_=>⟨trivial,s.st,by rw[Ag,Ag,zZ,zZ];rfl⟩
 |b::bl,s,g,hb,i,nd,l=>by
  rw[zx] at l
  rw[zD] at nd
  have nn:b.nm ∉ s.nm:=fun hm=>by
   rw[AL] at nd
   exact nd.2.2 _ hm _ zB rfl
  have h1:=tK (g b zB) hb i (by omega) nn
  obtain⟨h2,st,h3⟩:=mt bl ⟨s.bx,s.nm++[b.nm],s.dn++[(b.nm,b.ss.map Rr.form,b.e)],b.ss.map Rr.form⟩ (fun b hb=>g b (zK _ hb)) hb (by show (s.dn++[_]).length=(s.nm++[_]).length;rw[zv,zv,i];rfl) (by show ((s.nm++[b.nm])++_).Nodup;rw[zV];exact nd) (by show (s.nm++[_]).length+_<=10;rw[zv,zU];omega)
  rw[Bv]
  refine⟨iV h1.1 (by rw[h1.2];exact h2),st,?_⟩
  rw[ji,h1.2,h3]
  show RS.mk _ ((s.nm++[b.nm])++bl.map Bt.nm) ((s.dn++[_])++_) _=_
  rw[zV,zV];rfl
theorem Go {bl:List Bt}(h:∀b∈bl,b.ss.length<=8):(bl.flatMap Bt.rows).length<=10 * bl.length:=by
 induction bl with
 |nil=>simp
 |cons b bl ih=>
  have a:=h b zB
  have c:=ih fun b hb=>h b (zK _ hb)
  rw[Bv,zv,zx]
  have:b.rows.length=b.ss.length+2:=by unfold Bt.rows;rw[zx,zv];rfl
  omega
theorem rh {h:List Ob}{bx:List (Str×Str)}{bl:List Bt}(G:Du bx bl):Ok (gF [.str (Hw (pgR bx bl))]) h fun w h'=>(∃jb jl dl st,w=.tup [.loc jb,.loc jl]/\Dy h' h.length jb jl dl ⟨bxV bx,bl.map Bt.nm,bl.map (fun b=>(b.nm,b.ss.map Rr.form,b.e)),st⟩)/\Fo h.length h h':=by
 have h1:=oV bx [] G.b G.bn (by have:=G.b4;show 0+_<=4;omega)
 have ebx:(bxV bx).map (·.1)=bx.map (·.1):=by unfold bxV;rw[Aj];rfl
 obtain⟨h2,st,h3⟩:=mt bl ⟨bxV bx,[],[],[]⟩ (fun b hb=>G.g b hb) ebx rfl G.n (by have:=G.l;show 0+_<=10;omega)
 have e1:Gq (bx.map fun b=>Rr.box b.1 b.2) RS.nil=⟨bxV bx,[],[],[]⟩:=h1.2
 have er:Gq (pgR bx bl) RS.nil=⟨bxV bx,bl.map Bt.nm,bl.map (fun b=>(b.nm,b.ss.map Rr.form,b.e)),st⟩:=by
  unfold pgR
  rw[ji,e1,h3];rfl
 have K:OkR (pgR bx bl) RS.nil:=iV h1.1 (by rw[e1];exact h2)
 have ll:=Go fun b hb=>(G.g b hb).l
 have g1:=G.l
 have g2:=G.l1
 have g3:=G.b4
 have lp:(pgR bx bl).length=bx.length+(bl.flatMap Bt.rows).length:=by unfold pgR;rw[zv,zr]
 have ne:pgR bx bl≠ []:=by
  cases bl with
  |nil=>exact absurd g2 (by simp)
  |cons b bl=>unfold pgR;rw[Bv];unfold Bt.rows;simp
 have E:Dk (Gq (pgR bx bl) RS.nil):=by
  rw[er]
  refine⟨by show (bl.map _).length=(bl.map _).length;rw[zr,zr],by show 1<=(bl.map _).length;rw[zr];exact g2,fun b hb=>?_⟩
  have hb:b∈bl.map (fun b=>(b.nm,b.ss.map Rr.form,b.e)):=hb
  obtain⟨c,hc,rfl⟩:=zE.mp hb
  have g:=(G.g c hc).e
  exact⟨g.1,g.2.1,g.2.2.2⟩
 refine (tO K E ne (by omega)).imp fun w h' ⟨⟨jb,jl,dl,ew,T⟩,F⟩=>⟨⟨jb,jl,dl,st,ew,?_⟩,F⟩
 rw[er] at T
 exact T
end
section
open Wd
noncomputable def hdS:Exp->Str
 |.num _=> "number"
 |.box _=> "box"
 |.bin s _ _=>s
noncomputable def Et (s:Str):Bool:=("+":Str)==s||(("-":Str)==s||false)
noncomputable def brk (b:Bool)(x:Str):Str:=if b=true then "("++x++ ")" else x
def lBr (s:Str)(l:Exp)(more:Int):Bool:=(decide (s= "*") && Et (hdS l))||decide (more % 5=1)
def rBr (s:Str)(r:Exp)(more:Int):Bool:=Et (hdS r)||((decide (s= "*") && decide (hdS r= "*"))||decide (more % 7=1))
def wdS:Exp->Int->Str
 |.num n,_=>toString n
 |.box x,_=>x
 |.bin s l r,more=>brk (lBr s l more) (wdS l (more / 2))++s++brk (rBr s r more) (wdS r (more / 3))
noncomputable def szE:Exp->Nat
 |.num _=>1
 |.box _=>1
 |.bin _ l r=>szE l+szE r
def Do:Exp->Prop
 |.num n=>0<=n/\n<=999
 |.box x=>ah x=true
 |.bin s l r=>(s= "+"\/s= "-"\/s= "*")/\Do l/\Do r
theorem kX:("+":Str)=⟨#[43]⟩:=by decide+kernel
theorem jz:("-":Str)=⟨#[45]⟩:=by decide+kernel
theorem kK:("*":Str)=⟨#[42]⟩:=by decide+kernel
theorem lpar:("(":Str).cps.toList=[40]:=by decide+kernel
theorem rpar:(")":Str).cps.toList=[41]:=by decide+kernel
theorem e8 (a b:Str):(a++b).cps.toList=a.cps.toList++b.cps.toList:=by
 have:(a++b).cps=a.cps++b.cps:=rfl
 rw[this,BH]
theorem ph (a b:Str):(a++b).length=a.length+b.length:=by rw[<-aO,<-aO,<-aO,e8,zv]
theorem gR: ∀n:Nat,n<1000->Fu (Str.ofString (toString ((n:Nat):Int)))=true/\b6 (Str.ofString (toString ((n:Nat):Int)))=(n:Int):=by
 have h: ∀n:Nat,n<1000->Fu (Str.ofString (toString ((n:Nat):Int)))=true:=by decide+kernel
 intro n hn
 refine⟨h n hn,?_⟩
 have h1:=(jv (h n hn)).1
 have h2:=PySem.W.KIN.num_reads (n:=(n:Int)) (by omega) (by omega)
 rw[h2] at h1
 exact (Option.some.inj h1).symm
noncomputable def bit (b:Bool):Nat:=if b=true then 1 else 0
def bdW:Exp->Int->Nat
 |.num _,_=>0
 |.box _,_=>0
 |.bin s l r,more=>max (bdW l (more / 2)+bit (lBr s l more)) (bdW r (more / 3)+bit (rBr s r more))
theorem dM (b:Bool)(x:Str):(brk b x).cps.toList=if b=true then 40::(x.cps.toList++[41]) else x.cps.toList:=by
 unfold brk
 split
 ·rw[e8,e8,lpar,rpar];rfl
 ·rfl
structure Dw (W:List Nat)(e:Exp)(d:Nat):Prop where
 sum:SumT W e d
 prod:Et (hdS e)=false->ProdT W e d
 atom:Et (hdS e)=false->hdS e≠ "*"->AtomT W e d
 deep:DeepT W d
theorem jT {x:Str}{e:Exp}{d:Nat}(h:SumT x.cps.toList e d):AtomT (brk true x).cps.toList e (d+bit true):=by
 rw[dM,if_pos rfl]
 exact h.bracket
theorem u5 {b:Bool}{x:Str}{e:Exp}{d:Nat}(h:SumT x.cps.toList e d):SumT (brk b x).cps.toList e (d+bit b):=by
 cases b with
 |true=>exact (jT h).prod.sum
 |false=>rw[dM,if_neg zC];exact h
theorem nF {b:Bool}{x:Str}{e:Exp}{d:Nat}(h:SumT x.cps.toList e d)(hp:b=false->ProdT x.cps.toList e d):ProdT (brk b x).cps.toList e (d+bit b):=by
 cases b with
 |true=>exact (jT h).prod
 |false=>rw[dM,if_neg zC];exact hp rfl
theorem sN {b:Bool}{x:Str}{e:Exp}{d:Nat}(h:SumT x.cps.toList e d)(hp:b=false->AtomT x.cps.toList e d):AtomT (brk b x).cps.toList e (d+bit b):=by
 cases b with
 |true=>exact jT h
 |false=>rw[dM,if_neg zC];exact hp rfl
theorem nG {b:Bool}{x:Str}{d:Nat}(h:DeepT x.cps.toList d):DeepT (brk b x).cps.toList (d+bit b):=by
 rw[dM]
 cases b with
 |true=>exact h.bracket
 |false=>exact h
theorem nJ {l:List Nat}(h:l.all Em=true): ∀c∈l,c≠40/\c≠41:=fun c hc=>by
 have a:=zR.mp h c hc
 constructor
 ·rintro rfl;rw[jU (by omega)] at a;cases a
 ·rintro rfl;rw[jU (by omega)] at a;cases a
theorem uj {z:Str}(h:ah z=true):z.cps.toList.all Em=true:=by
 unfold ah at h
 simp only[zI] at h
 rw[zR]
 intro c hc
 rw[g7,zR.mp h.2.1 c hc];rfl
theorem wP {z:Str}(h:Fu z=true):z.cps.toList.all Em=true:=by
 unfold Fu at h
 simp only[zI] at h
 rw[zR]
 intro c hc
 rw[g7,zR.mp h.2.2 c hc,Bool.or_true]
theorem qT:Et "+"=true:=by decide+kernel
theorem pS:Et "-"=true:=by decide+kernel
theorem rK (c:Nat)(h:c=43\/c=45\/c=42):DeepT [c] 0:=e7 fun x hx=>by
 have:x=c:=by simpa using hx
 subst this;omega
theorem max0 (a b:Nat):max (max a 0) b=max a b:=by omega
theorem kG: ∀ {e:Exp} (more:Int),Do e->Dw (wdS e more).cps.toList e (bdW e more)
 |.num n,more,h=>by
  obtain⟨h0,h9⟩:=h
  obtain⟨k,rfl⟩: ∃k:Nat,n=(k:Int):=⟨n.toNat,by omega⟩
  obtain⟨g1,g2⟩:=gR k (by omega)
  have a:AtomT (Str.ofString (toString ((k:Nat):Int))).cps.toList (.num (k:Int)) 0:=by
   have:=Fv g1
   rw[g2] at this
   exact this
  exact⟨a.prod.sum,fun _=>a.prod,fun _ _=>a,e7 (nJ (wP g1))⟩
 |.box x,more,h=>by
  have a:AtomT x.cps.toList (.box x) 0:=sQ h
  exact⟨a.prod.sum,fun _=>a.prod,fun _ _=>a,e7 (nJ (uj h))⟩
 |.bin s l r,more,h=>by
  obtain⟨hs,gl,gr⟩:=h
  have L:=kG (more / 2) gl
  have R:=kG (more / 3) gr
  have dL:=nG (b:=lBr s l more) L.deep
  have dR:=nG (b:=rBr s r more) R.deep
  have dd: ∀c,c=43\/c=45\/c=42->DeepT ((brk (lBr s l more) (wdS l (more / 2))).cps.toList++c::(brk (rBr s r more) (wdS r (more / 3))).cps.toList) (bdW (.bin s l r) more):=fun c hc=>by
   have q:=(dL.app (rK c hc)).app dR
   rw[max0] at q
   have e:(brk (lBr s l more) (wdS l (more / 2))).cps.toList++[c]++(brk (rBr s r more) (wdS r (more / 3))).cps.toList=(brk (lBr s l more) (wdS l (more / 2))).cps.toList++c::(brk (rBr s r more) (wdS r (more / 3))).cps.toList:=by simp
   rw[e] at q
   exact q
  have wl: ∀c,s=⟨#[c]⟩->(wdS (.bin s l r) more).cps.toList=(brk (lBr s l more) (wdS l (more / 2))).cps.toList++c::(brk (rBr s r more) (wdS r (more / 3))).cps.toList:=fun c hc=>by
   show (brk (lBr s l more) (wdS l (more / 2))++s++brk (rBr s r more) (wdS r (more / 3))).cps.toList=_
   rw[e8,e8]
   have:s.cps.toList=[c]:=by rw[hc]
   rw[this]
   simp
  have sumCase: ∀c,(c=43\/c=45)->s=⟨#[c]⟩->Et s=true->Dw (wdS (.bin s l r) more).cps.toList (.bin s l r) (bdW (.bin s l r) more):=fun c hc es hsum=>by
   have S:SumT (wdS (.bin s l r) more).cps.toList (.bin s l r) (bdW (.bin s l r) more):=by
    rw[wl c es]
    have q:=SumT.bin (u5 (b:=lBr s l more) L.sum) (nF (b:=rBr s r more) R.sum (fun hb=>R.prod (by
     unfold rBr at hb
     rw[AI] at hb
     exact hb.1))) hc
    rw[<-es] at q
    exact q
   have no: ¬Et (hdS (.bin s l r))=false:=fun z=>by
    have z':Et s=false:=z
    rw[hsum] at z'
    cases z'
   exact⟨S,fun z=>absurd z no,fun z=>absurd z no,by rw[wl c es];exact dd c (by omega)⟩
  rcases hs with e|e|e
  ·exact sumCase 43 (.inl rfl) (e.trans kX) (by rw[e];exact qT)
  ·exact sumCase 45 (.inr rfl) (e.trans jz) (by rw[e];exact pS)
  ·have es:s=⟨#[42]⟩:=e.trans kK
   have Pd:ProdT (wdS (.bin s l r) more).cps.toList (.bin s l r) (bdW (.bin s l r) more):=by
    rw[wl 42 es]
    have q:=ProdT.bin (nF (b:=lBr s l more) L.sum (fun hb=>L.prod (by
     unfold lBr at hb
     rw[AI,decide_eq_true e,Bs] at hb
     exact hb.1))) (sN (b:=rBr s r more) R.sum (fun hb=>by
     unfold rBr at hb
     rw[AI,AI,decide_eq_true e,Bs] at hb
     exact R.atom hb.1 (of_decide_eq_false hb.2.1)))
    rw[<-es] at q
    exact q
   exact⟨Pd.sum,fun _=>Pd,fun _ z=>absurd e z,by rw[wl 42 es];exact dd 42 (by omega)⟩
theorem i5 (b:Bool)(x:Str):(brk b x).length<=x.length+2:=by
 rw[<-aO,dM,<-aO]
 split
 ·rw[zx,zv,zU];omega
 ·omega
theorem i7: ∀ {e:Exp} (more:Int),Do e->(wdS e more).length+8<=16 * szE e
 |.num n,more,h=>by
  obtain⟨h0,h9⟩:=h
  obtain⟨k,rfl⟩: ∃k:Nat,n=(k:Int):=⟨n.toNat,by omega⟩
  obtain⟨g1,_⟩:=gR k (by omega)
  unfold Fu at g1
  simp only[zI,decide_eq_true_eq] at g1
  have:=g1.1.2
  show (Str.ofString (toString ((k:Nat):Int))).length+8<=16 * 1
  omega
 |.box x,more,h=>by
  have h:ah x=true:=h
  unfold ah at h
  simp only[zI,decide_eq_true_eq] at h
  have:=h.1.2
  show x.length+8<=16 * 1
  omega
 |.bin s l r,more,h=>by
  obtain⟨hs,gl,gr⟩:=h
  have a:=i7 (more / 2) gl
  have b:=i7 (more / 3) gr
  have c:=i5 (lBr s l more) (wdS l (more / 2))
  have d:=i5 (rBr s r more) (wdS r (more / 3))
  have ls:s.length=1:=by rcases hs with e|e|e<;>rw[e]<;>decide+kernel
  show (brk (lBr s l more) (wdS l (more / 2))++s++brk (rBr s r more) (wdS r (more / 3))).length+8<=16 * (szE l+szE r)
  rw[ph,ph,ls]
  omega
def DX (z:Str):Int:=(z.cps.toList.foldl cp (0,0)).2
structure DB (z:Str)(e:Exp)(d:Nat):Prop where
 expr:D4 z=if z.length>60\/d>5 then none else some e
 deep:DX z=(d:Int)
 len:z.length<=17000
theorem sX {z:Str}{e:Exp}{d:Nat}(h1:SumT z.cps.toList e d)(h2:DeepT z.cps.toList d)(h3:z.length<=17000):DB z e d:=by
 refine⟨h1.expr,?_,h3⟩
 unfold DX
 rw[h2 0 0 (by omega)]
 show max 0 (0+(d:Int))=d
 omega
end
section
open Wd
noncomputable def He (cell k:Int):Int:=
 if 10 ^ (18:Int).toNat<=cell then (cell - 10 ^ (18:Int).toNat) / 2 ^ (28 * k).toNat % 2 ^ (28:Int).toNat
 else ((cell+1013 * k+1) * 16807 % 2147483647) * ((cell+1013 * k+1) * 16807 % 2147483647) % 2147483629 * 39373 % 2147483587 / 8
theorem kJ (cell k:Int):0<=He cell k:=by
 unfold He
 split
 ·exact zX _ (by decide)
 ·omega
theorem cp10:De 10 18:=⟨by decide,by decide,by decide⟩
theorem cp2:De 2 28:=⟨by decide,by decide,by decide⟩
theorem qX (c k:Int)(hk:0<=k)(h:List Ob):ag [.int c,.int k] h=.ok (.int (He c k)) h:=by
 have e0:ag [.int c,.int k] h=bd (eV [some (.int c),some (.int k),none]) D6 h:=rfl
 rw[e0]
 have m1:Dc 28 k:=ly (by decide) (by decide)
 have m2':Dc 1013 k:=ly (by decide) (by decide)
 have m3:Dc (c+1013 * k+1) 16807:=rT (by decide) (by decide)
 have m4:Dc ((c+1013 * k+1) * 16807 % 2147483647) ((c+1013 * k+1) * 16807 % 2147483647):=ly (by omega) (by omega)
 have m5: ∀x:Int,Dc x 39373:=fun x=>rT (by decide) (by decide)
 unfold eV He
 by_cases hc:10 ^ (18:Int).toNat<=c
 ·simp! only[jm cp10,jm cp2,eE m1,qZ (show (0:Int)<=28 * k by omega),aj (show (0:Int)<2 ^ (28:Int).toNat by decide),decide_eq_true hc,if_pos hc]
  rfl
 ·simp! only[jm cp10,eE m2',eE m3,eE m4,eE (m5 _),aj (show (0:Int)<2147483647 by decide),aj (show (0:Int)<2147483629 by decide),aj (show (0:Int)<2147483587 by decide),aB (show (0:Int)<8 by decide) (by decide),decide_eq_false hc,if_neg hc]
  rfl
theorem bw {c k:Int}(hk:0<=k):ag [.int c,.int k]=pr (.int (He c k)):=funext fun h=>qX c k hk h
theorem pT (ns:List Int):Hj [.tl (ns.map W.int)]=pr (.int ns.sum):=by
 show (match FV iOf (ns.map W.int) with
  |some ns=>(pr (W.int ns.sum):M W)
  |none=>no)=_
 rw[gO (f:=iOf) (g:=W.int) (fun a=>rfl) ns]
theorem sapp (a b c:Str):(a++b)++c=a++(b++c):=kI (by rw[dk,dk,dk,dk,zV])
theorem GZ (a b:Str):(a++b).length=a.length+b.length:=BE
theorem adS {a b:Str}(h:a.length+b.length<=100000):DC (.str a) (.str b)=pr (.str (a++b)):=sV (sz h)
theorem lC:(("+":Str).length=1/\("-1":Str).length=2/\("n*":Str).length=2/\("2*(":Str).length=3/\("+1)":Str).length=3/\("7-":Str).length=2)/\("say ":Str).length=4/\("ask ":Str).length=4/\("put ":Str).length=4/\(" ":Str).length=1/\("go ":Str).length=3/\("if ":Str).length=3/\(" else ":Str).length=6/\("block ":Str).length=6:=by decide+kernel
theorem EJ:(("say ":Str)= "say"++⟨#[32]⟩/\("ask ":Str)= "ask"++⟨#[32]⟩/\("put ":Str)= "put"++⟨#[32]⟩/\("go ":Str)= "go"++⟨#[32]⟩)/\("if ":Str)= "if"++⟨#[32]⟩/\(" else ":Str)=⟨#[32]⟩++("else"++⟨#[32]⟩)/\("block ":Str)= "block"++⟨#[32]⟩/\(" < ":Str)=⟨#[32]⟩++("<"++⟨#[32]⟩)/\(" = ":Str)=⟨#[32]⟩++("="++⟨#[32]⟩):=by decide+kernel
theorem vX (z:Str)(e:Exp):(Rr.say z e).tx= "say "++z:=by rw[EJ.1.1];rfl
theorem xX (z:Str):(Rr.ask z).tx= "ask "++z:=by rw[EJ.1.2.1];rfl
theorem v5 (x z:Str)(e:Exp):(Rr.put x z e).tx= "put "++x++ " "++z:=by
 rw[EJ.1.2.2.1,mj]
 show "put"++⟨#[32]⟩++(x++⟨#[32]⟩++z)=_
 simp only[sapp]
theorem yP (z:Str):(Rr.go z).tx= "go "++z:=by rw[EJ.1.2.2.2];rfl
theorem sR (z:Str):(Rr.block z).tx= "block "++z:=by rw[EJ.2.2.2.1];rfl
theorem mQ (ns:List Int)(k:Int): ∃c:Int,cH [.cl (ns.map W.int),.int k]=pr (.int c):=by
 have e0:cH [.cl (ns.map W.int),.int k]=bd (eY [some (.cl (ns.map W.int)),some (.int k)]) D6:=rfl
 refine⟨(F9 ns (some k) (some 63) 11).sum,?_⟩
 rw[e0]
 unfold eY
 have sl:G0 (.cl (ns.map W.int)) (some k) (some 63) (some 11)=pr (.tl ((F9 ns (some k) (some 63) 11).map W.int)):=by
  show gd ((1:Int)<=11) (bd (pr (ns.map W.int)) fun l=>pr (W.tl (F9 l (some k) (some 63) 11)))=_
  rw[af (by decide)]
  show pr _=_
  rw[rp]
 simp! only[aa,E9,sl,pT]
noncomputable def LTS:Str:= "abcdefghijklmnopqrstuvwxyz"
theorem pb: ∀v,v<26->LTS.cps.toList[v]?=some (97+v):=by decide+kernel
theorem o9:LTS.length=26:=by decide+kernel
theorem lett (x:Int): ∃c,Er c=true/\ixW (.str LTS) (.int (x % 26))=pr (.str ⟨#[c]⟩):=by
 have a0:=zX x (show (26:Int)≠0 by decide)
 have a1:=z6 x (show (0:Int)<26 by decide)
 exact⟨97+(x % 26).toNat,Es.mpr ⟨by omega,by omega⟩,eR (by rw[o9];exact sz (by omega)) (aE a0 (pb _ (by omega)))⟩
structure Lts (z:Str):Prop where
 l:z.cps.toList.all Er=true
 l1:1<=z.length
 l8:z.length<=8
theorem Lts.name {z:Str}(g:Lts z)(h:z ∉ Hu):ah z=true:=by
 unfold ah
 rw[decide_eq_true ⟨g.l1,g.l8⟩,g.l,decide_eq_false h];rfl
theorem pp: ∀cs:List Nat,(Str.join ⟨#[]⟩ (cs.map fun c=>(⟨#[c]⟩:Str))).cps.toList=cs
 |[]=>rfl
 |[c]=>rfl
 |c::d::cs=>by
  have ih:=pp (d::cs)
  show ((⟨#[c]⟩:Str)++⟨#[]⟩++Str.join ⟨#[]⟩ ((d::cs).map fun c=>(⟨#[c]⟩:Str))).cps.toList=_
  rw[dk,dk,ih];rfl
theorem uL (z:Str):z.cps.toList.length=z.length:=rfl
theorem vE: ∀i,i<12->Lts ("zz"++⟨#[97+i]⟩:Str)/\(("zz"++⟨#[97+i]⟩:Str) ∉ Hu):=fun i hi=>by
 have h: ∀i,i<12->((("zz"++⟨#[97+i]⟩:Str)).cps.toList.all Er=true/\("zz"++⟨#[97+i]⟩:Str).length=3)/\(("zz"++⟨#[97+i]⟩:Str) ∉ Hu):=by decide+kernel
 obtain⟨⟨a,b⟩,c⟩:=h i hi
 exact⟨⟨a,by omega,by omega⟩,c⟩
noncomputable def zzL:List Str:=(List.range 12).map fun i=> "zz"++⟨#[97+i]⟩
theorem x6:zzL.Nodup:=by decide+kernel
theorem vD:("zz":Str).length=2:=by decide+kernel
theorem rm1 {x:Str}: ∀ {L:List Str},L.Nodup->L.length<=(L.filter fun z=>!decide (z=x)).length+1
 |[],_=>zL _
 |y::L,nd=>by
  obtain⟨n1,n2⟩:=Ar.mp nd
  by_cases e:y=x
  ·subst e
   rw[AS (by simp),A2.mpr fun z hz=>by simp;exact fun e=>n1 (e▸hz)]
   exact zu _
  ·rw[AR (by simp [e]),zx,zx]
   have:=rm1 (x:=x) n2
   omega
theorem rmL {zs:List Str}(nd:zs.Nodup): ∀l:List Str,zs.length<=(zs.filter fun z=>!decide (z∈l)).length+l.length
 |[]=>by rw[A2.mpr fun z _=>by simp];exact zu _
 |x::l=>by
  have ih:=rmL nd l
  have h:=rm1 (x:=x) (nd.filter fun z=>!decide (z∈l))
  have e:(zs.filter fun z=>!decide (z∈l)).filter (fun z=>!decide (z=x))=zs.filter fun z=>!decide (z∈x::l):=by
   rw[List.filter_filter]
   congr 1
   funext z
   by_cases a:z=x<;>by_cases b:z∈l<;>simp [a,b]
  rw[e] at h
  rw[zx]
  omega
theorem sW {l:List Str}(nd:l.Nodup)(h9:l.length<=9){v:Int}(h0:0<=v)(h1:v<2): ∃z,Lts z/\z ∉ Hu/\z ∉ l/\ixW (.tl ((zzL.filter fun z=>!decide (z∈l)).map W.str)) (.int v)=pr (.str z):=by
 have ll:=rmL x6 l
 have l12:zzL.length=12:=rfl
 have hv:v.toNat<(zzL.filter fun z=>!decide (z∈l)).length:=by omega
 have hm:=List.getElem_mem hv
 generalize hz:(zzL.filter fun z=>!decide (z∈l))[v.toNat]=z at hm
 obtain⟨m1,m2⟩:=AE.mp hm
 obtain⟨i,hi,rfl⟩:=zE.mp m1
 obtain⟨g1,g2⟩:=vE i (List.mem_range.mp hi)
 refine⟨_,g1,g2,by simpa using m2,bt (aE h0 ?_)⟩
 rw[zG,Ah hv,hz];rfl
def bZ:Dl->M Fl:=(GG 11 (m2 ixW (mTl (EX [] (Fb (mTl (EX [] (Fc (EY (mC (.int 12)) E5) Gn) (tgN 0) Fg (m2 DC (mC (.str "zz")) (m2 ixW (Ff 5) (Ff 0))) 2)) G9) (tgN 0) (mB (m2 b7 (Ff 0) (Ff 9))) (Ff 0) 2)) (m2 Fj (m2 D5 (Ff 9) (mC (.int 832))) (mC (.int 2)))))
def bN:Dl->M Fl:=(GF (sIf (mOr (mB (m2 inW (Ff 11) (Ff 7))) (mB (m2 inW (Ff 11) (Ff 4)))) bZ GC) (sEx (E3 isL aU (Ff 7) (EY (Ff 11) E5))))
theorem iM:dW=(GF (GG 3 (mC (.str "abcdefghijklmnopqrstuvwxyz"))) (GF (GG 4 (mTl (EO (EY (mC (.str "box")) (EY (mC (.str "block")) (EY (mC (.str "put")) (EY (mC (.str "say")) (EY (mC (.str "ask")) (EY (mC (.str "go")) (EY (mC (.str "if")) (EY (mC (.str "else")) (EY (mC (.str "table")) (EY (mC (.str "stop")) E5))))))))))))) (GF (GG 5 (m2 DC (mC (.int 1)) (m2 Fj (EW (arW 2 ag) (EY (Ff 0) (EY (Ff 1) E5))) (mC (.int 8))))) (GF (GG 6 (E3 isS EE (mC (.str "")) (EY (mTl (EX [] (Fc (EY (Ff 5) E5) Gn) (tgN 0) Fg (m2 ixW (Ff 5) (m2 Fj (EW (arW 2 ag) (EY (Ff 2) (EY (m2 DC (m2 DC (Ff 3) (mC (.int 1))) (Ff 0)) E5))) (mC (.int 26)))) 2)) E5))) (GF (GG 7 (E4 (EO E5))) (GF (GB (Fc (EY (Ff 2) E5) Gn) (tgN 8) (GF (GG 9 (EW (arW 2 ag) (EY (Ff 0) (EY (m2 DC (m2 DC (Ff 1) (mC (.int 9))) (Ff 8)) E5)))) (GF (GG 10 (m2 Fj (Ff 9) (Ff 5))) (GF (GG 11 (m2 DC (m2 DC (m3 slW (Ff 6) aA (E8 (Ff 10))) (m2 ixW (Ff 3) (m2 Fj (m2 D5 (Ff 9) (mC (.int 8))) (mC (.int 26))))) (m3 slW (Ff 6) (E8 (m2 DC (Ff 10) (mC (.int 1)))) aA))) (GF (sIf (mB (m2 eqW (m2 Fj (m2 D5 (Ff 9) (mC (.int 208))) (mC (.int 4))) (mC (.int 0)))) (GG 11 (m3 slW (Ff 6) aA (E8 (m2 DC (Ff 10) (mC (.int 1)))))) GC) bN))))) (GD (m1 Eh (Ff 7))))))))):=rfl
theorem y4 {h:List Ob}{j:Nat}{l:List Str}{n:Int}(a0 a1 a2 a4 a5 a6 a8 a10 a11:Option W)(e:h[j]?=some (.lst (l.map W.str)))(nd:l.Nodup)(h9:l.length<=9)(n0:0<=n):
  Ok (bZ [a0,a1,a2,some (.str LTS),a4,a5,a6,some (.loc j),a8,some (.int n),a10,a11]) h fun x h'=>(∃y,x=.nx [a0,a1,a2,some (.str LTS),a4,a5,a6,some (.loc j),a8,some (.int n),a10,some (.str y)]/\y ∉ l/\ah y=true)/\h'=h:=by
 unfold bZ
 have v0:=zX (n / 832) (show (2:Int)≠0 by decide)
 have v1:=z6 (n / 832) (show (0:Int)<2 by decide)
 obtain⟨y,y1,y2,y3,ey⟩:=sW nd h9 v0 v1
 simp! only[aa,fX (show (-(2 ^ 62):Int)<=12 by decide) (show (12:Int)<2 ^ 62 by decide)]
 refine cx (I:=fun i a h'=>h'=h/\a=(zzL.take i).map W.str) ⟨rfl,rfl⟩ dy (fun _ _ _ _=>trivial) (fun i w a h' hw I=>?_) fun a h' I=>?_
 ·obtain⟨rfl,rfl⟩:=I
  obtain⟨rfl,hi⟩:=dI _ _ _ _ hw
  have hi:i<12:=hi
  refine⟨_,rfl,?_⟩
  have il:ixW (.str LTS) (.int (0+(i:Int)))=pr (.str ⟨#[97+i]⟩):=eR (by rw[o9];exact sz (by omega)) (aE (by omega) (by rw[show (0+(i:Int)).toNat=i by omega];exact pb i (by omega)))
  simp! only[List.replicate,Ac,z0,aa,il,adS (a:= "zz") (b:=(⟨#[97+i]⟩:Str)) (by rw[vD];show 2+1<=_;omega)]
  refine ak ⟨rfl,?_⟩
  have:zzL[i]?=some ("zz"++(⟨#[97+i]⟩:Str):Str):=by unfold zzL;rw[zG,List.getElem?_range hi];rfl
  rw[Ae,this,zw];rfl
 ·obtain⟨rfl,rfl⟩:=I
  rw[dt]
  have e12:zzL.take (12:Int).toNat=zzL:=rfl
  rw[e12]
  have gl: ∀ {α:Type} (q:M α),gd ((zzL.map W.str).length<=sizeLine) q=q:=fun q=>af (by rw[zr];exact sz (by decide))
  simp! only[aa,bX,gl]
  refine ju (I:=fun i a h2=>h2=h'/\a=((zzL.take i).filter fun z=>!decide (z∈l)).map W.str) ⟨rfl,rfl⟩ (fun _ _ _ _=>trivial) (fun i w a h2 hw I=>?_) fun a h2 I=>?_
  ·obtain⟨rfl,rfl⟩:=I
   rw[zG] at hw
   obtain⟨x,hx,rfl⟩:=zM.mp hw
   refine⟨_,rfl,?_⟩
   simp! only[List.replicate,Ac,z0,aa]
   refine mD e ?_
   simp!
   have et:(zzL.take (i+1)).filter (fun z=>!decide (z∈l))=(zzL.take i).filter (fun z=>!decide (z∈l))++[x].filter (fun z=>!decide (z∈l)):=by rw[Ae,hx,BO];rfl
   by_cases hm:x∈l
   ·rw[decide_eq_true hm]
    refine ak (.inl ⟨rfl,rfl,?_⟩)
    rw[et,AS (by simp [hm]),A4,zZ]
   ·rw[decide_eq_false hm]
    refine ak (.inr ⟨rfl,ak ⟨rfl,?_⟩⟩)
    rw[et,AR (by simp [hm]),A4,zw];rfl
  ·obtain⟨rfl,rfl⟩:=I
   rw[zr,Ab]
   simp! only[aa,aB (show (0:Int)<832 by decide) (by decide),aj (show (0:Int)<2 by decide),ey]
   exact ak ⟨⟨y,rfl,y3,y1.name y2⟩,rfl⟩
theorem y8 {h:List Ob}{j:Nat}{l:List Str}{z:Str}{n:Int}(a0 a1 a2 a5 a6 a8 a10:Option W)(e:h[j]?=some (.lst (l.map W.str)))(g:Lts z)(nd:l.Nodup)(h9:l.length<=9)(n0:0<=n):
  Ok (bN [a0,a1,a2,some (.str LTS),some (.tl (Hu.map W.str)),a5,a6,some (.loc j),a8,some (.int n),a10,some (.str z)]) h fun x h'=> ∃y,x=.nx [a0,a1,a2,some (.str LTS),some (.tl (Hu.map W.str)),a5,a6,some (.loc j),a8,some (.int n),a10,some (.str y)]/\y ∉ l/\ah y=true/\h'=h.set j (.lst ((l++[y]).map W.str)):=by
 have z9:(l.map W.str).length<sizeLine:=by rw[zr];exact Ai h9 (by decide)
 have fin: ∀y:Str,Ob.lst (l.map W.str++[W.str y])=.lst ((l++[y]).map W.str):=fun y=>by rw[zw];rfl
 have bz:=y4 a0 a1 a2 (some (.tl (Hu.map W.str))) a5 a6 a8 a10 (some (.str z)) e nd h9 n0
 unfold bN
 generalize hT:W.tl (Hu.map W.str)=T at *
 have it:inW (.str z) T=pr (.bl (decide (z∈Hu))):=by rw[<-hT];exact iY
 simp!
 refine vm e ?_
 by_cases c:z∈l
 ·simp! only[aa,decide_eq_true c]
  refine aV bz fun x h' qq_=>?_
  obtain⟨⟨y,ex,y1,y2⟩,eh⟩:=qq_
  subst ex eh
  simp!
  refine cQ e ?_
  simp!
  refine cR e z9 ?_
  simp!
  exact ak ⟨y,rfl,y1,y2,by rw[fin]⟩
 ·by_cases c2:z∈Hu
  ·simp! only[aa,decide_eq_false c,it,decide_eq_true c2]
   refine aV bz fun x h' qq_=>?_
   obtain⟨⟨y,ex,y1,y2⟩,eh⟩:=qq_
   subst ex eh
   simp!
   refine cQ e ?_
   simp!
   refine cR e z9 ?_
   simp!
   exact ak ⟨y,rfl,y1,y2,by rw[fin]⟩
  ·simp! only[aa,decide_eq_false c,it,decide_eq_false c2]
   refine cQ e ?_
   simp!
   refine cR e z9 ?_
   simp!
   exact ak ⟨z,rfl,c,g.name c2,by rw[fin]⟩
theorem kj {h:List Ob}(hd k:Int){many:Nat}{MM:Int}(hM:MM=(many:Int))(h10:many<=10)(k0:0<=k):Ok (ci [.int hd,.int k,.int MM]) h fun w h'=>(∃l:List Str,w=.tl (l.map W.str)/\l.length=many/\l.Nodup/\ ∀x∈l,ah x=true)/\Fo h.length h h':=by
 have e0:ci [.int hd,.int k,.int MM]=bd (dW [some (.int hd),some (.int k),some (.int MM),none,none,none,none,none,none,none,none,none]) D6:=rfl
 rw[e0,iM]
 have a0:=zX (He hd k) (show (8:Int)≠0 by decide)
 have a1:=z6 (He hd k) (show (0:Int)<8 by decide)
 obtain⟨N,hN⟩: ∃N:Int,N=1+He hd k % 8:=⟨_,rfl⟩
 have n1:1<=N:=by omega
 have n8:N<=8:=by omega
 have eT: ∀ (n:Nat),n=0->W.tl [.str "box",.str "block",.str "put",.str "say",.str "ask",.str "go",.str "if",.str "else",.str "table",.str "stop"]=.tl (Hu.map W.str):=fun _ _=>rfl
 simp! only[aa,bw k0,aj (show (0:Int)<8 by decide)]
 rw[<-hN,eT 0 rfl]
 generalize hT:W.tl (Hu.map W.str)=T at *
 have gN: ∀ {α:Type} (q:M α),gd ((El 0 N.toNat).length<=sizeLine) q=q:=fun q=>af (by rw[dt];exact sz (by omega))
 simp! only[aa,fX (show (-(2 ^ 62):Int)<=N by omega) (show N<2 ^ 62 by omega),gN]
 refine cx (I:=fun i a h'=>h'=h/\ ∃cs:List Nat,a=(cs.map fun c=>(⟨#[c]⟩:Str)).map W.str/\cs.length=i/\cs.all Er=true) ⟨rfl,[],rfl,rfl,rfl⟩ dy (fun _ _ _ _=>trivial) (fun i w a h' hw I=>?_) fun a h' I=>?_
 ·obtain⟨rfl,cs,rfl,rfl,ca⟩:=I
  obtain⟨rfl,hi⟩:=dI _ _ _ _ hw
  refine⟨_,rfl,?_⟩
  obtain⟨c,hc,ec⟩:=lett (He hd (k+1+(0+(cs.length:Int))))
  simp! only[List.replicate,Ac,z0,aa,bw (show (0:Int)<=k+1+(0+(cs.length:Int)) by omega),aj (show (0:Int)<26 by decide)]
  have ec:ixW (.str "abcdefghijklmnopqrstuvwxyz") (.int (He hd (k+1+(0+(cs.length:Int))) % 26))=pr (.str ⟨#[c]⟩):=ec
  rw[ec]
  refine ak ⟨rfl,cs++[c],?_,by simp,by rw[Bw,ca];simp [hc]⟩
  rw[zw,zw];rfl
 obtain⟨rfl,cs,rfl,lc,ca⟩:=I
 rw[dt] at lc
 have jw:EE (.str "") [.tl ((cs.map fun c=>(⟨#[c]⟩:Str)).map W.str)]=pr (.str (Str.join "" (cs.map fun c=>(⟨#[c]⟩:Str)))):=g0 (sz (by
  have e1:("":Str).length=0:=rfl
  have e2:((cs.map fun c=>(⟨#[c]⟩:Str)).map (·.length)).sum=cs.length:=by
   rw[Aj]
   clear lc ca
   induction cs with
   |nil=>rfl
   |cons c cs ih=>rw[zD,Av,ih,zx];show 1+_=_;omega
  rw[e1,e2,Nat.mul_zero];omega))
 have js:(Str.join "" (cs.map fun c=>(⟨#[c]⟩:Str))).cps.toList=cs:=pp cs
 generalize (cs.map fun c=>(⟨#[c]⟩:Str))=ss at *
 generalize Str.join "" ss=S at *
 have lS:S.length=N.toNat:=by rw[<-uL,js];exact lc
 simp! only[aa,jw]
 refine gC ?_
 have eM:MM.toNat=many:=by omega
 simp! only[aa,fX (show (-(2 ^ 62):Int)<=MM by omega) (show MM<2 ^ 62 by omega)]
 refine fY (I:=fun i ρ h1=> ∃b c d e,∃l:List Str,ρ=[some (.int hd),some (.int k),some (.int MM),some (.str LTS),some T,some (.int N),some (.str S),some (.loc h'.length),b,c,d,e]/\h1.length=h'.length+1/\(∀j,j<h'.length->h1[j]?=h'[j]?)/\h1[h'.length]?=some (.lst (l.map W.str))/\l.length=i/\l.Nodup/\ ∀x∈l,ah x=true) ⟨_,_,_,_,[],rfl,by simp,fun j hj=>Aa hj,gh,rfl,List.nodup_nil,fun x hx=>absurd hx zQ⟩ (fun _ _ _ _=>trivial) (fun i w ρ h1 hw I=>?_) fun ρ h1 I=>?_
 ·obtain⟨b,c,d,e,l,rfl,l1,q1,q2,rfl,nd,na⟩:=I
  obtain⟨rfl,hi⟩:=dI _ _ _ _ hw
  rw[eM] at hi
  refine⟨_,rfl,?_⟩
  obtain⟨n,hn⟩: ∃n:Int,n=He hd (k+9+(0+(l.length:Int))):=⟨_,rfl⟩
  have n0:0<=n:=by rw[hn];exact kJ _ _
  obtain⟨at',hat⟩: ∃v:Int,v=n % N:=⟨_,rfl⟩
  have t0:0<=at':=by rw[hat];exact zX _ (by omega)
  have t1:at'<N:=by rw[hat];exact z6 _ (by omega)
  obtain⟨lc',hl,el⟩:=lett (n / 8)
  have lS':S.cps.toList.length=N.toNat:=lS
  have zS:S.length<=sizeLine:=by rw[lS];exact sz (by omega)
  have s1:=StrLaws.sliceText_to (x:=S) (j:=at') ⟨t0,by omega⟩
  have s2:=StrLaws.sliceText_from (x:=S) (i:=at'+1) ⟨by omega,by omega⟩
  have s3:=StrLaws.sliceText_to (x:=S) (j:=at'+1) ⟨by omega,by omega⟩
  have sub: ∀ {a:List Nat},(∀x∈a,x∈S.cps.toList)->a.all Er=true:=fun h=>zR.mpr fun x hx=>zR.mp ca x (js▸h x hx)
  have g3:Lts (StrLaws.sliceText S none (some (at'+1))):=by
   rw[s3]
   refine⟨sub fun x hx=>Bx (Ay hx),?_,?_⟩
   ·show 1<=(List.take (at'+1 - 0).toNat (List.drop 0 S.cps.toList)).length
    rw[z7,Aw];omega
   ·show (List.take (at'+1 - 0).toNat (List.drop 0 S.cps.toList)).length<=8
    rw[z7,Aw];omega
  have la:(StrLaws.sliceText S none (some at')).length=at'.toNat:=by
   rw[s1]
   show (List.take (at' - 0).toNat (List.drop 0 S.cps.toList)).length=_
   rw[z7,Aw];omega
  have lb:(StrLaws.sliceText S (some (at'+1)) none).length=N.toNat - 1 - at'.toNat:=by
   rw[s2]
   show (List.take _ (List.drop (at'+1).toNat S.cps.toList)).length=_
   rw[z7,Al];omega
  have lo:(⟨#[lc']⟩:Str).length=1:=rfl
  have g4:Lts (StrLaws.sliceText S none (some at')++⟨#[lc']⟩++StrLaws.sliceText S (some (at'+1)) none):=by
   refine⟨?_,by rw[GZ,GZ];omega,by rw[GZ,GZ];omega⟩
   rw[dk,dk,Bw,Bw,s1,s2,sub (fun x hx=>Bx (Ay hx)),sub (fun x hx=>Bx (Ay hx))]
   show (true && [lc'].all Er && true)=true
   simp [hl]
  have w1:=kN (z:=S) (lo:=none) (hi:=some at') zS
  have w2:=kN (z:=S) (lo:=some (at'+1)) (hi:=none) zS
  have w3:=kN (z:=S) (lo:=none) (hi:=some (at'+1)) zS
  generalize StrLaws.sliceText S none (some at')=X1 at *
  generalize StrLaws.sliceText S (some (at'+1)) none=X2 at *
  generalize StrLaws.sliceText S none (some (at'+1))=X3 at *
  have el:ixW (.str LTS) (.int (n / 8 % 26))=pr (.str ⟨#[lc']⟩):=el
  have tail: ∀ {z:Str} (a10:Option W),Lts z->Ok (bN [some (.int hd),some (.int k),some (.int MM),some (.str LTS),some T,some (.int N),some (.str S),some (.loc h'.length),some (.int (0+(l.length:Int))),some (.int n),a10,some (.str z)]) h1 fun x h2=> ∃r',x=.nx r'/\ ∃b c d e,∃l2:List Str,r'=[some (.int hd),some (.int k),some (.int MM),some (.str LTS),some T,some (.int N),some (.str S),some (.loc h'.length),b,c,d,e]/\h2.length=h'.length+1/\(∀j,j<h'.length->h2[j]?=h'[j]?)/\h2[h'.length]?=some (.lst (l2.map W.str))/\l2.length=l.length+1/\l2.Nodup/\ ∀x∈l2,ah x=true:=fun{z} a10 g=>by
   rw[<-hT]
   refine (y8 _ _ _ _ _ _ a10 q2 g nd (by omega) n0).imp fun x h2 qz=>?_
   obtain⟨y,ex,y1,y2,eh⟩:=qz
   subst eh
   refine⟨_,ex,_,_,_,_,l++[y],rfl,by rw[zW];exact l1,fun j hj=>by rw[zt (by omega)];exact q1 j hj,ck q2,by simp,?_,fun x hx=>?_⟩
   ·rw[AL]
    refine⟨nd,by simp,fun a ha b hb e=>y1 ?_⟩
    have hb:b=y:=by simpa using hb
    exact hb▸e▸ha
   ·rcases zY.mp hx with hx|hx
    ·exact na x hx
    ·rw[zT.mp hx];exact y2
  simp! only[aa,bw (show (0:Int)<=k+9+(0+(l.length:Int)) by omega)]
  rw[<-hn]
  simp! only[aa,aj (show 0<N by omega)]
  rw[<-hat]
  simp! only[aa,w1,w2,w3,aB (show (0:Int)<8 by decide) (by decide),aB (show (0:Int)<208 by decide) (by decide),aj (show (0:Int)<26 by decide),aj (show (0:Int)<4 by decide),el,adS (a:=X1) (b:=(⟨#[lc']⟩:Str)) (by omega),adS (a:=X1++⟨#[lc']⟩) (b:=X2) (by rw[GZ];omega)]
  by_cases c4:n / 208 % 4=0
  ·simp! only[aa,decide_eq_true c4,w3]
   exact tail _ g3
  ·simp! only[aa,decide_eq_false c4]
   exact tail _ g4
 ·obtain⟨b,c,d,e,l,rfl,l1,q1,q2,ll,nd,na⟩:=I
  rw[dt,eM] at ll
  simp!
  refine lj q2 ?_
  simp!
  exact ak ⟨⟨l,rfl,ll,nd,na⟩,fun i hi=>by rw[zt (by omega)];exact q1 i hi,by rw[zW,l1];omega⟩
end
section
open Wd
theorem o8 {l:List W}(p:∀x∈l,Pd 49 x):neW (.tl l) (.tl [])=pr (.bl (!l.isEmpty)):=by
 funext h
 obtain⟨ds,e,c⟩:=gP (h:=h) l fun x hx=>(p x hx).data
 have d1:DV h 50 (.tl l)=some (.list ds):=by
  show (FV (DV h 49) l).map C9.list=_
  rw[e];rfl
 have d2:DV h 50 (.tl [])=some (.list []):=rfl
 have ee:eqB (.tl l) (.tl []) h=some l.isEmpty:=by
  unfold eqB
  rw[show vOf (.tl l)=none from rfl]
  dsimp only
  rw[d1,d2]
  dsimp only
  rw[if_pos ⟨by rw[C9.canLay0];exact c,by rw[C9.canLay0];rfl⟩,C9.eqv]
  cases l with
  |nil=>
   cases e
   rw[C9.eqvAll];rfl
  |cons x l=>
   cases ds with
   |nil=>
    unfold FV at e
    split at e
    ·cases e
    ·cases e
   |cons d ds=>rw[C9.eqvAll]<;>simp
 unfold neW
 rw[ee];rfl
theorem qW {z:Str}(h:∀c∈z.cps.toList,c<1114112):C9.strOk z=true:=by
 unfold C9.strOk
 rw[<-Array.all_toList,zR]
 exact fun c hc=>decide_eq_true (h c hc)
theorem eQ {z:Str}(h:ah z=true):C9.strOk z=true:=by
 unfold ah at h
 simp only[zI,zR] at h
 exact qW fun c hc=>by have:=(Es.mp (h.2.1 c hc)).2;omega
theorem my {ns:List Str}{n:Nat}(h:∀x∈ns,ah x=true): ∀x∈ns.map W.str,Pd (n+1) x:=fun x hx=>by
 obtain⟨z,hz,rfl⟩:=zE.mp hx
 exact .str (eQ (h z hz))
structure EG (ns:List Str)(d:Nat)(e:Exp):Prop where
 g:Do e
 n: ∀x∈D1 e,x∈ns
 dp:D0 e<=d
 s:szE e<=2 ^ d
theorem vH {v:Int}(h0:0<=v)(h1:v<2): ∃m:Int,ixW (.tl [.int 10,.int 1000]) (.int v)=pr (.int m)/\0<m/\m<=1000:=by
 have:v=0\/v=1:=by omega
 rcases this with rfl|rfl
 ·exact⟨10,bt rfl,by decide,by decide⟩
 ·exact⟨1000,bt rfl,by decide,by decide⟩
theorem Fs {ns:List Str}{x N:Int}(hN:N=(ns.length:Int))(l1:1<=ns.length): ∃s∈ns,ixW (.tl (ns.map W.str)) (.int (x % N))=pr (.str s):=by
 have a0:=zX x (show N≠0 by omega)
 have a1:=z6 x (show 0<N by omega)
 have hi:(x % N).toNat<ns.length:=by omega
 exact⟨ns[(x % N).toNat],List.getElem_mem _,bt (aE a0 (by rw[zG,Ah hi];rfl))⟩
theorem uM {ns:List Str}(n:Int)(nm: ∀x∈ns,ah x=true)(l4:ns.length<=4)(d:Nat): ∃e,eZ [.int n,.tl (ns.map W.str)]=pr (D3 e)/\EG ns d e:=by
 have e0:eZ [.int n,.tl (ns.map W.str)]=bd (eW [some (.int n),some (.tl (ns.map W.str))]) D6:=rfl
 rw[e0]
 unfold eW
 have ne:=o8 (my (n:=48) nm)
 have v0:=zX (n / 2) (show (5:Int)≠0 by decide)
 have v1:=z6 (n / 2) (show (0:Int)<5 by decide)
 obtain⟨m,em,m0,m1⟩:=vH (v:=n / 2 % 5 / 4) (by omega) (by omega)
 have w0:=zX (n / 10) (show m≠0 by omega)
 have w1:=z6 (n / 10) m0
 have p2:1<=2 ^ d:=Nat.one_le_two_pow
 have num:EG ns d (.num (n / 10 % m)):=⟨⟨w0,by omega⟩,fun x hx=>absurd hx zQ,zL _,p2⟩
 obtain⟨N,hN⟩: ∃N:Int,N=(ns.length:Int):=⟨_,rfl⟩
 have eL:EQ [.tl (ns.map W.str)]=pr (.int N):=by rw[lenW_tl,zr,hN]
 by_cases c:n % 2=0
 ·cases hs:ns with
  |nil=>
   subst hs
   refine⟨_,?_,num⟩
   have ne:neW (.tl (([]:List Str).map W.str)) (.tl [])=pr (.bl false):=ne
   simp! only[aa,aj (show (0:Int)<2 by decide),decide_eq_true c,ne,aB (show (0:Int)<2 by decide) (by decide),aj (show (0:Int)<5 by decide),aB (show (0:Int)<4 by decide) (by decide),aB (show (0:Int)<10 by decide) (by decide),em,aj m0]
   rfl
  |cons a r=>
   obtain⟨s,hm,ei⟩:=Fs (x:=n / 2) hN (by rw[hs];simp)
   have ne:neW (.tl (ns.map W.str)) (.tl [])=pr (.bl true):=by rw[ne,hs];rfl
   rw[<-hs]
   refine⟨.box s,?_,nm s hm,fun x hx=>by rw[zT.mp hx];exact hm,zL _,p2⟩
   have N0:0<N:=by rw[hN,hs];simp
   generalize W.tl (ns.map W.str)=T at *
   simp! only[aa,aj (show (0:Int)<2 by decide),decide_eq_true c,ne,aB (show (0:Int)<2 by decide) (by decide),eL,aj N0,ei]
   rfl
 ·refine⟨_,?_,num⟩
  generalize W.tl (ns.map W.str)=T at *
  simp! only[aa,aj (show (0:Int)<2 by decide),decide_eq_false c,aB (show (0:Int)<2 by decide) (by decide),aj (show (0:Int)<5 by decide),aB (show (0:Int)<4 by decide) (by decide),aB (show (0:Int)<10 by decide) (by decide),em,aj m0]
  rfl
theorem sgn3 {v:Int}(h0:0<=v)(h1:v<3): ∃s:Str,ixW (.str "+-*") (.int v)=pr (.str s)/\(s= "+"\/s= "-"\/s= "*"):=by
 have:v=0\/v=1\/v=2:=by omega
 have l3:("+-*":Str).length<=sizeLine:=sz (show 3<=_ by omega)
 rcases this with rfl|rfl|rfl
 ·exact⟨"+",by rw[kX];exact eR l3 (by decide+kernel),.inl rfl⟩
 ·exact⟨"-",by rw[jz];exact eR l3 (by decide+kernel),.inr (.inl rfl)⟩
 ·exact⟨"*",by rw[kK];exact eR l3 (by decide+kernel),.inr (.inr rfl)⟩
theorem kF {ns:List Str}(c:Int)(nm: ∀x∈ns,ah x=true)(l4:ns.length<=4): ∀ (m d:Nat) (k:Int) (D:Int),D=(d:Int)->d<m->0<=k-> ∃e,cG m [.int c,.int k,.int D,.tl (ns.map W.str)]=pr (D3 e)/\EG ns d e
 |0,d,k,D,_,h,_=>absurd h (AK _)
 |m+1,d,k,D,hD,hm,k0=>by
  have e0:cG (m+1) [.int c,.int k,.int D,.tl (ns.map W.str)]=bd (eU (cG m) [some (.int c),some (.int k),some (.int D),some (.tl (ns.map W.str)),none,none,none]) D6:=rfl
  rw[e0]
  unfold eU
  obtain⟨n,hn⟩: ∃n:Int,n=He c k:=⟨_,rfl⟩
  have st:=bw (c:=c) k0
  rw[<-hn] at st
  obtain⟨e1,h1,g1⟩:=uM (n / 3) nm l4 d
  by_cases c0:D=0\/n % 3=0
  ·refine⟨e1,?_,g1⟩
   generalize W.tl (ns.map W.str)=T at *
   by_cases cD:D=0
   ·simp! only[aa,st,decide_eq_true cD,aB (show (0:Int)<3 by decide) (by decide),h1]
   ·have c3:n % 3=0:=c0.resolve_left cD
    simp! only[aa,st,decide_eq_false cD,aj (show (0:Int)<3 by decide),decide_eq_true c3,aB (show (0:Int)<3 by decide) (by decide),h1]
  ·have cD: ¬D=0:=fun z=>c0 (.inl z)
   have c3: ¬n % 3=0:=fun z=>c0 (.inr z)
   have v0:=zX (n / 3) (show (3:Int)≠0 by decide)
   have v1:=z6 (n / 3) (show (0:Int)<3 by decide)
   obtain⟨s,es,hs⟩:=sgn3 v0 v1
   obtain⟨d,rfl⟩: ∃d',d=d'+1:=⟨d - 1,by omega⟩
   obtain⟨l,hl,gl⟩:=kF c nm l4 m d (2 * k+1) (D - 1) (by omega) (by omega) (by omega)
   obtain⟨r,hr,gr⟩:=kF c nm l4 m d (2 * k+2) (D - 1) (by omega) (by omega) (by omega)
   refine⟨.bin s l r,?_,⟨hs,gl.g,gr.g⟩,fun x hx=>?_,?_,?_⟩
   ·generalize W.tl (ns.map W.str)=T at *
    simp! only[aa,st,decide_eq_false cD,aj (show (0:Int)<3 by decide),decide_eq_false c3,aB (show (0:Int)<3 by decide) (by decide),es,eE (ly (i:=2) (j:=k) (by decide) (by decide)),hl,hr]
    rfl
   ·rcases zY.mp hx with hx|hx
    ·exact gl.n x hx
    ·exact gr.n x hx
   ·have:=gl.dp;have:=gr.dp
    show 1+max (D0 l) (D0 r)<=d+1
    omega
   ·have:=gl.s;have:=gr.s
    show szE l+szE r<=2 ^ (d+1)
    rw[Nat.pow_succ];omega
end
section
open Wd
theorem mU (s:Str):decide (s∈(["+", "-"]:List Str))=Et s:=by
 unfold Et
 by_cases a:s= "+"
 ·subst a;decide+kernel
 ·by_cases b:s= "-"
  ·subst b;decide+kernel
  ·have a':(("+":Str)==s)=false:=beq_eq_false_iff_ne.mpr fun z=>a z.symm
   have b':(("-":Str)==s)=false:=beq_eq_false_iff_ne.mpr fun z=>b z.symm
   rw[a',b',decide_eq_false (by simp [a,b])];rfl
theorem vA (e:Exp):ixW (D3 e) (.int 0)=pr (.str (hdS e)):=by cases e<;>exact ix0 ..
def bL (fr:List W->M W):Dl->M Fl:=(sIf (mOr (EU (mB (m2 eqW (m2 ixW (Ff 0) (mC (.int 0))) (mC (.str "*")))) (mB (m2 inW (m2 ixW (m2 ixW (Ff 0) (mC (.int 1))) (mC (.int 0))) (mTl (EO (EY (mC (.str "+")) (EY (mC (.str "-")) E5))))))) (mB (m2 eqW (m2 Fj (Ff 1) (mC (.int 5))) (mC (.int 1))))) (GG 2 (m2 DC (m2 DC (mC (.str "(")) (Ff 2)) (mC (.str ")")))) GC)
def bR (fr:List W->M W):Dl->M Fl:=(sIf (mOr (mB (m2 inW (m2 ixW (m2 ixW (Ff 0) (mC (.int 2))) (mC (.int 0))) (mTl (EO (EY (mC (.str "+")) (EY (mC (.str "-")) E5)))))) (mOr (EU (mB (m2 eqW (m2 ixW (Ff 0) (mC (.int 0))) (mC (.str "*")))) (mB (m2 eqW (m2 ixW (m2 ixW (Ff 0) (mC (.int 2))) (mC (.int 0))) (mC (.str "*"))))) (mB (m2 eqW (m2 Fj (Ff 1) (mC (.int 7))) (mC (.int 1)))))) (GG 3 (m2 DC (m2 DC (mC (.str "(")) (Ff 3)) (mC (.str ")")))) GC)
theorem ir (fr:List W->M W):bD fr=(GF (sIf (mB (m2 eqW (EW EQ (EY (Ff 0) E5)) (mC (.int 2)))) (GD (EW Hh (EY (m2 ixW (Ff 0) (mC (.int 1))) E5))) GC) (GF (GG 2 (EW (arW 2 fr) (EY (m2 ixW (Ff 0) (mC (.int 1))) (EY (m2 D5 (Ff 1) (mC (.int 2))) E5)))) (GF (GG 3 (EW (arW 2 fr) (EY (m2 ixW (Ff 0) (mC (.int 2))) (EY (m2 D5 (Ff 1) (mC (.int 3))) E5)))) (GF (bL fr) (GF (bR fr) (GD (m2 DC (m2 DC (Ff 2) (m2 ixW (Ff 0) (mC (.int 0)))) (Ff 3)))))))):=rfl
theorem y9 (fr:List W->M W){s x y:Str}{l r:Exp}{more:Int}(hx:x.length<=1000):bL fr [some (.tup [.str s,D3 l,D3 r]),some (.int more),some (.str x),some (.str y)]=pr (.nx [some (.tup [.str s,D3 l,D3 r]),some (.int more),some (.str (brk (lBr s l more) x)),some (.str y)]):=by
 have p1:("(":Str).length=1:=by decide+kernel
 have p2:(")":Str).length=1:=by decide+kernel
 have il: ∀h:Str,inW (.str h) (.tl [.str "+",.str "-"])=pr (.bl (Et h)):=fun h=>by rw[<-mU];exact iY (ss:=["+", "-"])
 unfold bL lBr
 have a1:=adS (a:= "(") (b:=x) (by omega)
 have a2:=adS (a:= "("++x) (b:= ")") (by rw[GZ];omega)
 cases c1:decide (s= "*")<;>cases c2:Et (hdS l)<;>cases c3:decide (more % 5=1)<;>
  (simp! only[aa,ix0,ix1,vA,il,c1,c2,c3,aj (show (0:Int)<5 by decide),a1,a2])<;>rfl
theorem y6 (fr:List W->M W){s x y:Str}{l r:Exp}{more:Int}(hy:y.length<=1000):bR fr [some (.tup [.str s,D3 l,D3 r]),some (.int more),some (.str x),some (.str y)]=pr (.nx [some (.tup [.str s,D3 l,D3 r]),some (.int more),some (.str x),some (.str (brk (rBr s r more) y))]):=by
 have p1:("(":Str).length=1:=by decide+kernel
 have p2:(")":Str).length=1:=by decide+kernel
 have il: ∀h:Str,inW (.str h) (.tl [.str "+",.str "-"])=pr (.bl (Et h)):=fun h=>by rw[<-mU];exact iY (ss:=["+", "-"])
 unfold bR rBr
 have a1:=adS (a:= "(") (b:=y) (by omega)
 have a2:=adS (a:= "("++y) (b:= ")") (by rw[GZ];omega)
 cases c1:decide (s= "*")<;>cases c2:Et (hdS r)<;>cases c3:decide (hdS r= "*")<;>cases c4:decide (more % 7=1)<;>
  (simp! only[aa,ix0,ix2,vA,il,c1,c2,c3,c4,aj (show (0:Int)<7 by decide),a1,a2])<;>rfl
theorem EN:decide (((0+1+1:Nat):Int)=2)=true/\decide (((0+1+1+1:Nat):Int)=2)=false:=by decide
theorem ic: ∀ (m:Nat) (e:Exp) (more:Int),D0 e<m->Do e->szE e<=50->aC m [D3 e,.int more]=pr (.str (wdS e more))
 |0,e,more,h,_,_=>absurd h (AK _)
 |m+1,.num n,more,_,g,_=>by
  have e0:aC (m+1) [D3 (.num n),.int more]=bd (bD (aC m) [some (.tup [.str "number",.int n]),some (.int more),none,none]) D6:=rfl
  rw[e0]
  unfold bD
  have g:0<=n/\n<=999:=g
  have sn:Hh [.int n]=pr (.str (toString n)):=l9 (by
   have:n.natAbs<2 ^ 1920:=zH (show n.natAbs<2 ^ 10 by omega) (By (by omega) (show 10<=1920 by omega))
   by_cases z:n.natAbs=0
   ·rw[z];decide
   ·exact (AQ z).mpr this)
  simp! only[aa,ix1,sn,EN.1]
  rfl
 |m+1,.box x,more,_,g,_=>by
  have e0:aC (m+1) [D3 (.box x),.int more]=bd (bD (aC m) [some (.tup [.str "box",.str x]),some (.int more),none,none]) D6:=rfl
  rw[e0]
  unfold bD
  have sn:Hh [.str x]=pr (.str x):=rfl
  simp! only[aa,ix1,sn,EN.1]
  rfl
 |m+1,.bin s l r,more,h,g,z=>by
  have e0:aC (m+1) [D3 (.bin s l r),.int more]=bd (bD (aC m) [some (.tup [.str s,D3 l,D3 r]),some (.int more),none,none]) D6:=rfl
  rw[e0,ir]
  have h:1+max (D0 l) (D0 r)<m+1:=h
  have z:szE l+szE r<=50:=z
  obtain⟨g1,g2,g3⟩:=g
  have h1:=ic m l (more / 2) (by omega) g2 (by omega)
  have h2:=ic m r (more / 3) (by omega) g3 (by omega)
  have z1:=i7 (more / 2) g2
  have z2:=i7 (more / 3) g3
  have b1:=y9 (aC m) (s:=s) (l:=l) (r:=r) (more:=more) (x:=wdS l (more / 2)) (y:=wdS r (more / 3)) (by omega)
  have b2:=y6 (aC m) (s:=s) (l:=l) (r:=r) (more:=more) (x:=brk (lBr s l more) (wdS l (more / 2))) (y:=wdS r (more / 3)) (by omega)
  have k1:=i5 (lBr s l more) (wdS l (more / 2))
  have k2:=i5 (rBr s r more) (wdS r (more / 3))
  have ls:s.length<=1:=by rcases g1 with rfl|rfl|rfl<;>decide+kernel
  have a1:=adS (a:=brk (lBr s l more) (wdS l (more / 2))) (b:=s) (by omega)
  have a2:=adS (a:=brk (lBr s l more) (wdS l (more / 2))++s) (b:=brk (rBr s r more) (wdS r (more / 3))) (by rw[GZ];omega)
  simp! only[aa,ix0,ix1,ix2,EN.2,aB (show (0:Int)<2 by decide) (by decide),aB (show (0:Int)<3 by decide) (by decide),h1,h2,b1,b2,a1,a2]
  rfl
theorem lp1:("(":Str)=⟨#[40]⟩:=by decide+kernel
theorem rp1:(")":Str)=⟨#[41]⟩:=by decide+kernel
theorem yd {a b:Nat}:decide ((⟨#[a]⟩:Str)=⟨#[b]⟩)=decide (a=b):=by
 rw[decide_eq_decide]
 exact⟨fun h=>by simpa using congrArg (fun z:Str=>z.cps.toList) h,fun h=>by rw[h]⟩
theorem mxW (i j:Int):Fi [.int i,.int j]=pr (.int (if j>i then j else i)):=rfl
theorem u1 {h:List Ob}(z:Str)(hz:z.length<=1000):Ok (dj [.str z]) h fun w h'=>w=.int (DX z)/\h'=h:=by
 have e0:dj [.str z]=bd (dh [some (.str z),none,none,none]) D6:=rfl
 rw[e0]
 unfold dh
 simp!
 refine fY (I:=fun i ρ h'=>(∃a,ρ=[some (.str z),some (.int ((z.cps.toList.take i).foldl cp (0,0)).1),some (.int ((z.cps.toList.take i).foldl cp (0,0)).2),a])/\h'=h) ⟨⟨_,rfl⟩,rfl⟩ (fun _ _ _ _=>trivial) (fun i w ρ h1 hw I=>?_) fun ρ h1 I=>?_
 ·obtain⟨⟨a,rfl⟩,rfl⟩:=I
  unfold DN at hw
  rw[zG] at hw
  obtain⟨c,hc,rfl⟩:=zM.mp hw
  refine⟨_,rfl,?_⟩
  have st:(z.cps.toList.take (i+1)).foldl cp (0,0)=cp ((z.cps.toList.take i).foldl cp (0,0)) c:=by
   rw[Ae,hc,A1];rfl
  rw[st]
  generalize (z.cps.toList.take i).foldl cp (0,0)=x at *
  have iw: ∀b:Bool,Ek [.bl b]=pr (.int (if b then 1 else 0)):=fun b=>rfl
  simp!
  rw[lp1,rp1]
  simp! only[aa,iw,yd,mxW]
  refine ak ⟨_,rfl,⟨some (.str ⟨#[c]⟩),?_⟩,rfl⟩
  have e1:x.1+(if decide (c=40)=true then 1 else 0) - (if decide (c=41)=true then 1 else 0)=(cp x c).1:=by
   unfold cp
   dsimp only
   by_cases c1:c=40
   ·subst c1;simp
   ·by_cases c2:c=41
    ·subst c2;simp
    ·simp [c1,c2]
  have e2:(cp x c).2=if (cp x c).1>x.2 then (cp x c).1 else x.2:=rfl
  rw[e1,<-e2]
 ·obtain⟨⟨a,rfl⟩,rfl⟩:=I
  have:(DN z).length=z.cps.toList.length:=by unfold DN;rw[zr]
  rw[this,Ab]
  simp!
  exact ak ⟨rfl,rfl⟩
structure XG (ns:List Str)(z:Str)(e:Exp):Prop where
 w:Wrd z e
 n: ∀x∈D1 e,x∈ns
 g:Do e
 dp:D0 e<=3
theorem lH: ∀ {e:Exp},Do e->D2 e=true
 |.num _,_=>rfl
 |.box _,_=>rfl
 |.bin s l r,g=>by
  obtain⟨g1,g2,g3⟩:=g
  show (decide (s∈(["+", "-", "*"]:List Str)) && (D2 l && D2 r))=true
  rw[lH g2,lH g3,decide_eq_true (by rcases g1 with rfl|rfl|rfl<;>simp)];rfl
theorem rP: ∀e:Exp,(D1 e).length<=szE e
 |.num _=>zL _
 |.box _=>zu _
 |.bin s l r=>by
  have:=rP l;have:=rP r
  show (D1 l++D1 r).length<=szE l+szE r
  rw[zv];omega
theorem kC: ∀ {e:Exp} (more:Int),Do e-> ∀c∈(wdS e more).cps.toList,40<=c/\c<=122
 |.num n,more,h,c,hc=>by
  obtain⟨h0,h9⟩:=h
  obtain⟨k,rfl⟩: ∃k:Nat,n=(k:Int):=⟨n.toNat,by omega⟩
  obtain⟨g1,_⟩:=gR k (by omega)
  unfold Fu at g1
  simp only[zI,zR] at g1
  have:=Eo.mp (g1.2.2 c hc)
  omega
 |.box x,more,h,c,hc=>by
  have h:ah x=true:=h
  unfold ah at h
  simp only[zI,zR] at h
  have:=Es.mp (h.2.1 c hc)
  omega
 |.bin s l r,more,h,c,hc=>by
  obtain⟨g1,g2,g3⟩:=h
  have bk: ∀ (b:Bool) (x:Str),(∀c∈x.cps.toList,40<=c/\c<=122)-> ∀c∈(brk b x).cps.toList,40<=c/\c<=122:=fun b x q c hc=>by
   rw[dM] at hc
   split at hc
   ·rcases zA.mp hc with rfl|hc
    ·omega
    ·rcases zY.mp hc with hc|hc
     ·exact q c hc
     ·rw[zT.mp hc];omega
   ·exact q c hc
  have hc:c∈(brk (lBr s l more) (wdS l (more / 2))++s++brk (rBr s r more) (wdS r (more / 3))).cps.toList:=hc
  rw[e8,e8,zY,zY] at hc
  rcases hc with (hc|hc)|hc
  ·exact bk _ _ (kC (more / 2) g2) c hc
  ·have: ∀k,s=⟨#[k]⟩->c=k:=fun k e=>by rw[e] at hc;simpa using hc
   rcases g1 with e|e|e
   ·have:=this 43 (e.trans kX);omega
   ·have:=this 45 (e.trans jz);omega
   ·have:=this 42 (e.trans kK);omega
  ·exact bk _ _ (kC (more / 3) g3) c hc
theorem seven:XG [] "7" (.num 7):=⟨⟨by decide+kernel,.of (by decide+kernel),rfl,by decide,by decide⟩,fun x hx=>absurd hx zQ,⟨by decide,by decide⟩,by decide⟩
theorem XG.mono {ns:List Str}{z:Str}{e:Exp}(h:XG [] z e):XG ns z e:=⟨h.w,fun x hx=>absurd (h.n x hx) zQ,h.g,h.dp⟩
theorem lM {h:List Ob}{ns:List Str}(c k:Int)(k0:0<=k)(nm: ∀x∈ns,ah x=true)(l4:ns.length<=4):Ok (c8 [.int c,.int k,.tl (ns.map W.str)]) h fun w h'=>(∃z e,w=.tl [.str z,D3 e]/\XG ns z e)/\h'=h:=by
 have e0:c8 [.int c,.int k,.tl (ns.map W.str)]=bd (eX [some (.int c),some (.int k),some (.tl (ns.map W.str)),none,none,none]) D6:=rfl
 rw[e0]
 unfold eX
 obtain⟨D,hD⟩: ∃D:Int,D=He c (k+90) % 4:=⟨_,rfl⟩
 have d0:0<=D:=by rw[hD];exact zX _ (by decide)
 have d1:D<4:=by rw[hD];exact z6 _ (by decide)
 obtain⟨e,he,g⟩:=kF c nm l4 5 D.toNat k D (by omega) (by omega) k0
 have gd':=g.dp
 have gs:=g.s
 have p8:2 ^ D.toNat<=2 ^ 3:=By (by omega) (by omega)
 have m0:=kJ c (k+91)
 have s90:=bw (c:=c) (show 0<=k+90 by omega)
 have s91:=bw (c:=c) (show 0<=k+91 by omega)
 generalize He c (k+91)=mo at *
 obtain⟨TW,hT⟩: ∃T,T=W.tl (ns.map W.str):=⟨_,rfl⟩
 rw[<-hT] at he ⊢
 simp! only[aa,s90,aj (show (0:Int)<4 by decide)]
 rw[<-hD]
 obtain⟨V,hV⟩: ∃V,V=D3 e:=⟨_,rfl⟩
 have wo: ∀mo,aC 5 [V,.int mo]=pr (.str (wdS e mo)):=fun mo=>by rw[hV];exact ic 5 e mo (by omega) g.g (by omega)
 rw[<-hV] at he
 simp! only[aa,he,s91,bX]
 have good: ∀mo,(wdS e mo).length<=60->DX (wdS e mo)<6->XG ns (wdS e mo) e:=fun mo l60 l6=>by
  have tx:=kG mo g.g
  have wk:=sX tx.sum tx.deep (by omega)
  have dp:=wk.deep
  refine⟨⟨by rw[wk.expr,if_neg (by omega)],⟨fun hm=>?_,fun hm=>?_,l60⟩,lH g.g,by omega,by have:=rP e;omega⟩,g.n,g.g,by omega⟩
  ·have:=kC mo g.g _ hm;omega
  ·have:=kC mo g.g _ hm;omega
 refine ud (I:=fun i ρ h'=>(∃a b,ρ=[some (.int c),some (.int k),some TW,some V,a,b])/\h'=h) (J:=fun v h'=>(∃z e,v=.tl [.str z,D3 e]/\XG ns z e)/\h'=h) ⟨⟨_,_,rfl⟩,rfl⟩ (fun _ _ _ _=>trivial) (fun i w ρ h1 hw I=>?_) (fun ρ h1 I=>?_) fun v h1 J=>?_
 ·obtain⟨⟨a,b,rfl⟩,rfl⟩:=I
  obtain⟨q,rfl⟩: ∃q:Int,w=.int q:=by
   have:=Ad hw
   simp only[zA,zQ,or_false] at this
   rcases this with e|e<;>exact⟨_,e⟩
  refine⟨_,rfl,?_⟩
  have lw:=i7 q g.g
  simp! only[aa,wo,sh (z:=wdS e q) (sz (by omega))]
  by_cases c1:(wdS e q).length<=60
  ·simp! only[aa,decide_eq_true (show (((wdS e q).length:Nat):Int)<=60 by omega)]
   refine aV (u1 (wdS e q) (by omega)) fun w h2 qq_=>?_
   obtain⟨ew,eh⟩:=qq_
   subst ew eh
   by_cases c2:DX (wdS e q)<6
   ·simp! only[aa,decide_eq_true c2]
    exact ak (.inr ⟨_,rfl,⟨_,e,by rw[hV],good q c1 c2⟩,rfl⟩)
   ·simp! only[aa,decide_eq_false c2]
    exact ak (.inl ⟨_,rfl,⟨_,_,rfl⟩,rfl⟩)
  ·simp! only[aa,decide_eq_false (show¬(((wdS e q).length:Nat):Int)<=60 by omega)]
   exact ak (.inl ⟨_,rfl,⟨_,_,rfl⟩,rfl⟩)
 ·obtain⟨⟨a,b,rfl⟩,rfl⟩:=I
  simp!
  exact ak ⟨⟨"7",.num 7,rfl,seven.mono⟩,rfl⟩
 ·simp!
  exact ak J
end
section
open Wd
theorem lZ: ∀ {l:List Str},(∀z∈l,z.length<=60)->(l.map (·.length)).sum<=60 * l.length
 |[],_=>by simp
 |z::l,h=>by
  have a:=h z zB
  have b:=lZ (l:=l) fun z hz=>h z (zK _ hz)
  rw[zD,Av,zx,Bu]
  omega
theorem GW:(C9.strOk "+"=true/\C9.strOk "-"=true/\C9.strOk "*"=true)/\(C9.strOk "say"=true/\C9.strOk "ask"=true/\C9.strOk "put"=true)/\(C9.strOk "go"=true/\C9.strOk "if"=true/\C9.strOk "table"=true/\C9.strOk "stop"=true)/\C9.strOk "<"=true/\C9.strOk "="=true:=by decide+kernel
theorem pdE: ∀ (n:Nat) (e:Exp),D0 e+2<=n->Do e->Pd n (D3 e)
 |0,_,h,_=>by omega
 |1,_,h,_=>by omega
 |n+2,.num i,_,_=>FZ qa
 |n+2,.box x,_,g=>pd2s wN (eQ g)
 |n+2,.bin s l r,h,g=>by
  have h:1+max (D0 l) (D0 r)+2<=n+2:=h
  obtain⟨g1,g2,g3⟩:=g
  have sk:C9.strOk s=true:=by
   rcases g1 with rfl|rfl|rfl
   ·exact GW.1.1
   ·exact GW.1.2.1
   ·exact GW.1.2.2
  exact pdT (by simp) (aK (.str sk) (aK (pdE (n+1) l (by omega) g2) (aK (pdE (n+1) r (by omega) g3) eg)))
theorem uY {l:List W}(p:∀x∈l,Pd 49 x):eqW (.tl l) (.tl [])=pr (.bl l.isEmpty):=by
 have h:=o8 p
 funext hh
 have e:=congrFun h hh
 unfold neW at e
 unfold eqW
 cases q:eqB (.tl l) (.tl []) hh with
 |none=>rw[q] at e;cases e
 |some b=>
  rw[q] at e
  have e:Rs.ok (W.bl (!b)) hh=Rs.ok (W.bl (!l.isEmpty)) hh:=e
  have:(!b)=!l.isEmpty:=by injection e with e _;injection e
  show Rs.ok (W.bl b) hh=Rs.ok (W.bl l.isEmpty) hh
  rw[Bool.not_inj this]
structure SG (bn:List Str)(R:Rr):Prop where
 st:R.stm=true
 ok:R.Ok
 b: ∀x∈R.bxs,x∈bn
 pd:Pd 7 R.form
theorem uH {h:List Ob}{bn:List Str}(c:Int)(nm: ∀x∈bn,ah x=true)(l4:bn.length<=4):Ok (bU [.int c,.tl (bn.map W.str)]) h fun w h'=>(∃R:Rr,w=.tl [.str R.tx,R.form]/\SG bn R)/\h'=h:=by
 have e0:bU [.int c,.tl (bn.map W.str)]=bd (cz [some (.int c),some (.tl (bn.map W.str)),none,none,none,none]) D6:=rfl
 rw[e0]
 unfold cz
 obtain⟨n,hn⟩: ∃n:Int,n=He c 0:=⟨_,rfl⟩
 have st:=bw (c:=c) (k:=0) (by decide)
 rw[<-hn] at st
 have ex:=lM (h:=h) c 3 (by decide) nm l4
 have eqn:=uY (my (n:=48) nm)
 obtain⟨N,hN⟩: ∃N:Int,N=(bn.length:Int):=⟨_,rfl⟩
 have eL:EQ [.tl (bn.map W.str)]=pr (.int N):=by rw[lenW_tl,zr,hN]
 have pk:=fun l1=>Fs (x:=n / 8) hN l1
 have e4:(bn.map W.str).isEmpty=bn.isEmpty:=by cases bn<;>rfl
 rw[e4] at eqn
 generalize W.tl (bn.map W.str)=T at *
 simp! only[aa,st]
 refine aV ex fun w h' qq_=>?_
 obtain⟨⟨z,e,ew,g⟩,eh⟩:=qq_
 subst ew eh
 have zl:=g.w.c.len
 have pe:=pdE 6 e (by have:=g.dp;omega) g.g
 obtain⟨_,k1,k2,k3,k4,_⟩:=lC
 have tg:tgL [3,4] (.tl [.str z,D3 e]) [some (.int c),some T,some (.int n),none,none,none]=some [some (.int c),some T,some (.int n),some (.str z),some (D3 e),none]:=rfl
 have say: ∀h:List Ob,Ok (bd (DC (.str "say ") (.str z)) fun a=>pr (W.tl [a,.tup [.str "say",D3 e]])) h fun w h'=>(∃R:Rr,w=.tl [.str R.tx,R.form]/\SG bn R)/\h'=h:=fun h=>by
  rw[adS (by omega)]
  refine ak ⟨⟨.say z e,by rw[vX];rfl,rfl,g.w,g.n,?_⟩,rfl⟩
  exact pdT (n:=6) (by simp) (aK (.str GW.2.1.1) (aK pe eg))
 by_cases c0:n % 4=0
 ·simp! only[aa,tg,aj (show (0:Int)<4 by decide),decide_eq_true c0]
  exact say _
 ·by_cases cb:bn=[]
  ·have eqn:eqW T (.tl [])=pr (.bl true):=by rw[eqn,cb];rfl
   simp! only[aa,tg,aj (show (0:Int)<4 by decide),decide_eq_false c0,eqn]
   exact say _
  ·have l1:1<=bn.length:=BM.mpr cb
   have eqn:eqW T (.tl [])=pr (.bl false):=by rw[eqn,List.isEmpty_eq_false_iff.mpr cb]
   obtain⟨s,hs,es⟩:=pk l1
   have sl:=(br (nm s hs)).len
   have N0:0<N:=by omega
   by_cases c1:n % 4=1
   ·simp! only[aa,tg,aj (show (0:Int)<4 by decide),decide_eq_false c0,eqn,aB (show (0:Int)<8 by decide) (by decide),eL,aj N0,es,decide_eq_true c1,adS (a:= "ask ") (b:=s) (by omega)]
    refine ak ⟨⟨.ask s,by rw[xX];rfl,rfl,nm s hs,fun x hx=>by rw[zT.mp hx];exact hs,?_⟩,rfl⟩
    exact pdT (n:=6) (by simp) (aK (.str GW.2.1.2.1) (aK (.str (eQ (nm s hs))) eg))
   ·simp! only[aa,tg,aj (show (0:Int)<4 by decide),decide_eq_false c0,eqn,aB (show (0:Int)<8 by decide) (by decide),eL,aj N0,es,decide_eq_false c1,adS (a:= "put ") (b:=s) (by omega),adS (a:= "put "++s) (b:= " ") (by rw[GZ];omega),adS (a:= "put "++s++ " ") (b:=z) (by rw[GZ,GZ];omega)]
    refine ak ⟨⟨.put s z e,by rw[v5];rfl,rfl,⟨nm s hs,g.w⟩,fun x hx=>?_,?_⟩,rfl⟩
    ·rcases zA.mp hx with rfl|hx
     ·exact hs
     ·exact g.n x hx
    ·exact pdT (n:=6) (by simp) (aK (.str GW.2.1.2.2) (aK (.str (eQ (nm s hs))) (aK pe eg)))
theorem DT {α:Type}(l:List α){v:Int}(h0:0<=v):DS l none (some v)=l.take v.toNat:=by
 unfold DS
 show List.take ((if v<0 then (v+(l.length:Int)).toNat else min v.toNat l.length) - 0) (l.drop 0)=_
 rw[if_neg (by omega),Aw,Nat.sub_zero]
 by_cases h:v.toNat<=l.length
 ·rw[Nat.min_eq_left h]
 ·rw[Nat.min_eq_right (by omega),Ab,Bi (by omega)]
theorem jD {ns:List Str}(nd:ns.Nodup){i:Nat}{x:Str}(h:ns[i]?=some x):EA ns x=i:=by
 have hm:=Ad h
 obtain⟨e,l⟩:=kl hm
 rw[Bp] at e
 obtain⟨l1,e1,_⟩:=e
 refine (BP l1 nd).mp ?_
 rw[h,Ah l1,of_decide_eq_true e1]
structure NG (bn ns:List Str)(R:Rr):Prop where
 en:R.end'=true
 ok:R.Ok
 b: ∀x∈R.bxs,x∈bn
 to: ∀x∈R.tos,x∈ns
 pd:Pd 7 (R.en ns).w
theorem vJ (z:Str)(e:Exp)(xs:List Str):(Rr.table z e xs).tx=Str.join " " ("table"::z::xs):=by rw[mj];rfl
theorem Ei (s z1 z2 x y:Str)(e1 e2:Exp):(Rr.iff s z1 e1 z2 e2 x y).tx=Str.join " " ["if",z1,s,z2,x, "else",y]:=by rw[mj];rfl
theorem sgn2' {v:Int}(h0:0<=v)(h1:v<2): ∃s:Str,ixW (.str "<=") (.int v)=pr (.str s)/\(s= "<"\/s= "=")/\s.length=1:=by
 have:v=0\/v=1:=by omega
 have l3:("<=":Str).length<=sizeLine:=sz (show 2<=_ by omega)
 have a:("<":Str)=⟨#[60]⟩/\("=":Str)=⟨#[61]⟩:=by decide+kernel
 rcases this with rfl|rfl
 ·exact⟨"<",by rw[a.1];exact eR l3 (by decide+kernel),.inl rfl,by decide+kernel⟩
 ·exact⟨"=",by rw[a.2];exact eR l3 (by decide+kernel),.inr rfl,by decide+kernel⟩
theorem uJ {h:List Ob}{bn ns:List Str}(c:Int)(nm: ∀x∈bn,ah x=true)(l4:bn.length<=4)(mm: ∀x∈ns,ah x=true)(n1:1<=ns.length)(n10:ns.length<=10)(nd:ns.Nodup):Ok (dE [.int c,.tl (bn.map W.str),.tl (ns.map W.str)]) h fun w h'=>(∃R:Rr,w=.tl [.str R.tx,(R.en ns).w]/\NG bn ns R)/\h'=h:=by
 have e0:dE [.int c,.tl (bn.map W.str),.tl (ns.map W.str)]=bd (gk [some (.int c),some (.tl (bn.map W.str)),some (.tl (ns.map W.str)),none,none,none,none,none,none,none,none,none,none]) D6:=rfl
 rw[e0]
 unfold gk
 obtain⟨n,hn⟩: ∃n:Int,n=He c 0:=⟨_,rfl⟩
 have n0:0<=n:=by rw[hn];exact kJ _ _
 have st:=bw (c:=c) (k:=0) (by decide)
 rw[<-hn] at st
 have ex:=fun h=>lM (h:=h) c 3 (by decide) nm l4
 have ex2:=fun h=>lM (h:=h) c 60 (by decide) nm l4
 obtain⟨N,hN⟩: ∃N:Int,N=(ns.length:Int):=⟨_,rfl⟩
 have N0:0<N:=by omega
 have eL:EQ [.tl (ns.map W.str)]=pr (.int N):=by rw[lenW_tl,zr,hN]
 have at': ∀g:Nat,g<ns.length-> ∃x,ns[g]?=some x/\ixW (.tl (ns.map W.str)) (.int (g:Int))=pr (.str x):=fun g hg=>by
  refine⟨ns[g],Ah hg,bt (aE (by omega) ?_)⟩
  rw[zG,Int.toNat_natCast,Ah hg];rfl
 generalize W.tl (bn.map W.str)=B at *
 generalize W.tl (ns.map W.str)=T at *
 have g6: ∀ {α:Type} (q:M α),gd ((El 0 (6:Int).toNat).length<=sizeLine) q=q:=fun q=>af (by rw[dt];exact sz (by decide))
 simp! only[aa,st,aj (show (0:Int)<6 by decide),fX (show (-(2 ^ 62):Int)<=6 by decide) (show (6:Int)<2 ^ 62 by decide),g6]
 refine cx (I:=fun i a h'=>h'=h/\ ∃gs:List Nat,a=gs.map (fun g:Nat=>W.int (g:Int))/\gs.length=i/\ ∀g∈gs,g<ns.length) ⟨rfl,[],rfl,rfl,fun x hx=>absurd hx zQ⟩ dy (fun _ _ _ _=>trivial) (fun i w a h' hw I=>?_) fun a h' I=>?_
 ·obtain⟨rfl,gs,rfl,rfl,hg⟩:=I
  obtain⟨rfl,hi⟩:=dI _ _ _ _ hw
  refine⟨_,rfl,?_⟩
  have a0:=zX (He c (40+(0+(gs.length:Int)))) (show N≠0 by omega)
  have a1:=z6 (He c (40+(0+(gs.length:Int)))) N0
  simp! only[List.replicate,Ac,z0,aa,bw (show (0:Int)<=40+(0+(gs.length:Int)) by omega),eL,aj N0]
  refine ak ⟨rfl,gs++[(He c (40+(0+(gs.length:Int))) % N).toNat],?_,by simp,fun g hm=>?_⟩
  ·rw[zw]
   show _=_++[W.int _]
   rw[BQ a0]
  ·rcases zY.mp hm with hm|hm
   ·exact hg g hm
   ·rw[zT.mp hm];omega
 obtain⟨rfl,gs,rfl,lg,hg⟩:=I
 have lg:gs.length=6:=lg
 obtain⟨a,b,r,rfl⟩: ∃a b r,gs=a::b::r:=by
  cases gs with
  |nil=>simp at lg
  |cons a gs=>cases gs with
   |nil=>simp at lg
   |cons b r=>exact⟨a,b,r,rfl⟩
 obtain⟨xa,ha,ia⟩:=at' a (hg a zB)
 obtain⟨xb,hb,ib⟩:=at' b (hg b (zK _ zB))
 have ma:=Ad ha
 have mb:=Ad hb
 have la:=(br (mm xa ma)).len
 have lb:=(br (mm xb mb)).len
 have ea:=jD nd ha
 have eb:=jD nd hb
 have j0:ixW (.tl ((a::b::r).map fun g:Nat=>W.int (g:Int))) (.int 0)=pr (.int (a:Int)):=bt (aE (by decide) rfl)
 have j1:ixW (.tl ((a::b::r).map fun g:Nat=>W.int (g:Int))) (.int 1)=pr (.int (b:Int)):=bt (aE (by decide) rfl)
 obtain⟨_,_,_,_,k4,k5,_⟩:=lC
 obtain⟨V,hV⟩: ∃V,V=W.tl ((a::b::r).map fun g:Nat=>W.int (g:Int)):=⟨_,rfl⟩
 rw[<-hV] at j0 j1
 simp!
 rw[<-hV]
 refine aV (ex _) fun w h2 qq_=>?_
 obtain⟨⟨z1,e1,ew,g1⟩,eh⟩:=qq_
 subst ew eh
 have tg: ∀x8 x9:Option W,tgL [6,7] (.tl [.str z1,D3 e1]) [some (.int c),some B,some T,some (.int n),some (.int (n % 6)),some V,none,none,none,none,none,none,none]=some [some (.int c),some B,some T,some (.int n),some (.int (n % 6)),some V,some (.str z1),some (D3 e1),none,none,none,none,none]:=fun _ _=>rfl
 have z1l:=g1.w.c.len
 have p1:=pdE 6 e1 (by have:=g1.dp;omega) g1.g
 obtain⟨E1,hE1⟩: ∃E,E=D3 e1:=⟨_,rfl⟩
 rw[<-hE1] at tg
 simp!
 rw[<-hE1]
 simp! only[aa,tg none none]
 refine aV (ex2 _) fun w h2 qq_=>?_
 obtain⟨⟨z2,e2,ew,g2⟩,eh⟩:=qq_
 subst ew eh
 have z2l:=g2.w.c.len
 have p2:=pdE 6 e2 (by have:=g2.dp;omega) g2.g
 have tg2:tgL [8,9] (.tl [.str z2,D3 e2]) [some (.int c),some B,some T,some (.int n),some (.int (n % 6)),some V,some (.str z1),some E1,none,none,none,none,none]=some [some (.int c),some B,some T,some (.int n),some (.int (n % 6)),some V,some (.str z1),some E1,some (.str z2),some (D3 e2),none,none,none]:=rfl
 have q0:=zX n (show (6:Int)≠0 by decide)
 have q1:=z6 n (show (0:Int)<6 by decide)
 by_cases c2:n % 6<2
 ·simp! only[aa,tg2,decide_eq_true c2,j0,ia,adS (a:= "go ") (b:=xa) (by omega)]
  refine ak ⟨⟨.go xa,?_,rfl,mm xa ma,fun x hx=>absurd hx zQ,fun x hx=>by rw[zT.mp hx];exact ma,?_⟩,rfl⟩
  ·rw[yP]
   show _=W.tl [_,.tup [.str "go",.int (EA ns xa:Nat)]]
   rw[ea]
  ·exact pdT (n:=6) (by simp) (aK (.str GW.2.2.1.1) (aK .int eg))
 by_cases c4:n % 6<4
 ·have v0:=zX (n / 6) (show (2:Int)≠0 by decide)
  have v1:=z6 (n / 6) (show (0:Int)<2 by decide)
  obtain⟨s,es,hs,ls⟩:=sgn2' v0 v1
  have jw:EE (.str " ") [.tl [.str "if",.str z1,.str s,.str z2,.str xa,.str "else",.str xb]]=pr (.str (Str.join " " ["if",z1,s,z2,xa, "else",xb])):=by
   refine g0 (ts:=["if",z1,s,z2,xa, "else",xb]) (sz ?_)
   have t1:("if":Str).length=2/\("else":Str).length=4:=by decide+kernel
   simp only[zD,Ag,Av,List.sum_nil,zx,List.length_nil]
   rw[k4]
   omega
  have sk:C9.strOk s=true:=by
   rcases hs with rfl|rfl
   ·exact GW.2.2.2.1
   ·exact GW.2.2.2.2
  simp! only[aa,tg2,decide_eq_false c2,decide_eq_true c4,aB (show (0:Int)<6 by decide) (by decide),aj (show (0:Int)<2 by decide),es,j0,j1,ia,ib,jw]
  refine ak ⟨⟨.iff s z1 e1 z2 e2 xa xb,?_,rfl,⟨hs,g1.w,g2.w,mm xa ma,mm xb mb⟩,fun x hx=>?_,fun x hx=>?_,?_⟩,rfl⟩
  ·rw[Ei,hE1]
   show _=W.tl [_,.tup [.str "if",.str s,D3 e1,D3 e2,.int (EA ns xa:Nat),.int (EA ns xb:Nat)]]
   rw[ea,eb]
  ·rcases zY.mp hx with hx|hx
   ·exact g1.n x hx
   ·exact g2.n x hx
  ·rcases zA.mp hx with rfl|hx
   ·exact ma
   ·rw[zT.mp hx];exact mb
  ·exact pdT (n:=6) (by simp) (aK (.str GW.2.2.1.2.1) (aK (.str sk) (aK p1 (aK p2 (aK .int (aK .int eg))))))
 by_cases c5:n % 6=4
 ·have v0:=zX (n / 6) (show (6:Int)≠0 by decide)
  have v1:=z6 (n / 6) (show (0:Int)<6 by decide)
  obtain⟨u,hu⟩: ∃u:Int,u=1+n / 6 % 6:=⟨_,rfl⟩
  obtain⟨so,hso⟩: ∃so,so=(a::b::r).take u.toNat:=⟨_,rfl⟩
  have sl:slW V none (some u)=pr (.tl (so.map fun g:Nat=>W.int (g:Int))):=by
   rw[hV,slW_tl,DT _ (by omega),<-A5,<-hso]
  have sg: ∀g∈so,g<ns.length:=fun g hm=>hg g (by rw[hso] at hm;exact Ay hm)
  have sl6:so.length<=6:=by rw[hso,z7,lg];omega
  have sl1:so≠ []:=by
   rw[hso]
   obtain⟨k,hk⟩: ∃k,u.toNat=k+1:=⟨u.toNat - 1,by omega⟩
   rw[hk];simp
  have tu:gw [.tl (so.map fun g:Nat=>W.int (g:Int))]=pr (.tup (so.map fun g:Nat=>W.int (g:Int))):=ig _
  have gls: ∀ {α:Type} (q:M α),gd ((so.map fun g:Nat=>W.int (g:Int)).length<=sizeLine) q=q:=fun q=>af (by rw[zr];exact sz (by omega))
  obtain⟨xs,hxs⟩: ∃xs:List Str,xs=so.map fun g=>ns.getD g "":=⟨_,rfl⟩
  have xat: ∀g,g<ns.length->ns[g]?=some (ns.getD g ""):=fun g hg=>by rw[BR,Ah hg];rfl
  have xm: ∀x∈xs,x∈ns:=fun x hx=>by
   rw[hxs] at hx
   obtain⟨g,hm,rfl⟩:=zE.mp hx
   exact Ad (xat g (sg g hm))
  have xl:xs.length<=6:=by rw[hxs,zr];exact sl6
  have xen:(xs.map fun x=>((EA ns x:Nat):Int))=so.map fun g:Nat=>(g:Int):=by
   rw[hxs,Aj]
   refine A6 fun g hm=>?_
   show ((EA ns (ns.getD g ""):Nat):Int)=_
   rw[jD nd (xat g (sg g hm))]
  have jw:EE (.str " ") [.tl ([W.str "table",W.str z1]++xs.map W.str)]=pr (.str (Str.join " " ("table"::z1::xs))):=by
   refine g0 (ts:= "table"::z1::xs) (sz ?_)
   have fs:=lZ (l:=xs) fun z hz=>(br (mm z (xm z hz))).len
   have t5:("table":Str).length=5:=by decide+kernel
   simp only[zD,Av,zx]
   rw[k4]
   omega
  have gl: ∀ {α:Type} (q:M α),gd (0+1+1+(xs.map W.str).length<=sizeLine) q=q:=fun q=>af (by rw[zr];exact sz (by omega))
  simp! only[aa,tg2,decide_eq_false c2,decide_eq_false c4,decide_eq_true c5,aB (show (0:Int)<6 by decide) (by decide),aj (show (0:Int)<6 by decide)]
  rw[<-hu]
  simp! only[aa,sl,DL,gY,bX,gls]
  refine cx (I:=fun i a h'=>h'=h2/\a=(xs.take i).map W.str) ⟨rfl,rfl⟩ dy (fun _ _ _ _=>trivial) (fun i w a h' hw I=>?_) fun a h' I=>?_
  ·obtain⟨rfl,rfl⟩:=I
   rw[zG] at hw
   obtain⟨g,hm,rfl⟩:=zM.mp hw
   refine⟨_,rfl,?_⟩
   obtain⟨x,hx,ix⟩:=at' g (sg g (Ad hm))
   simp! only[List.replicate,Ac,z0,aa,ix]
   refine ak ⟨rfl,?_⟩
   have:xs[i]?=some x:=by
    rw[hxs,zG,hm]
    show some (ns.getD g "")=_
    rw[BR,hx];rfl
   rw[Ae,this,zw];rfl
  ·obtain⟨rfl,rfl⟩:=I
   have:(so.map fun g:Nat=>W.int (g:Int)).length=xs.length:=by rw[hxs,zr,zr]
   rw[this,Ab]
   simp! only[aa,gY,gl,jw,tu]
   refine ak ⟨⟨.table z1 e1 xs,?_,rfl,⟨g1.w,?_,xl,fun x hx=>mm x (xm x hx)⟩,g1.n,xm,?_⟩,rfl⟩
   ·rw[vJ,hE1]
    show _=W.tl [_,.tup [.str "table",D3 e1,.tup ((xs.map fun x=>((EA ns x:Nat):Int)).map W.int)]]
    rw[xen,Aj];rfl
   ·intro z;rw[hxs] at z;exact sl1 (BN.mp z)
   ·refine pdT (n:=6) (by simp) (aK (.str GW.2.2.1.2.2.1) (aK p1 (aK (pdT (n:=5) (by rw[zr,zr];omega) fun x hx=>?_) eg)))
    obtain⟨i,_,rfl⟩:=zE.mp hx
    exact .int
 ·simp! only[aa,tg2,decide_eq_false c2,decide_eq_false c4,decide_eq_false c5]
  refine ak ⟨⟨.stop,rfl,rfl,trivial,fun x hx=>absurd hx zQ,fun x hx=>absurd hx zQ,?_⟩,rfl⟩
  exact pdT (n:=6) (by simp) (aK (.str GW.2.2.1.2.2.2) eg)
end
section
open Wd
def blW (ns:List Str)(b:Bt):W:=.tup [.str b.nm,.tl (b.ss.map Rr.form),(b.e.en ns).w]
structure BG (bn ns:List Str)(b:Bt):Prop where
 l:b.ss.length<=8
 s: ∀R∈b.ss,SG bn R
 e:NG bn ns b.e
def bI:Dl->M Fl:=(GF (GH (tgL [11,12]) (EW (arW 2 bU) (EY (m2 DC (EW (arW 2 ag) (EY (Ff 8) (EY (m2 DC (mC (.int 610)) (Ff 10)) E5))) (Ff 10)) (EY (Ff 4) E5)))) (GF (sEx (E3 isL aU (Ff 3) (EY (Ff 11) E5))) (sEx (E3 isL aU (Ff 9) (EY (Ff 12) E5)))))
def bO:Dl->M Fl:=(GF (GG 8 (EW (arW 2 cH) (EY (Ff 0) (EY (m2 DC (mC (.int 1)) (Ff 6)) E5)))) (GF (sEx (E3 isL aU (Ff 3) (EY (m2 DC (mC (.str "block ")) (Ff 7)) E5))) (GF (GG 9 (E4 (EO E5))) (GF (GB (Fc (EY (m2 ixW (mTl (EO (EY (mC (.int 0)) (EY (mC (.int 1)) (EY (mC (.int 3)) (EY (mC (.int 8)) (EY (m2 Fj (EW (arW 2 ag) (EY (Ff 8) (EY (mC (.int 600)) E5))) (mC (.int 9))) E5))))))) (m2 Fj (EW (arW 2 ag) (EY (Ff 8) (EY (mC (.int 601)) E5))) (mC (.int 5)))) E5) Gn) (tgN 10) bI) (GF (GH (tgL [11,12]) (EW (arW 3 dE) (EY (m2 DC (EW (arW 2 ag) (EY (Ff 8) (EY (mC (.int 602)) E5))) (Ff 6)) (EY (Ff 4) (EY (Ff 2) E5))))) (GF (sEx (E3 isL aU (Ff 3) (EY (Ff 11) E5))) (sEx (E3 isL aU (Ff 5) (EY (Fe (EY (Ff 7) (EY (m1 Eh (Ff 9)) (EY (Ff 12) E5)))) E5)))))))))
theorem iN:dX=(GF (GG 3 (E4 (EX [] (Fb (Ff 1) G9) (tgT [0,1]) Fg (m2 DC (m2 DC (m2 DC (mC (.str "box ")) (Ff 0)) (mC (.str " "))) (EW Hh (EY (Ff 1) E5))) 3))) (GF (GG 4 (mTl (EX [] (Fb (Ff 1) G9) (tgT [0,1]) Fg (Ff 0) 3))) (GF (GG 5 (E4 (EO E5))) (GF (GB (Fc (EY (Ff 2) E5) DZ) (tgT [6,7]) bO) (GD (mTl (EO (EY (m1 Eh (Ff 3)) (EY (Fe (EY (Ff 1) (EY (m1 Eh (Ff 5)) E5))) E5))))))))):=rfl
theorem zb {h:List Ob}{jr js:Nat}{L:List Str}{S:List Rr}{bn:List Str}{c j:Int}(a0 a1 a2 a5 a6 a7 a11 a12:Option W)(nm: ∀x∈bn,ah x=true)(l4:bn.length<=4)(j0:0<=j)(ne:jr≠js)(er:h[jr]?=some (.lst (L.map W.str)))(es:h[js]?=some (.lst (S.map Rr.form)))(lL:L.length<=200)(lS:S.length<=20):
  Ok (bI [a0,a1,a2,some (.loc jr),some (.tl (bn.map W.str)),a5,a6,a7,some (.int c),some (.loc js),some (.int j),a11,a12]) h fun x h'=> ∃R,SG bn R/\(∃u v,x=.nx [a0,a1,a2,some (.loc jr),some (.tl (bn.map W.str)),a5,a6,a7,some (.int c),some (.loc js),some (.int j),u,v])/\h'=(h.set jr (.lst ((L++[R.tx]).map W.str))).set js (.lst ((S++[R]).map Rr.form)):=by
 unfold bI
 have st:=bw (c:=c) (show 0<=610+j by omega)
 generalize He c (610+j)=n at *
 have sk:=uH (h:=h) (n+j) nm l4
 generalize W.tl (bn.map W.str)=T at *
 simp! only[aa,st]
 refine aV sk fun w h' qq_=>?_
 obtain⟨⟨R,ew,g⟩,eh⟩:=qq_
 subst ew eh
 have tg:tgL [11,12] (.tl [.str R.tx,R.form]) [a0,a1,a2,some (.loc jr),some T,a5,a6,a7,some (.int c),some (.loc js),some (.int j),a11,a12]=some [a0,a1,a2,some (.loc jr),some T,a5,a6,a7,some (.int c),some (.loc js),some (.int j),some (.str R.tx),some R.form]:=rfl
 obtain⟨X,hX⟩: ∃X,X=R.tx:=⟨_,rfl⟩
 obtain⟨F,hF⟩: ∃F,F=R.form:=⟨_,rfl⟩
 rw[<-hX,<-hF] at tg
 simp!
 rw[<-hX,<-hF]
 simp! only[aa,tg]
 refine cQ er ?_
 simp!
 refine cR er (by rw[zr];exact Ai lL (by decide)) ?_
 have es2:(h'.set jr (.lst (L.map W.str++[.str X])))[js]?=some (.lst (S.map Rr.form)):=by rw[zt ne];exact es
 simp!
 refine cQ es2 ?_
 simp!
 refine cR es2 (by rw[zr];exact Ai lS (by decide)) ?_
 simp!
 refine ak ⟨R,g,⟨_,_,rfl⟩,?_⟩
 rw[hX,hF,zw,zw];rfl
theorem cnt5 {x v:Int}(x0:0<=x)(x9:x<9)(h0:0<=v)(h1:v<5): ∃m:Nat,m<=8/\ixW (.tl [.int 0,.int 1,.int 3,.int 8,.int x]) (.int v)=pr (.int (m:Int)):=by
 have:v=0\/v=1\/v=2\/v=3\/v=4:=by omega
 rcases this with rfl|rfl|rfl|rfl|rfl
 ·exact⟨0,by omega,bt (aE (by decide) rfl)⟩
 ·exact⟨1,by omega,bt (aE (by decide) rfl)⟩
 ·exact⟨3,by omega,bt (aE (by decide) rfl)⟩
 ·exact⟨8,by omega,bt (aE (by decide) rfl)⟩
 ·exact⟨x.toNat,by omega,by rw[BQ x0];exact bt (aE (by decide) rfl)⟩
theorem y7 {h:List Ob}{jr jf:Nat}{L:List Str}{Fd:List W}{bn ns:List Str}{nm:Str}{k:Nat}(sc:List Int)(a1 a8 a9 a10 a11 a12:Option W)(nb: ∀x∈bn,ah x=true)(l4:bn.length<=4)(mm: ∀x∈ns,ah x=true)(n10:ns.length<=10)(nd:ns.Nodup)(hk:ns[k]?=some nm)(ne:jr≠jf)(er:h[jr]?=some (.lst (L.map W.str)))(ef:h[jf]?=some (.lst Fd))(lL:L.length<=150)(lF:Fd.length<=20):
  Ok (bO [some (.cl (sc.map W.int)),a1,some (.tl (ns.map W.str)),some (.loc jr),some (.tl (bn.map W.str)),some (.loc jf),some (.int (0+(k:Int))),some (.str nm),a8,a9,a10,a11,a12]) h fun x h'=> ∃b:Bt,b.nm=nm/\BG bn ns b/\(∃u8 u9 u10 u11 u12,x=.nx [some (.cl (sc.map W.int)),a1,some (.tl (ns.map W.str)),some (.loc jr),some (.tl (bn.map W.str)),some (.loc jf),some (.int (0+(k:Int))),some (.str nm),u8,u9,u10,u11,u12])/\h'[jr]?=some (.lst ((L++b.rows.map Rr.tx).map W.str))/\h'[jf]?=some (.lst (Fd++[blW ns b]))/\(∀i,i<h.length->i≠jr->i≠jf->h'[i]?=h[i]?)/\h.length<=h'.length:=by
 unfold bO
 have hm:=Ad hk
 have n1:1<=ns.length:=List.length_pos_of_mem hm
 have nl:=(br (mm nm hm)).len
 have lr:=cC er
 have lf:=cC ef
 obtain⟨_,_,_,_,_,_,_,_,k8⟩:=lC
 obtain⟨c,ec⟩:=mQ sc (1+(0+(k:Int)))
 have s600:=bw (c:=c) (show (0:Int)<=600 by decide)
 have s601:=bw (c:=c) (show (0:Int)<=601 by decide)
 have s602:=bw (c:=c) (show (0:Int)<=602 by decide)
 have x0:=zX (He c 600) (show (9:Int)≠0 by decide)
 have x1:=z6 (He c 600) (show (0:Int)<9 by decide)
 have v0:=zX (He c 601) (show (5:Int)≠0 by decide)
 have v1:=z6 (He c 601) (show (0:Int)<5 by decide)
 obtain⟨m,m8,im⟩:=cnt5 x0 x1 v0 v1
 generalize He c 600=y600 at *
 generalize He c 601=y601 at *
 generalize He c 602=y602 at *
 obtain⟨SC,hSC⟩: ∃X,X=W.cl (sc.map W.int):=⟨_,rfl⟩
 obtain⟨T,hT⟩: ∃X,X=W.tl (ns.map W.str):=⟨_,rfl⟩
 rw[<-hSC] at ec ⊢
 rw[<-hT]
 have en: ∀h:List Ob,Ok (dE [.int (y602+(0+(k:Int))),.tl (bn.map W.str),T]) h fun w h'=>(∃R:Rr,w=.tl [.str R.tx,(R.en ns).w]/\NG bn ns R)/\h'=h:=fun h=>by rw[hT];exact uJ _ nb l4 mm n1 n10 nd
 simp! only[aa,ec]
 refine cQ er ?_
 simp! only[aa,adS (a:= "block ") (b:=nm) (by omega)]
 rw[<-sR]
 refine cR er (by rw[zr];exact Ai lL (by decide)) ?_
 simp!
 refine gC ?_
 obtain⟨MM,hMM⟩: ∃X:Int,X=(m:Int):=⟨_,rfl⟩
 rw[<-hMM] at im
 have eM:MM.toNat=m:=by omega
 simp! only[aa,s600,s601,aj (show (0:Int)<9 by decide),aj (show (0:Int)<5 by decide),im,fX (show (-(2 ^ 62):Int)<=MM by omega) (show MM<2 ^ 62 by omega)]
 have l1:(h.set jr (.lst (L.map W.str++[.str (Rr.block nm).tx]))).length=h.length:=zW ..
 obtain⟨h1,hh1⟩: ∃h1,h1=h.set jr (.lst (L.map W.str++[.str (Rr.block nm).tx])):=⟨_,rfl⟩
 rw[<-hh1] at l1 ⊢
 have er1:h1[jr]?=some (.lst ((L++[(Rr.block nm).tx]).map W.str)):=by rw[hh1,ck er,zw];rfl
 have ef1:h1[jf]?=some (.lst Fd):=by rw[hh1,zt ne];exact ef
 have fr1: ∀i,i≠jr->h1[i]?=h[i]?:=fun i hi=>by rw[hh1,zt (Ne.symm hi)]
 refine fY (I:=fun i ρ h'=> ∃S:List Rr,S.length=i/\(∀R∈S,SG bn R)/\(∃u10 u11 u12,ρ=[some SC,a1,some T,some (.loc jr),some (.tl (bn.map W.str)),some (.loc jf),some (.int (0+(k:Int))),some (.str nm),some (.int c),some (.loc h1.length),u10,u11,u12])/\h'.length=h1.length+1/\h'[jr]?=some (.lst ((L++(Rr.block nm).tx::S.map Rr.tx).map W.str))/\h'[h1.length]?=some (.lst (S.map Rr.form))/\ ∀i,i<h1.length->i≠jr->h'[i]?=h1[i]?) ⟨[],rfl,fun R hR=>absurd hR zQ,⟨_,_,_,rfl⟩,by simp,by rw[lI er1];rfl,gh,fun i hi _=>Aa hi⟩ (fun _ _ _ _=>trivial) (fun i w ρ h2 hw I=>?_) fun ρ h2 I=>?_
 ·obtain⟨S,rfl,gS,⟨u10,u11,u12,rfl⟩,l2,q1,q2,q3⟩:=I
  obtain⟨rfl,hi⟩:=dI _ _ _ _ hw
  rw[eM] at hi
  refine⟨_,rfl,?_⟩
  refine (zb (some SC) a1 (some T) (some (.loc jf)) (some (.int (0+(k:Int)))) (some (.str nm)) u11 u12 nb l4 (show (0:Int)<=0+(S.length:Int) by omega) (show jr≠h1.length by omega) q1 q2 (by rw[zv,zx,zr];omega) (by omega)).imp fun x h3 qz=>?_
  obtain⟨R,g,⟨u,v,ex⟩,eh⟩:=qz
  refine⟨_,ex,S++[R],by simp,fun Y hY=>?_,⟨_,_,_,rfl⟩,?_,?_,?_,?_⟩
  ·rcases zY.mp hY with hY|hY
   ·exact gS Y hY
   ·rw[zT.mp hY];exact g
  ·rw[eh,zW,zW];exact l2
  ·rw[eh,zt (by omega),ck q1]
   congr 3
   rw[zw,zV];rfl
  ·rw[eh]
   exact ck (a:=.lst (S.map Rr.form)) (by rw[zt (by omega)];exact q2)
  ·intro i hi hj
   rw[eh,zt (by omega),zt (Ne.symm hj)]
   exact q3 i hi hj
 ·obtain⟨S,lS,gS,⟨u10,u11,u12,rfl⟩,l2,q1,q2,q3⟩:=I
  rw[dt,eM] at lS
  simp! only[aa,s602]
  refine aV (en _) fun w h3 qq_=>?_
  obtain⟨⟨R,ew,g⟩,eh⟩:=qq_
  subst ew eh
  have tg:tgL [11,12] (.tl [.str R.tx,(R.en ns).w]) [some SC,a1,some T,some (.loc jr),some (.tl (bn.map W.str)),some (.loc jf),some (.int (0+(k:Int))),some (.str nm),some (.int c),some (.loc h1.length),u10,u11,u12]=some [some SC,a1,some T,some (.loc jr),some (.tl (bn.map W.str)),some (.loc jf),some (.int (0+(k:Int))),some (.str nm),some (.int c),some (.loc h1.length),u10,some (.str R.tx),some (R.en ns).w]:=rfl
  obtain⟨X,hX⟩: ∃X,X=R.tx:=⟨_,rfl⟩
  obtain⟨F,hF⟩: ∃F,F=(R.en ns).w:=⟨_,rfl⟩
  rw[<-hX,<-hF] at tg
  simp!
  rw[<-hX,<-hF]
  simp! only[aa,tg]
  refine cQ q1 ?_
  simp!
  refine cR q1 (by rw[zr,zv,zx,zr];exact Ai (show _<=200 by omega) (by decide)) ?_
  obtain⟨h4,hh4⟩: ∃h4,h4=h3.set jr (.lst ((L++(Rr.block nm).tx::S.map Rr.tx).map W.str++[.str X])):=⟨_,rfl⟩
  rw[<-hh4]
  have ef4:h4[jf]?=some (.lst Fd):=by rw[hh4,zt ne,q3 jf (by omega) (Ne.symm ne)];exact ef1
  have es4:h4[h1.length]?=some (.lst (S.map Rr.form)):=by rw[hh4,zt (by omega)];exact q2
  simp!
  refine cQ ef4 ?_
  simp!
  refine lj es4 ?_
  have ef5:(h4.set h1.length .gone)[jf]?=some (.lst Fd):=by rw[zt (by omega)];exact ef4
  simp!
  refine cR ef5 (Ai lF (by decide)) ?_
  simp!
  refine ak ⟨⟨nm,S,R⟩,rfl,⟨show S.length<=8 by omega,gS,g⟩,⟨_,_,_,_,_,rfl⟩,?_,?_,?_,?_⟩
  ·rw[zt (Ne.symm ne),zt (by omega),hh4,ck q1,hX]
   have e:(Bt.rows ⟨nm,S,R⟩).map Rr.tx=(Rr.block nm).tx::S.map Rr.tx++[R.tx]:=by
    show ((Rr.block nm)::(S++[R])).map Rr.tx=_
    rw[zD,zw];rfl
   rw[e,<-zV,zw (l₂:=[R.tx])];rfl
  ·rw[ck ef5,hF];rfl
  ·intro i hi h1' h2'
   rw[zt (Ne.symm h2'),zt (by omega),hh4,zt (Ne.symm h1'),q3 i (by omega) h1']
   exact fr1 i h1'
  ·rw[zW,zW,hh4,zW,l2];omega
end
section
open Wd
noncomputable def bxT (bq:List (Str×Int)):List (Str×Str):=bq.map fun b=>(b.1,(toString b.2:Str))
structure QG (bq:List (Str×Int)):Prop where
 g: ∀b∈bq,ah b.1=true/\0<=b.2/\b.2<=999
 n:(bq.map (·.1)).Nodup
 l:bq.length<=4
theorem rN {v:Int}(h0:0<=v)(h9:v<=999):Fu (toString v:Str)=true/\b6 (toString v:Str)=v/\Hh [.int v]=pr (.str (toString v)):=by
 obtain⟨k,rfl⟩: ∃k:Nat,v=(k:Int):=⟨v.toNat,by omega⟩
 obtain⟨a,b⟩:=gR k (by omega)
 refine⟨a,b,l9 ?_⟩
 by_cases z:k=0
 ·subst z;decide
 ·refine (AQ (by omega)).mpr (zH (show ((k:Int)).natAbs<2 ^ 10 by omega) (By (by omega) (show 10<=1920 by omega)))
theorem QG.bx {bq:List (Str×Int)}(G:QG bq):(∀x∈bxT bq,ah x.1=true/\Fu x.2=true)/\(bxT bq).map (·.1)=bq.map (·.1)/\bxV (bxT bq)=bq/\(bxT bq).length<=4:=by
 unfold bxT bxV
 refine⟨fun x hx=>?_,by rw[Aj];rfl,?_,by rw[zr];exact G.l⟩
 ·obtain⟨b,hb,rfl⟩:=zE.mp hx
  obtain⟨a,c,d⟩:=G.g b hb
  exact⟨a,(rN c d).1⟩
 ·rw[Aj]
  conv=>rhs;rw[<-List.map_id bq]
  refine A6 fun b hb=>?_
  obtain⟨a,c,d⟩:=G.g b hb
  show (b.1,b6 (toString b.2:Str))=b
  rw[(rN c d).2.1]
theorem DG:("box ":Str)= "box"++⟨#[32]⟩/\("box ":Str).length=4:=by decide+kernel
theorem DF (x v:Str):(Rr.box x v).tx= "box "++x++ " "++v:=by
 rw[DG.1,mj]
 show "box"++⟨#[32]⟩++(x++⟨#[32]⟩++v)=_
 simp only[sapp]
theorem tN {bl:List Bt}(h:∀b∈bl,b.ss.length<=8):((bl.flatMap Bt.rows).map Rr.tx).length<=10 * bl.length:=by rw[zr];exact Go h
theorem sM {h:List Ob}(sc:List Int){bq:List (Str×Int)}{ns:List Str}(G:QG bq)(mm: ∀x∈ns,ah x=true)(n10:ns.length<=10)(nd:ns.Nodup):Ok (du [.cl (sc.map W.int),.tl (bq.map bqW),.tl (ns.map W.str)]) h fun w h'=>(∃bl:List Bt,w=.tl [.tl (((pgR (bxT bq) bl).map Rr.tx).map W.str),.tup [.tl (bq.map bqW),.tl (bl.map (blW ns))]]/\bl.map Bt.nm=ns/\ ∀b∈bl,BG (bq.map (·.1)) ns b)/\Fo h.length h h':=by
 have e0:du [.cl (sc.map W.int),.tl (bq.map bqW),.tl (ns.map W.str)]=bd (dX [some (.cl (sc.map W.int)),some (.tl (bq.map bqW)),some (.tl (ns.map W.str)),none,none,none,none,none,none,none,none,none,none]) D6:=rfl
 rw[e0,iN]
 obtain⟨_,_,_,_,k4,_⟩:=lC
 have ql:=G.l
 have b4:=DG.2
 have gq: ∀ {α:Type} (q:M α),gd ((bq.map bqW).length<=sizeLine) q=q:=fun q=>af (by rw[zr];exact sz (by omega))
 obtain⟨SC,hSC⟩: ∃X,X=W.cl (sc.map W.int):=⟨_,rfl⟩
 obtain⟨T,hT⟩: ∃X,X=W.tl (ns.map W.str):=⟨_,rfl⟩
 rw[<-hSC,<-hT]
 have sT:DZ [T]=pr ⟨Fw 0 (ns.map W.str),fun _=>True⟩:=by rw[hT];rfl
 simp! only[aa,bX,gq]
 refine cx (I:=fun i a h'=>h'=h/\a=(((bxT bq).take i).map fun b=>W.str (Rr.box b.1 b.2).tx)) ⟨rfl,rfl⟩ dy (fun _ _ _ _=>trivial) (fun i w a h' hw I=>?_) fun a h' I=>?_
 ·obtain⟨rfl,rfl⟩:=I
  rw[zG] at hw
  obtain⟨b,hb,rfl⟩:=zM.mp hw
  obtain⟨g1,g2,g3⟩:=G.g b (Ad hb)
  obtain⟨y1,y2,y3⟩:=rN g2 g3
  have nl:=(br g1).len
  have vl:=(lq y1).len
  have et:(bxT bq)[i]?=some (b.1,(toString b.2:Str)):=by unfold bxT;rw[zG,hb];rfl
  refine⟨[some (.str b.1),some (.int b.2),none,some SC,some (.tl (bq.map bqW)),some T,none,none,none,none,none,none,none,none,none,none],rfl,?_⟩
  generalize (toString b.2:Str)=V at *
  simp! only[aa,y3,adS (a:= "box ") (b:=b.1) (by omega),adS (a:= "box "++b.1) (b:= " ") (by rw[GZ];omega),adS (a:= "box "++b.1++ " ") (b:=V) (by rw[GZ,GZ];omega)]
  refine ak ⟨rfl,?_⟩
  rw[Ae,et,zw,<-DF];rfl
 obtain⟨rfl,rfl⟩:=I
 have lb:(bq.map bqW).length=(bxT bq).length:=by unfold bxT;rw[zr,zr]
 rw[lb,Ab]
 obtain⟨L0,hL0⟩: ∃L0,L0=(bxT bq).map fun b=>(Rr.box b.1 b.2).tx:=⟨_,rfl⟩
 have eL0:((bxT bq).map fun b=>W.str (Rr.box b.1 b.2).tx)=L0.map W.str:=by rw[hL0,Aj];rfl
 have lL0:L0.length<=4:=by rw[hL0,zr];exact G.bx.2.2.2
 rw[eL0]
 simp!
 refine gC ?_
 simp! only[aa,bX,gq]
 refine cx (I:=fun i a h2=>h2=h'++[.lst (L0.map W.str)]/\a=((bq.map (·.1)).take i).map W.str) ⟨rfl,rfl⟩ dy (fun _ _ _ _=>trivial) (fun i w a h2 hw I=>?_) fun a h2 I=>?_
 ·obtain⟨rfl,rfl⟩:=I
  rw[zG] at hw
  obtain⟨b,hb,rfl⟩:=zM.mp hw
  refine⟨[some (.str b.1),some (.int b.2),none,some SC,some (.tl (bq.map bqW)),some T,some (.loc h'.length),none,none,none,none,none,none,none,none,none],rfl,?_⟩
  simp!
  refine ak ⟨rfl,?_⟩
  have:(bq.map (·.1))[i]?=some b.1:=by rw[zG,hb];rfl
  rw[Ae,this,zw];rfl
 obtain⟨rfl,rfl⟩:=I
 have lb2:(bq.map bqW).length=(bq.map (·.1)).length:=by rw[zr,zr]
 rw[lb2,Ab]
 simp!
 refine gC ?_
 have ll:(h'++[Ob.lst (L0.map W.str)]).length=h'.length+1:=by simp
 have nb: ∀x∈bq.map (·.1),ah x=true:=fun x hx=>by
  obtain⟨b,hb,rfl⟩:=zE.mp hx
  exact (G.g b hb).1
 have nb4:(bq.map (·.1)).length<=4:=by rw[zr];exact ql
 obtain⟨bn,hbn⟩: ∃bn,bn=bq.map (·.1):=⟨_,rfl⟩
 rw[<-hbn] at nb nb4 ⊢
 simp! only[aa,sT]
 rw[ll]
 have j0:(h'++[Ob.lst (L0.map W.str)]++[Ob.lst []])[h'.length]?=some (.lst (L0.map W.str)):=lI gh
 have j1:(h'++[Ob.lst (L0.map W.str)]++[Ob.lst []])[h'.length+1]?=some (.lst []):=by rw[<-ll];exact gh
 refine fY (I:=fun i ρ h2=> ∃bl:List Bt,bl.length=i/\bl.map Bt.nm=ns.take i/\(∀b∈bl,BG bn ns b)/\(∃u6 u7 u8 u9 u10 u11 u12,ρ=[some SC,some (.tl (bq.map bqW)),some T,some (.loc h'.length),some (.tl (bn.map W.str)),some (.loc (h'.length+1)),u6,u7,u8,u9,u10,u11,u12])/\h2[h'.length]?=some (.lst ((L0++(bl.flatMap Bt.rows).map Rr.tx).map W.str))/\h2[h'.length+1]?=some (.lst (bl.map (blW ns)))/\(∀i,i<h'.length->h2[i]?=h'[i]?)) ⟨[],rfl,rfl,fun b hb=>absurd hb zQ,⟨_,_,_,_,_,_,_,rfl⟩,by rw[j0];show _=some (Ob.lst ((L0++[]).map W.str));rw[zZ],j1,fun i hi=>by rw[zV,Aa hi]⟩ (fun _ _ _ _=>trivial) (fun i w ρ h2 hw I=>?_) fun ρ h2 I=>?_
 ·obtain⟨bl,rfl,en,gb,⟨u6,u7,u8,u9,u10,u11,u12,rfl⟩,q1,q2,q3⟩:=I
  obtain⟨x,hx,rfl⟩:=gQ _ _ _ _ hw
  rw[zG] at hx
  obtain⟨nm,hk,rfl⟩:=zM.mp hx
  have hi:=(zO.mp hk).1
  have rl:=tN fun b hb=>(gb b hb).l
  refine⟨_,rfl,?_⟩
  rw[hSC,hT]
  refine (y7 sc (some (.tl (bq.map bqW))) u8 u9 u10 u11 u12 nb nb4 mm n10 nd hk (show h'.length≠h'.length+1 by omega) q1 q2 (by rw[zv];omega) (by rw[zr];omega)).imp fun x h3 qz=>?_
  obtain⟨b,bn',g,⟨v8,v9,v10,v11,v12,ex⟩,p1,p2,p3,p4⟩:=qz
  refine⟨_,ex,bl++[b],by simp,?_,fun y hy=>?_,⟨_,_,_,_,_,_,_,rfl⟩,?_,?_,fun i hi'=>?_⟩
  ·rw[zw,en,Ae,hk,<-bn'];rfl
  ·rcases zY.mp hy with hy|hy
   ·exact gb y hy
   ·rw[zT.mp hy];exact g
  ·rw[p1,List.flatMap_append,zw (f:=Rr.tx),zV]
   show _=some (Ob.lst ((L0++((bl.flatMap Bt.rows).map Rr.tx++(b.rows++[]).map Rr.tx)).map W.str))
   rw[zZ]
  ·rw[p2,zw];rfl
  ·rw[p3 i (by have:=cC q1;omega) (by omega) (by omega)];exact q3 i hi'
 ·obtain⟨bl,lbl,en,gb,⟨u6,u7,u8,u9,u10,u11,u12,rfl⟩,q1,q2,q3⟩:=I
  rw[eD,zr] at lbl en
  rw[Ab] at en
  simp!
  refine lj q1 ?_
  have q4:(h2.set h'.length .gone)[h'.length+1]?=some (.lst (bl.map (blW ns))):=by rw[zt (by omega)];exact q2
  simp!
  refine lj q4 ?_
  simp!
  refine ak ⟨⟨bl,?_,en,gb⟩,fun i hi=>?_,?_⟩
  ·unfold pgR
   have:((bxT bq).map fun b=>Rr.box b.1 b.2).map Rr.tx=L0:=by rw[hL0,Aj];rfl
   rw[zw (f:=Rr.tx),this]
  ·rw[zt (by omega),zt (by omega)];exact q3 i hi
  ·rw[zW,zW];have:=cC q2;omega
theorem uV {v:Int}(h0:0<=v)(h1:v<4): ∃x:Int,0<=x/\x<=999/\ixW (.tl [.int 0,.int 999,.int 7,.int 40]) (.int v)=pr (.int x):=by
 have:v=0\/v=1\/v=2\/v=3:=by omega
 rcases this with rfl|rfl|rfl|rfl
 ·exact⟨0,by decide,by decide,bt (aE (by decide) rfl)⟩
 ·exact⟨999,by decide,by decide,bt (aE (by decide) rfl)⟩
 ·exact⟨7,by decide,by decide,bt (aE (by decide) rfl)⟩
 ·exact⟨40,by decide,by decide,bt (aE (by decide) rfl)⟩
structure PG6 (bq:List (Str×Int))(ns:List Str)(bl:List Bt):Prop where
 q:QG bq
 mm: ∀x∈ns,ah x=true
 n1:1<=ns.length
 n10:ns.length<=10
 nd:ns.Nodup
 en:bl.map Bt.nm=ns
 g: ∀b∈bl,BG (bq.map (·.1)) ns b
theorem PG6.px {bq:List (Str×Int)}{ns:List Str}{bl:List Bt}(G:PG6 bq ns bl):Du (bxT bq) bl:=by
 obtain⟨x1,x2,x3,x4⟩:=G.q.bx
 have ln:bl.length=ns.length:=by rw[<-G.en,zr]
 refine⟨x1,by rw[x2];exact G.q.n,x4,by rw[G.en];exact G.nd,by rw[ln];exact G.n10,by rw[ln];exact G.n1,fun b hb=>?_⟩
 have g:=G.g b hb
 rw[x2,G.en]
 exact⟨G.mm _ (by rw[<-G.en];exact AD hb),g.l,fun r hr=>⟨(g.s r hr).st,(g.s r hr).ok,(g.s r hr).b⟩,g.e.en,g.e.ok,g.e.b,g.e.to⟩
def bK:Dl->M Fl:=(sIf (mB (m2 eqW (m2 Fj (EW (arW 2 ag) (EY (Ff 1) (EY (mC (.int 622)) E5))) (mC (.int 3))) (mC (.int 0)))) (GG 4 (m3 slW (m2 DC (Ff 2) (mTl (EX [] (Fb (Ff 4) G9) (tgN 0) (mB (m2 b7 (Ff 0) (Ff 4))) (Ff 0) 2))) aA (E8 (EW EQ (EY (Ff 4) E5))))) GC)
theorem gM:dg=(GF (GG 1 (EW (arW 2 cH) (EY (Ff 0) (EY (mC (.int 0)) E5)))) (GF (GG 2 (m3 slW (EW (arW 3 ci) (EY (Ff 1) (EY (mC (.int 300)) (EY (mC (.int 4)) E5)))) aA (E8 (m2 Fj (EW (arW 2 ag) (EY (Ff 1) (EY (mC (.int 620)) E5))) (mC (.int 5)))))) (GF (GG 3 (mTl (EX [] (Fc (EY (Ff 2) E5) DZ) (tgT [0,1]) Fg (Fe (EY (Ff 1) (EY (m2 ixW (mTl (EO (EY (mC (.int 0)) (EY (mC (.int 999)) (EY (mC (.int 7)) (EY (mC (.int 40)) E5)))))) (m2 Fj (m2 DC (m2 D5 (EW (arW 2 ag) (EY (Ff 4) (EY (mC (.int 630)) E5))) (mC (.int 4))) (Ff 0)) (mC (.int 4)))) E5))) 3))) (GF (GG 4 (m3 slW (EW (arW 3 ci) (EY (Ff 1) (EY (mC (.int 400)) (EY (mC (.int 10)) E5)))) aA (E8 (m2 DC (mC (.int 1)) (m2 Fj (EW (arW 2 ag) (EY (Ff 1) (EY (mC (.int 621)) E5))) (mC (.int 10))))))) (GF bK (GD (EW (arW 3 du) (EY (Ff 0) (EY (Ff 3) (EY (Ff 4) E5)))))))))):=rfl
theorem za {h:List Ob}{hd:Int}{so bs:List Str}(a0 a3:Option W)(gs: ∀x∈so,ah x=true)(ds:so.Nodup)(gb: ∀x∈bs,ah x=true)(db:bs.Nodup)(b1:1<=bs.length)(b10:bs.length<=10)(s4:so.length<=4):
  Ok (bK [a0,some (.int hd),some (.tl (so.map W.str)),a3,some (.tl (bs.map W.str))]) h fun x h'=>(∃ns:List Str,x=.nx [a0,some (.int hd),some (.tl (so.map W.str)),a3,some (.tl (ns.map W.str))]/\(∀x∈ns,ah x=true)/\ns.Nodup/\1<=ns.length/\ns.length<=10)/\h'=h:=by
 unfold bK
 have s622:=bw (c:=hd) (show (0:Int)<=622 by decide)
 generalize He hd 622=y at *
 by_cases c:y % 3=0
 ·have gl: ∀ {α:Type} (q:M α),gd ((bs.map W.str).length<=sizeLine) q=q:=fun q=>af (by rw[zr];exact sz (by omega))
  simp! only[aa,s622,aj (show (0:Int)<3 by decide),decide_eq_true c,bX,gl]
  refine ju (I:=fun i a h2=>h2=h/\a=((bs.take i).filter fun z=>!decide (z∈so)).map W.str) ⟨rfl,rfl⟩ (fun _ _ _ _=>trivial) (fun i w a h2 hw I=>?_) fun a h2 I=>?_
  ·obtain⟨rfl,rfl⟩:=I
   rw[zG] at hw
   obtain⟨x,hx,rfl⟩:=zM.mp hw
   refine⟨_,rfl,?_⟩
   simp! only[List.replicate,Ac,z0,aa,jx]
   have et:(bs.take (i+1)).filter (fun z=>!decide (z∈so))=(bs.take i).filter (fun z=>!decide (z∈so))++[x].filter (fun z=>!decide (z∈so)):=by rw[Ae,hx,BO];rfl
   by_cases hm:x∈so
   ·rw[decide_eq_true hm]
    refine ak (.inl ⟨rfl,rfl,?_⟩)
    rw[et,AS (by simp [hm]),A4,zZ]
   ·rw[decide_eq_false hm]
    refine ak (.inr ⟨rfl,ak ⟨rfl,?_⟩⟩)
    rw[et,AR (by simp [hm]),A4,zw];rfl
  ·obtain⟨rfl,rfl⟩:=I
   rw[zr,Ab]
   obtain⟨fl,hfl⟩: ∃fl,fl=bs.filter fun z=>!decide (z∈so):=⟨_,rfl⟩
   have lfl:fl.length<=bs.length:=by rw[hfl];exact List.length_filter_le _ _
   have ad:DC (.tl (so.map W.str)) (.tl (fl.map W.str))=pr (.tl ((so++fl).map W.str)):=by
    rw[lR _ _ (by rw[zr,zr];exact sz (by omega)),zw]
   have ct:DS ((so++fl).map W.str) none (some ((bs.length:Nat):Int))=((so++fl).take bs.length).map W.str:=by
    rw[DT _ (by omega),<-A5,Int.toNat_natCast]
   rw[<-hfl]
   simp! only[aa,ad,zr,ct]
   refine ak ⟨⟨(so++fl).take bs.length,rfl,fun x hx=>?_,?_,?_,?_⟩,rfl⟩
   ·rcases zY.mp (Ay hx) with hx|hx
    ·exact gs x hx
    ·rw[hfl] at hx;exact gb x (AE.mp hx).1
   ·refine List.Nodup.sublist (AO _ _) ?_
    rw[AL]
    refine⟨ds,by rw[hfl];exact db.filter _,fun a ha b hb e=>?_⟩
    rw[hfl] at hb
    have:=(AE.mp hb).2
    rw[<-e] at this
    simp [ha] at this
   ·rw[z7,zv]
    cases so with
    |nil=>
     have:fl=bs:=by rw[hfl];exact A2.mpr fun z _=>by simp
     rw[this];simp;omega
    |cons a r=>rw[zx];omega
   ·rw[z7];omega
 ·simp! only[aa,s622,aj (show (0:Int)<3 by decide),decide_eq_false c]
  exact ak ⟨⟨bs,rfl,gb,db,b1,b10⟩,rfl⟩
theorem on {h:List Ob}(sc:List Int):Ok (di [.cl (sc.map W.int)]) h fun w h'=>(∃bq ns bl,PG6 bq ns bl/\w=.tl [.tl (((pgR (bxT bq) bl).map Rr.tx).map W.str),.tup [.tl (bq.map bqW),.tl (bl.map (blW ns))]])/\Fo h.length h h':=by
 have e0:di [.cl (sc.map W.int)]=bd (dg [some (.cl (sc.map W.int)),none,none,none,none]) D6:=rfl
 rw[e0,gM]
 obtain⟨hd,ec⟩:=mQ sc 0
 have s620:=bw (c:=hd) (show (0:Int)<=620 by decide)
 have s621:=bw (c:=hd) (show (0:Int)<=621 by decide)
 have s630:=bw (c:=hd) (show (0:Int)<=630 by decide)
 have p620:=zX (He hd 620) (show (5:Int)≠0 by decide)
 have r620:=z6 (He hd 620) (show (0:Int)<5 by decide)
 have p621:=zX (He hd 621) (show (10:Int)≠0 by decide)
 have r621:=z6 (He hd 621) (show (0:Int)<10 by decide)
 generalize He hd 620=y0 at *
 generalize He hd 621=y1 at *
 generalize He hd 630=y3 at *
 obtain⟨SC,hSC⟩: ∃X,X=W.cl (sc.map W.int):=⟨_,rfl⟩
 rw[<-hSC] at ec ⊢
 simp! only[aa,ec]
 refine aV (kj hd 300 (many:=4) rfl (by decide) (by decide)) fun w h1 qq_=>?_
 obtain⟨⟨l0,ew,l04,nd0,na0⟩,F1⟩:=qq_
 subst ew
 obtain⟨so,hso⟩: ∃so,so=l0.take (y0 % 5).toNat:=⟨_,rfl⟩
 have sl0:slW (.tl (l0.map W.str)) none (some (y0 % 5))=pr (.tl (so.map W.str)):=by rw[slW_tl,DT _ p620,<-A5,<-hso]
 have s4:so.length<=4:=by rw[hso,z7,l04];omega
 have gs: ∀x∈so,ah x=true:=fun x hx=>na0 x (by rw[hso] at hx;exact Ay hx)
 have ds:so.Nodup:=by rw[hso];exact nd0.sublist (AO _ _)
 have gl: ∀ {α:Type} (q:M α),gd ((Fw 0 (so.map W.str)).length<=sizeLine) q=q:=fun q=>af (by rw[eD,zr];exact sz (by omega))
 generalize W.tl (l0.map W.str)=L0 at *
 simp! only[aa,s620,aj (show (0:Int)<5 by decide),sl0,sG,gl]
 refine cx (I:=fun i a h2=>h2=h1/\ ∃vs:List Int,vs.length=i/\(∀v∈vs,0<=v/\v<=999)/\a=((so.take i).zip vs).map bqW) ⟨rfl,[],rfl,fun v hv=>absurd hv zQ,rfl⟩ dy (fun _ _ _ _=>trivial) (fun i w a h2 hw I=>?_) fun a h2 I=>?_
 ·obtain⟨rfl,vs,rfl,gv,rfl⟩:=I
  obtain⟨x,hx,rfl⟩:=gQ _ _ _ _ hw
  rw[zG] at hx
  obtain⟨nm,hk,rfl⟩:=zM.mp hx
  have hi:=(zO.mp hk).1
  have v0:=zX (y3 / 4+(0+(vs.length:Int))) (show (4:Int)≠0 by decide)
  have v1:=z6 (y3 / 4+(0+(vs.length:Int))) (show (0:Int)<4 by decide)
  obtain⟨v,w0,w1,iv⟩:=uV v0 v1
  refine⟨_,rfl,?_⟩
  simp! only[List.replicate,Ac,z0,aa,s630,aB (show (0:Int)<4 by decide) (by decide),aj (show (0:Int)<4 by decide),iv]
  refine ak ⟨rfl,vs++[v],by simp,fun z hz=>?_,?_⟩
  ·rcases zY.mp hz with hz|hz
   ·exact gv z hz
   ·rw[zT.mp hz];exact⟨w0,w1⟩
  ·rw[Ae,hk]
   show _=(List.zip (so.take vs.length++[nm]) (vs++[v])).map bqW
   rw[List.zip_append (by rw[z7];omega),zw];rfl
 obtain⟨rfl,vs,lv,gv,rfl⟩:=I
 rw[eD,zr] at lv
 rw[eD,zr,Ab]
 have G:QG (so.zip vs):=by
  have e1:(so.zip vs).map (·.1)=so:=List.map_fst_zip (by omega)
  refine⟨fun b hb=>?_,by rw[e1];exact ds,by rw[List.length_zip];omega⟩
  obtain⟨a1,a2⟩:=AN (a:=b.1) (b:=b.2) hb
  exact⟨gs _ a1,gv _ a2⟩
 generalize so.zip vs=bq at *
 simp!
 refine aV (kj hd 400 (many:=10) rfl (by decide) (by decide)) fun w h3 qq_=>?_
 obtain⟨⟨l1,ew,l10,nd1,na1⟩,F3⟩:=qq_
 subst ew
 obtain⟨bs,hbs⟩: ∃bs,bs=l1.take (1+y1 % 10).toNat:=⟨_,rfl⟩
 have sl1:slW (.tl (l1.map W.str)) none (some (1+y1 % 10))=pr (.tl (bs.map W.str)):=by rw[slW_tl,DT _ (by omega),<-A5,<-hbs]
 have bl:bs.length=(1+y1 % 10).toNat:=by rw[hbs,z7,l10];omega
 have gb: ∀x∈bs,ah x=true:=fun x hx=>na1 x (by rw[hbs] at hx;exact Ay hx)
 have db:bs.Nodup:=by rw[hbs];exact nd1.sublist (AO _ _)
 generalize W.tl (l1.map W.str)=L1 at *
 simp! only[aa,s621,aj (show (0:Int)<10 by decide),sl1]
 refine aV (za (some SC) (some (.tl (bq.map bqW))) gs ds gb db (by omega) (by omega) s4) fun x h4 qq_=>?_
 obtain⟨⟨ns,ex,g1,g2,g3,g4⟩,eh⟩:=qq_
 subst ex eh
 simp!
 rw[hSC]
 refine aV (sM sc G g1 g4 g2) fun w h5 qq_=>?_
 obtain⟨⟨bl,ew,en,gb⟩,F5⟩:=qq_
 subst ew
 simp!
 exact ak ⟨⟨bq,ns,bl,⟨G,g1,g3,g4,g2,en,gb⟩,rfl⟩,Fo.trans F1 (Fo.trans ⟨fun i hi=>F3.eq i (zH hi F1.le),F3.le⟩ ⟨fun i hi=>F5.eq i (zH hi (zJ F1.le F3.le)),F5.le⟩)⟩
end
section
open Wd
def Dd (h:List Ob):Nat->W->Prop
 |0,_=>False
 |n+1,w=>(∃i,w=.int i)\/(∃z,w=.str z)\/ ∃l,(w=.tup l\/w=.tl l\/ ∃k,w=.loc k/\h[k]?=some (.lst l))/\l.length<=1000/\ ∀x∈l,Dd h n x
theorem Pd.dd {h:List Ob}: ∀ {n:Nat}{w:W},Pd n w->Dd h n w
 |n+1,w,p=>by
  rcases p with p|⟨z,p,_⟩|⟨l,e,z,p⟩
  ·exact .inl p
  ·exact .inr (.inl ⟨z,p⟩)
  ·exact .inr (.inr ⟨l,e.imp id .inl,z,fun x hx=>(p x hx).dd⟩)
theorem uX:eqW (.tl []) (.tl [])=pr (.bl true):=ni fun x hx=>absurd hx zQ
theorem isiP {l:List W}:Eu [.tup l,.tup [.ty "tuple",.ty "list"]]=pr (.bl true):=af (by decide)
theorem iB {h:List Ob}{x:W}{t c d:String}(hx: ∀l,x≠.tup l)(e:tyN x h=some t)(hc:(c,d)∈Gc):Eu [x,.tup [.ty c,.ty d]] h=.ok (.bl (isT t c||isT t d)) h:=by
 have q:Eu [x,.tup [.ty c,.ty d]] h=(match tyN x h with
  |some t=>if (c,d)∈Gc then Rs.ok (W.bl (isT t c||isT t d)) h else .bad
  |none=>.bad):=by cases x<;>first|rfl|exact absurd rfl (hx _)
 rw[q,e]
 dsimp only
 rw[if_pos hc]
theorem lU: ∀ (n:Nat) {h:List Ob}{w:W},Dd h n w->Ok (bH n [w]) h fun v h'=>v=.bl true/\h'=h
 |0,h,w,p=>p.elim
 |n+1,h,w,p=>by
  have e0:bH (n+1) [w]=bd (dU (bH n) [some w]) D6:=rfl
  rw[e0]
  unfold dU
  have tail: ∀ {k:W->M W}{l:List W}{G:List Ob->Prop},G h->(∀x∈l,Dd h n x)->(∀a h',a=.bl true->h'=h->Ok (k a) h' fun v h'=>v=.bl true/\h'=h)->Ok (bd (DP G (tgN 0) (E6 (mB (EW (arW 1 (bH n)) (EY (Ff 0) E5)))) (Ff 0) 2 l [some w]) fun x=>bd (eqW (.tl x) (.tl [])) k) h fun v h'=>v=.bl true/\h'=h:=fun{k l G} hG hd hk=>by
   refine ju (I:=fun i a h2=>h2=h/\a=[]) ⟨rfl,rfl⟩ (fun i a h2 I=>by rw[I.1];exact hG) (fun i w a h2 hw I=>?_) fun a h2 I=>?_
   ·obtain⟨rfl,rfl⟩:=I
    refine⟨_,rfl,?_⟩
    simp! only[List.replicate,Ac,z0,aa]
    refine aV (lU n (hd w (Ad hw))) fun v h3 qq_=>?_
    obtain⟨ev,eh⟩:=qq_
    subst ev eh
    simp!
    exact ak (.inl ⟨rfl,by simp⟩)
   ·obtain⟨rfl,rfl⟩:=I
    rw[uX]
    exact hk _ _ rfl rfl
  rcases p with⟨i,rfl⟩|⟨z,rfl⟩|⟨l,e,lz,hd⟩
  ·have a1:=iB (h:=h) (x:=.int i) (t:= "int") (c:= "tuple") (d:= "list") (fun l z=>by cases z) rfl (by decide)
   have a2:=iB (h:=h) (x:=.int i) (t:= "int") (c:= "str") (d:= "int") (fun l z=>by cases z) rfl (by decide)
   have a3:Ev [.int i,.ty "bool"] h=.ok (.bl false) h:=rfl
   simp!
   refine bb a1 ?_
   simp! only[aa,show (isT "int" "tuple"||isT "int" "list")=false by decide]
   refine bb a2 ?_
   simp! only[aa,show (isT "int" "str"||isT "int" "int")=true by decide]
   refine bb a3 ?_
   simp!
   exact ak ⟨rfl,rfl⟩
  ·have a1:=iB (h:=h) (x:=.str z) (t:= "str") (c:= "tuple") (d:= "list") (fun l z=>by cases z) rfl (by decide)
   have a2:=iB (h:=h) (x:=.str z) (t:= "str") (c:= "str") (d:= "int") (fun l z=>by cases z) rfl (by decide)
   have a3:Ev [.str z,.ty "bool"] h=.ok (.bl false) h:=rfl
   simp!
   refine bb a1 ?_
   simp! only[aa,show (isT "str" "tuple"||isT "str" "list")=false by decide]
   refine bb a2 ?_
   simp! only[aa,show (isT "str" "str"||isT "str" "int")=true by decide]
   refine bb a3 ?_
   simp!
   exact ak ⟨rfl,rfl⟩
  ·have gl: ∀ {α:Type} (q:M α),gd (l.length<=sizeLine) q=q:=fun q=>af (sz (by omega))
   rcases e with rfl|rfl|⟨j,rfl,ej⟩
   ·simp! only[aa,isiP,Hc,gl]
    refine tail (G:=fun _=>True) trivial hd fun a h' ea eh=>?_
    subst ea eh
    simp!
    exact ak ⟨rfl,rfl⟩
   ·have a1:=iB (h:=h) (x:=.tl l) (t:= "list") (c:= "tuple") (d:= "list") (fun l z=>by cases z) rfl (by decide)
    simp!
    refine bb a1 ?_
    simp! only[aa,show (isT "list" "tuple"||isT "list" "list")=true by decide,Hc,bX,gl]
    refine tail (G:=fun _=>True) trivial hd fun a h' ea eh=>?_
    subst ea eh
    simp!
    exact ak ⟨rfl,rfl⟩
   ·have a1:=iB (h:=h) (x:=.loc j) (t:= "list") (c:= "tuple") (d:= "list") (fun l z=>by cases z) (by unfold tyN;simp only[ej]) (by decide)
    have sl:Hc (.loc j)=G9 (.loc j):=rfl
    simp!
    refine bb a1 ?_
    simp! only[aa,show (isT "list" "tuple"||isT "list" "list")=true by decide]
    rw[sl]
    refine lh ej ?_
    simp! only[aa,gl]
    refine tail (G:=fun h=>h[j]?=some (.lst l)) ej hd fun a h' ea eh=>?_
    subst ea eh
    simp!
    exact ak ⟨rfl,rfl⟩
theorem jI {h:List Ob}{k n:Nat}{l:List W}(e:h[k]?=some (.lst l)):DV h (n+1) (.loc k)=DV h (n+1) (.tl l):=by
 show (match h[k]? with
  |some (.lst l)=>(FV (DV h n) l).map C9.list
  |_=>none)=_
 rw[e];rfl
theorem iU {f:W->Option C9}: ∀ {l m:List W},l.map f=m.map f->FV f l=FV f m
 |[],[],_=>rfl
 |[],_::_,h=>by simp at h
 |_::_,[],h=>by simp at h
 |x::l,y::m,h=>by
  rw[zD,zD] at h
  injection h with h1 h2
  simp only[FV,h1,iU h2]
def prW (bq:List (Str×Int))(ns:List Str)(bl:List Bt):W:=.tup [.tl (bq.map bqW),.tl (bl.map (blW ns))]
theorem PG6.pd {bq:List (Str×Int)}{ns:List Str}{bl:List Bt}(G:PG6 bq ns bl):Pd 50 (prW bq ns bl):=by
 have ln:bl.length=ns.length:=by rw[<-G.en,zr]
 have n10:=G.n10
 have q4:=G.q.l
 refine Pd.up (n:=11) (.tup (by simp) (aK (.lst (by rw[zr];omega) fun x hx=>?_) (aK (.lst (by rw[zr];omega) fun x hx=>?_) eg))) (by decide)
 ·obtain⟨b,hb,rfl⟩:=zE.mp hx
  exact FZ (eQ (G.q.g b hb).1)
 ·obtain⟨b,hb,rfl⟩:=zE.mp hx
  have g:=G.g b hb
  have nm:=G.mm b.nm (by rw[<-G.en];exact AD hb)
  refine pdT (n:=8) (by simp) (aK (.str (eQ nm)) (aK (.lst (by rw[zr];have:=g.l;omega) fun y hy=>?_) (aK (g.e.pd.up (by decide)) eg)))
  obtain⟨R,hR,rfl⟩:=zE.mp hy
  exact (g.s R hR).pd
section
variable {h:List Ob}{o jb jl:Nat}{dl:List (Nat×Str×List W×Rr)}{bq:List (Str×Int)}{ns:List Str}{bl:List Bt}{st:List W}
theorem pR (T:Dy h o jb jl dl ⟨bq,ns,bl.map (fun b=>(b.nm,b.ss.map Rr.form,b.e)),st⟩):DV h 50 (.tup [.loc jb,.loc jl])=DV h 50 (prW bq ns bl):=by
 have e1:DV h 49 (.loc jb)=DV h 49 (.tl (bq.map bqW)):=jI T.b
 have e2:DV h 49 (.loc jl)=DV h 49 (.tl (bl.map (blW ns))):=by
  rw[jI T.l]
  show (FV (DV h 48) (dl.map (bkP ns))).map C9.list=(FV (DV h 48) (bl.map (blW ns))).map C9.list
  congr 1
  refine iU ?_
  have eb:bl.map (blW ns)=(dl.map (·.2)).map fun b=>W.tup [.str b.1,.tl b.2.1,(b.2.2.en ns).w]:=by
   rw[T.d,Aj];rfl
  rw[eb,Aj,Aj,Aj]
  refine A6 fun x hx=>?_
  show DV h 48 (.tup [.str x.2.1,.loc x.1,(x.2.2.2.en ns).w])=DV h 48 (.tup [.str x.2.1,.tl x.2.2.1,(x.2.2.2.en ns).w])
  show (FV (DV h 47) [.str x.2.1,.loc x.1,(x.2.2.2.en ns).w]).map C9.tuple=(FV (DV h 47) [.str x.2.1,.tl x.2.2.1,(x.2.2.2.en ns).w]).map C9.tuple
  congr 1
  refine iU ?_
  rw[zD,zD,zD,zD,jI (T.pl x hx)];rfl
 show (FV (DV h 49) [.loc jb,.loc jl]).map C9.tuple=(FV (DV h 49) [.tl (bq.map bqW),.tl (bl.map (blW ns))]).map C9.tuple
 congr 1
 refine iU ?_
 rw[zD,zD,zD,e1,e2];rfl
theorem qN (T:Dy h o jb jl dl ⟨bq,ns,bl.map (fun b=>(b.nm,b.ss.map Rr.form,b.e)),st⟩)(G:PG6 bq ns bl):eqB (.tup [.loc jb,.loc jl]) (prW bq ns bl) h=some true:=by
 obtain⟨d,e,c⟩:=G.pd.data (h:=h)
 have e':=pR T
 rw[e] at e'
 have q:(match DV h 50 (.tup [.loc jb,.loc jl]),DV h 50 (prW bq ns bl) with
  |some d,some e=>if d.canLay0=true/\e.canLay0=true then some (C9.eqv d e) else none
  |_,_=>none)=some true:=by
  rw[e,e']
  show (if d.canLay0=true/\d.canLay0=true then some (C9.eqv d d) else none)=_
  rw[if_pos ⟨c,c⟩,ng d c]
 exact q
theorem sZ (T:Dy h o jb jl dl ⟨bq,ns,bl.map (fun b=>(b.nm,b.ss.map Rr.form,b.e)),st⟩)(G:PG6 bq ns bl):Dd h 12 (.tup [.loc jb,.loc jl]):=by
 have q4:=G.q.l
 have ln:bl.length=ns.length:=by rw[<-G.en,zr]
 have n10:=G.n10
 have ld:dl.length=bl.length:=by
  have:=congrArg List.length T.d
  simpa using this
 have two: ∀ {n:Nat}{a b:W},Dd h n a->Dd h n b-> ∀x∈[a,b],Dd h n x:=fun p q x hx=>by
  rcases zA.mp hx with rfl|hx
  ·exact p
  ·rw[zT.mp hx];exact q
 refine .inr (.inr ⟨_,.inl rfl,by simp,two (.inr (.inr ⟨_,.inr (.inr ⟨jb,rfl,T.b⟩),by rw[zr];show bq.length<=1000;omega,fun x hx=>?_⟩)) (.inr (.inr ⟨_,.inr (.inr ⟨jl,rfl,T.l⟩),by rw[zr];omega,fun x hx=>?_⟩))⟩)
 ·obtain⟨b,hb,rfl⟩:=zE.mp hx
  have hb:b∈bq:=hb
  exact (FZ (n:=8) (eQ (G.q.g b hb).1)).dd
 ·obtain⟨x,hxd,rfl⟩:=zE.mp hx
  have hm:x.2∈dl.map (·.2):=AD hxd
  rw[T.d] at hm
  have hm:x.2∈bl.map (fun b=>(b.nm,b.ss.map Rr.form,b.e)):=hm
  obtain⟨b,hb,eb⟩:=zE.mp hm
  have g:=G.g b hb
  have pl:=T.pl x hxd
  rw[<-eb] at pl
  refine .inr (.inr ⟨_,.inl rfl,by simp,fun y hy=>?_⟩)
  rcases zA.mp hy with rfl|hy
  ·exact .inr (.inl ⟨_,rfl⟩)
  ·rcases zA.mp hy with rfl|hy
   ·refine .inr (.inr ⟨_,.inr (.inr ⟨_,rfl,pl⟩),by show (b.ss.map Rr.form).length<=1000;rw[zr];have:=g.l;omega,fun z hz=>?_⟩)
    have hz:z∈b.ss.map Rr.form:=hz
    obtain⟨R,hR,rfl⟩:=zE.mp hz
    exact ((g.s R hR).pd.up (by decide)).dd
   ·rw[zT.mp hy,<-eb]
    exact (g.e.pd.up (by decide)).dd
end
theorem wf {bx:List (Str×Str)}{bl:List Bt}(G:Du bx bl): ∀r∈pgR bx bl,r.Ok:=fun r hr=>by
 unfold pgR at hr
 rcases zY.mp hr with hr|hr
 ·obtain⟨b,hb,rfl⟩:=zE.mp hr
  exact G.b b hb
 ·obtain⟨b,hb,hr⟩:=List.mem_flatMap.mp hr
  have g:=G.g b hb
  rcases zA.mp hr with rfl|hr
  ·exact g.nm
  ·rcases zY.mp hr with hr|hr
   ·exact (g.s _ hr).2.1
   ·rw[zT.mp hr];exact g.e.2.1
theorem oR {n:Nat}: ∀ {l:List Str},(∀z∈l,z.length<=n)->(l.map (·.length)).sum<=n * l.length
 |[],_=>by simp
 |z::l,h=>by
  have a:=h z zB
  have b:=oR (l:=l) fun z hz=>h z (zK _ hz)
  rw[zD,Av,zx,Bu]
  omega
noncomputable def lkH (h:List Ob)(k:Nat):List W:=match h[k]? with
 |some (.lst l)=>l
 |_=>[]
theorem lB {h:List Ob}{k:Nat}{l:List W}(e:h[k]?=some (.lst l)):h[k]?=some (.lst (lkH h k))/\lkH h k=l:=by
 have:lkH h k=l:=by unfold lkH;rw[e]
 exact⟨by rw[this];exact e,this⟩
theorem uR {h:List Ob}{k:Nat}{l:List W}(e:h[k]?=some (.lst l)):Ev [.loc k,.ty "list"] h=.ok (.bl true) h:=by
 show (match tyN (.loc k) h with
  |some t=>if "list"∈tys then Rs.ok (W.bl (isT t "list")) h else .bad
  |none=>.bad)=_
 have:tyN (.loc k) h=some "list":=by unfold tyN;simp only[e]
 rw[this]
 rfl
theorem ui (cs:List Int):neW (.tl (cs.map W.int)) (.tl (cs.map W.int))=pr (.bl false):=by
 have e:=ni (l:=cs.map W.int) fun x hx=>by
  obtain⟨i,_,rfl⟩:=zE.mp hx
  exact .int
 funext h
 have:=congrFun e h
 unfold eqW at this
 unfold neW
 cases q:eqB (.tl (cs.map W.int)) (.tl (cs.map W.int)) h with
 |none=>rw[q] at this;cases this
 |some b=>
  rw[q] at this
  have this:Rs.ok (W.bl b) h=Rs.ok (W.bl true) h:=this
  injection this with a _
  injection a with a
  subst a;rfl
theorem yZ {α:Type}(m:M α):bd m pr=m:=by
 funext h
 unfold bd
 cases m h<;>rfl
theorem pf {h:List Ob}{ks:List Nat}{ρ:Dl}{β:Type}{k:List W->M β}{Q:β->List Ob->Prop}(e:∀j∈ks,∃l,h[j]?=some (.lst l))(q:Ok (k ((ks.map fun j=>(((lkH h j).length:Nat):Int)).map W.int)) h Q):Ok (bd (DP (fun _=>True) (tgN 0) Fg (EW EQ (EY (Ff 0) E5)) 2 (ks.map W.loc) ρ) k) h Q:=by
 refine cx (I:=fun i a h'=>h'=h/\a=((ks.take i).map fun j=>(((lkH h j).length:Nat):Int)).map W.int) ⟨rfl,rfl⟩ dy (fun _ _ _ _=>trivial) (fun i w a h' hw I=>?_) fun a h' I=>?_
 ·obtain⟨rfl,rfl⟩:=I
  rw[zG] at hw
  obtain⟨j,hj,rfl⟩:=zM.mp hw
  obtain⟨l,el⟩:=e j (Ad hj)
  have el:=(lB el).1
  refine⟨_,rfl,?_⟩
  simp! only[List.replicate,Ac,z0,aa]
  have:=Lw.len (k:=pr) (Q:=fun v h2=>h2=h'/\((ks.take i).map fun j=>(((lkH h' j).length:Nat):Int)).map W.int++[v]=((ks.take (i+1)).map fun j=>(((lkH h' j).length:Nat):Int)).map W.int) (.inr ⟨j,rfl,el⟩) (ak ⟨rfl,by rw[Ae,hj,zw,zw];rfl⟩)
  rw[yZ] at this
  exact this
 ·obtain⟨rfl,rfl⟩:=I
  rw[zr,Ab]
  exact q
theorem uN (sc:List Int)(hh:List Ob):Ok (mZ [.cl (sc.map W.int)]) hh fun w _=>w=.bl true:=by
 have e0:mZ [.cl (sc.map W.int)]=bd (pz [some (.cl (sc.map W.int)),none,none,none,none,none,none,none]) D6:=rfl
 rw[e0]
 unfold pz
 obtain⟨SC,hSC⟩: ∃X,X=W.cl (sc.map W.int):=⟨_,rfl⟩
 simp!
 refine aV (on sc) fun w h1 qq_=>?_
 obtain⟨⟨bq,ns,bl,G,ew⟩,F1⟩:=qq_
 subst ew
 rw[<-hSC]
 have tg:tgL [1,2] (.tl [.tl (((pgR (bxT bq) bl).map Rr.tx).map W.str),.tup [.tl (bq.map bqW),.tl (bl.map (blW ns))]]) [some SC,none,none,none,none,none,none,none]=some [some SC,some (.tl (((pgR (bxT bq) bl).map Rr.tx).map W.str)),some (prW bq ns bl),none,none,none,none,none]:=rfl
 have px:=G.px
 have bv:=G.q.bx.2.2.1
 have en:=G.en
 have rd: ∀h:List Ob,Ok (gF [.str (Hw (pgR (bxT bq) bl))]) h fun w h'=>(∃jb jl dl st,w=.tup [.loc jb,.loc jl]/\Dy h' h.length jb jl dl ⟨bq,ns,bl.map (fun b=>(b.nm,b.ss.map Rr.form,b.e)),st⟩)/\Fo h.length h h':=fun h=>by
  have:=rh (h:=h) px
  rw[bv,en] at this
  exact this
 have lens: ∀z∈(pgR (bxT bq) bl).map Rr.tx,z.length<=600:=fun z hz=>by
  obtain⟨r,hr,rfl⟩:=zE.mp hz
  exact (wf px r hr).len
 have rl:((pgR (bxT bq) bl).map Rr.tx).length<=104:=by
  have a:=Go fun b hb=>(px.g b hb).l
  have b:=px.b4
  have c:=px.l
  unfold pgR
  rw[zr,zv,zr];omega
 have jw:EE (.str "\n") [.tl (((pgR (bxT bq) bl).map Rr.tx).map W.str)]=pr (.str (Hw (pgR (bxT bq) bl))):=by
  have l1:("\n":Str).length=1:=by decide+kernel
  rw[g0 (sz (by have:=oR lens;rw[l1];omega)),vn];rfl
 obtain⟨P,hP⟩: ∃P,P=prW bq ns bl:=⟨_,rfl⟩
 rw[<-hP] at tg
 have tq: ∀ {h:List Ob}{o jb jl:Nat}{dl:List (Nat×Str×List W×Rr)}{st:List W},Dy h o jb jl dl ⟨bq,ns,bl.map (fun b=>(b.nm,b.ss.map Rr.form,b.e)),st⟩->eqB (.tup [.loc jb,.loc jl]) P h=some true:=fun T=>by rw[hP];exact qN T G
 generalize Hw (pgR (bxT bq) bl)=TX at *
 obtain⟨RW,hRW⟩: ∃X,X=W.tl (((pgR (bxT bq) bl).map Rr.tx).map W.str):=⟨_,rfl⟩
 rw[<-hRW] at tg jw ⊢
 have tg:tgL [1,2] (.tl [RW,.tup [.tl (bq.map bqW),.tl (bl.map (blW ns))]]) [some SC,none,none,none,none,none,none,none]=some [some SC,some RW,some P,none,none,none,none,none]:=tg
 simp! only[aa,tg,jw]
 refine aV (rd h1) fun w h2 qq_=>?_
 obtain⟨⟨jb,jl,dl,st,ew,T⟩,F2⟩:=qq_
 subst ew
 have i1:Ev [.tup [.loc jb,.loc jl],.ty "tuple"]=pr (.bl true):=af (by decide)
 have ne:neW (.tup [.loc jb,.loc jl]) P h2=.ok (.bl false) h2:=by unfold neW;rw[tq T];rfl
 simp! only[aa,i1]
 refine bb ne ?_
 simp!
 refine aV (lU 12 (sZ T G)) fun w h3 qq_=>?_
 obtain⟨ew,eh⟩:=qq_
 subst ew eh
 have ld:dl.length<=10:=by
  have:=congrArg List.length T.d
  have:dl.length=bl.length:=by simpa using this
  have:=px.l
  omega
 have gd1: ∀ {α:Type} (q:M α),gd ((dl.map (bkP ns)).length<=sizeLine) q=q:=fun q=>af (by rw[zr];exact sz (by omega))
 simp! only[aa,ix0,ix1,DL,gY]
 have Tl:h3[jl]?=some (.lst (dl.map (bkP ns))):=T.l
 refine lh Tl ?_
 simp! only[aa,gd1]
 refine cx (I:=fun i a h'=>h'=h3/\a=((dl.take i).map (·.1)).map W.loc) ⟨rfl,rfl⟩ dy (fun i a h' I=>by rw[I.1];exact Tl) (fun i w a h' hw I=>?_) fun a h' I=>?_
 ·obtain⟨rfl,rfl⟩:=I
  rw[zG] at hw
  obtain⟨x,hx,rfl⟩:=zM.mp hw
  refine⟨[some (.str x.2.1),some (.loc x.1),some (x.2.2.2.en ns).w,none,some SC,some RW,some P,some (.str TX),some (.tup [.loc jb,.loc jl]),none,none,none],rfl,?_⟩
  simp!
  refine ak ⟨rfl,?_⟩
  rw[Ae,hx,zw,zw];rfl
 obtain⟨rfl,rfl⟩:=I
 rw[show (dl.map (bkP ns)).length=dl.length from zr ..,Ab]
 obtain⟨ks,hks⟩: ∃ks,ks=jb::jl::dl.map (·.1):=⟨_,rfl⟩
 have ek:[W.loc jb,W.loc jl]++(dl.map (·.1)).map W.loc=ks.map W.loc:=by rw[hks];rfl
 have lk:ks.length<=12:=by rw[hks,zx,zx,zr];omega
 have nk:ks.Nodup:=by rw[hks];exact T.nd
 have ok: ∀j∈ks,∃l,h'[j]?=some (.lst l)/\l.length<=1000:=fun j hj=>by
  rw[hks] at hj
  rcases zA.mp hj with rfl|hj
  ·exact⟨_,T.b,by rw[zr];have:=G.q.l;show bq.length<=1000;omega⟩
  ·rcases zA.mp hj with rfl|hj
   ·exact⟨_,T.l,by rw[zr];omega⟩
   ·obtain⟨x,hx,rfl⟩:=zE.mp hj
    refine⟨_,T.pl x hx,?_⟩
    have hm:x.2∈dl.map (·.2):=AD hx
    rw[T.d] at hm
    have hm:x.2∈bl.map (fun b=>(b.nm,b.ss.map Rr.form,b.e)):=hm
    obtain⟨b,hb,eb⟩:=zE.mp hm
    rw[<-eb]
    show (b.ss.map Rr.form).length<=1000
    rw[zr];have:=(G.g b hb).l;omega
 have gd2: ∀ {α:Type} (q:M α),gd (0+1+1+((dl.map (·.1)).map W.loc).length<=sizeLine) q=q:=fun q=>af (by rw[zr,zr];exact sz (by omega))
 have gd3: ∀ {α:Type} (q:M α),gd ((ks.map W.loc).length<=sizeLine) q=q:=fun q=>af (by rw[zr];exact sz (by omega))
 simp! only[aa,gY,gd2]
 rw[ek]
 simp! only[aa,bX,gd3]
 refine pf (fun j hj=>(ok j hj).imp fun _ q=>q.1) ?_
 have sz1:(ks.map fun j=>(((lkH h' j).length:Nat):Int)).length=ks.length:=zr ..
 obtain⟨zs,hzs⟩: ∃zs,zs=ks.map fun j=>(((lkH h' j).length:Nat):Int):=⟨_,rfl⟩
 rw[<-hzs] at sz1 ⊢
 obtain⟨Z,hZ⟩: ∃Z,Z=W.tup [.str "zebra",.int 0]:=⟨_,rfl⟩
 simp! only[aa,bX]
 refine fY (I:=fun i ρ h4=>(∃a,ρ=[some SC,some RW,some P,some (.str TX),some (.tup [.loc jb,.loc jl]),some (.tl (ks.map W.loc)),some (.tl (zs.map W.int)),a])/\ ∀j k,ks[j]?=some k->(j<i->h4[k]?=some (.lst (lkH h' k++[Z])))/\(i<=j->h4[k]?=some (.lst (lkH h' k)))) ⟨⟨_,rfl⟩,fun j k hk=>⟨fun z=>absurd z (AK _),fun _=>by obtain⟨l,el,_⟩:=ok k (Ad hk);exact (lB el).1⟩⟩ (fun _ _ _ _=>trivial) (fun i w ρ h4 hw I=>?_) fun ρ h4 I=>?_
 ·obtain⟨⟨a,rfl⟩,q⟩:=I
  rw[zG] at hw
  obtain⟨k,hk,rfl⟩:=zM.mp hw
  have ek:=(q i k hk).2 (zu _)
  have lz:(lkH h' k).length<sizeLine:=by
   obtain⟨l,el,ll⟩:=ok k (Ad hk)
   rw[(lB el).2]
   exact Ai ll (by decide)
  refine⟨_,rfl,?_⟩
  simp!
  refine bb (uR ek) ?_
  simp!
  refine cQ ek ?_
  simp!
  refine cR ek lz ?_
  simp!
  refine ak ⟨_,rfl,⟨_,rfl⟩,fun j k' hk'=>?_⟩
  have hik:=(zO.mp hk).1
  by_cases ej:j=i
  ·subst ej
   rw[hk] at hk'
   cases hk'
   exact⟨fun _=>by rw[ck ek,hZ],fun z=>by omega⟩
  ·have nk':k≠k':=fun z=>ej (((BP hik nk).mp (by rw[hk,hk',z])).symm)
   rw[zt nk']
   exact⟨fun z=>(q j k' hk').1 (by omega),fun z=>(q j k' hk').2 (by omega)⟩
 ·obtain⟨⟨a,rfl⟩,q⟩:=I
  rw[zr] at q
  have fin: ∀k∈ks,h4[k]?=some (.lst (lkH h' k++[Z])):=fun k hk=>by
   obtain⟨j,hj,ej⟩:=List.mem_iff_getElem.mp hk
   exact (q j k (by rw[Ah hj,ej])).1 hj
  have gz: ∀ {α:Type} (q:M α),gd ((zs.map W.int).length<=sizeLine) q=q:=fun q=>af (by rw[zr,sz1];exact sz (by omega))
  simp! only[aa,bX,gd3]
  refine pf (fun j hj=>⟨_,fin j hj⟩) ?_
  simp! only[aa,bX,gz]
  refine cx (I:=fun i a h5=>h5=h4/\a=((zs.take i).map (· +1)).map W.int) ⟨rfl,rfl⟩ dy (fun _ _ _ _=>trivial) (fun i w a h5 hw I=>?_) fun a h5 I=>?_
  ·obtain⟨rfl,rfl⟩:=I
   rw[zG] at hw
   obtain⟨x,hx,rfl⟩:=zM.mp hw
   refine⟨_,rfl,?_⟩
   simp! only[List.replicate,Ac,z0,aa]
   refine ak ⟨rfl,?_⟩
   rw[Ae,hx,zw,zw];rfl
  ·obtain⟨rfl,rfl⟩:=I
   rw[zr,Ab]
   have es:(ks.map fun j=>(((lkH h5 j).length:Nat):Int))=zs.map (· +1):=by
    rw[hzs,Aj]
    refine A6 fun j hj=>?_
    rw[(lB (fin j hj)).2,zv];rfl
   rw[es]
   simp! only[aa,ui]
   refine aV (rd h5) fun w h6 qq_=>?_
   obtain⟨⟨jb',jl',dl',st',ew,T'⟩,F6⟩:=qq_
   subst ew
   have ee:eqW (.tup [.loc jb',.loc jl']) P h6=.ok (.bl true) h6:=by unfold eqW;rw[tq T']
   simp!
   refine bb ee ?_
   simp!
   exact ak rfl
theorem EL (ns:List Int)(hh:List Ob): ∃h',mZ [.cl (ns.map W.int)] hh=.ok (.bl true) h':=by
 obtain⟨w,h',e,rfl⟩:=uN ns hh
 exact⟨h',e⟩
end
end Q
namespace L2
open PySem PySem.Spec PyProof.Rows
theorem ln1 {α:Type}: ∀ {us:List α},us.length=1-> ∃a,us=[a]
 |[a],_=>⟨a,rfl⟩
theorem ln2 {α:Type}: ∀ {us:List α},us.length=2-> ∃a b,us=[a,b]
 |[a,b],_=>⟨a,b,rfl⟩
theorem ln3 {α:Type}: ∀ {us:List α},us.length=3-> ∃a b c,us=[a,b,c]
 |[a,b,c],_=>⟨a,b,c,rfl⟩
theorem ln4 {α:Type}: ∀ {us:List α},us.length=4-> ∃a b c d,us=[a,b,c,d]
 |[a,b,c,d],_=>⟨a,b,c,d,rfl⟩
section
variable (K:PySem.W.Frag)(mg:Str->Option BZ)(x:Str)(C:B5)
noncomputable def Dq (st:Cw):Prop:= ∃f fd,Fun K x x st f fd/\mg x=some (.ref f)
noncomputable def Dqm (q:Str)(st:Cw):Prop:= ∃f fd,Fun K x q st f fd/\Dp K C x f
def Gt (zs:List Str):Prop:= ∃a,mg x=some (.ref a)/\ ∀H,SqT K H a (zs.map V.str)
noncomputable def Gi (i:Int):Prop:= ∃t,mg x=some (.int i t)
noncomputable def Gs (i:Str):Prop:= ∃t,mg x=some (.str i t)
end
section
variable {P:B2}{w:B3}{K:PySem.W.Frag}{mg:Str->Option BZ}{base:B4}{x q:Str}{st:Cw}{C f:B5}{fd:CW}{k:Nat}{fn:List W->M W}{g:Dl->M Fl}{oc:BZ}{od an:Option B5}{osl:Array (Option BZ)}{kV doc pm cdv ct:BZ}{h:B4}
theorem dq (X:K.In h)(G:h.Ns Cj mg)(a:BY K Cj x=some (some (.ref f)))(l:K.lookup f=some ⟨oc,od,.func (fnOf x x (cB st) (bo st) (ae st) .none kV doc pm an cdv ct),osl⟩)(c:codeIn K cdv x=true)(k:BW K (.ref f)=true):Dq K mg x st:=⟨_,_,sC l c k,mg_of X G a⟩
theorem dqm (a:BU K (.ref C) x=some (some (.ref f)))(i:PySem.W.isFn K (.ref f)=true)(l:K.lookup f=some ⟨oc,od,.func (fnOf x q (cB st) (bo st) (ae st) .none kV doc pm an cdv ct),osl⟩)(c:codeIn K cdv q=true)(k:BW K (.ref f)=true):Dqm K x C q st:=⟨_,_,sC l c k,a,i,k⟩
theorem gi {i:Int}{t:Tok}(X:K.In h)(G:h.Ns Cj mg)(a:BY K Cj x=some (some (.int i t))):Gi mg x i:=⟨_,mg_of X G a⟩
theorem gs {i:Str}{t:Tok}(X:K.In h)(G:h.Ns Cj mg)(a:BY K Cj x=some (some (.str i t))):Gs mg x i:=⟨_,mg_of X G a⟩
theorem gn (X:K.In h)(G:h.Ns Cj mg)(a:BY K Cj x=some none):mg x=none:=PySem.W.mg_none_of X G a
noncomputable def stx:List BZ->List Str
 |.str z _::r=>z::stx r
 |_=>[]
theorem qV: ∀ {us:List BZ},(stx us).length=us.length->Vals ((stx us).map V.str) us
 |[],_=>.nil
 |.str z t::r,e=>.cons ⟨_,rfl⟩ (qV (Nat.succ.inj e))
theorem gt {zs:List Str}{its:Array BZ}{n:Nat}(X:K.In h)(G:h.Ns Cj mg)(a:BY K Cj x=some (some (.ref f)))(l:K.lookup f=some ⟨.type "tuple",od,.seq its n,osl⟩)(e:zs=stx its.toList/\(stx its.toList).length=its.toList.length/\its.toList.length<=64):Gt K mg x zs:=by
 obtain⟨rfl,e,e2⟩:=e
 exact⟨f,mg_of X G a,fun H=>.inr ⟨_,_,_,l,rfl,rfl,zJ (by simpa using e2) (by unfold sizeLine;decide),qV e⟩⟩
end
section
variable {P:B2}{w:B3}{K:PySem.W.Frag}{mg:Str->Option BZ}{base:B4}{x q:Str}{st:Cw}{C f:B5}{fd:CW}{k:Nat}{fn:List W->M W}{g:Dl->M Fl}
theorem okf (N:List Str)(m:Nat)(F:Fun K x x st f fd)(Mf:mg x=some (.ref f))
  (hb: ∀ (cdv:BZ) (A:B8) (outer:List Env) (s:B6) (H:Hp) (E:XK),Room k (A.deeper (C2 x (ae st) s.heap.objs.size f cdv))->(A.deeper (C2 x (ae st) s.heap.objs.size f cdv)).units+1<B9->(A.deeper (C2 x (ae st) s.heap.objs.size f cdv)).units+64<B9->N.Nodup->JSs (DU CX0 P w K mg base N x (ae st) f cdv A outer s H E).nox E0 (bo st) g)
  (S:Dm N (N.take m) (ae st):=by exact⟨rfl,rfl,rfl,by decide+kernel,rfl,by decide+kernel,by decide+kernel⟩)(hm:(N.take m).length=m:=by rfl)(hf:fn=Gp N.length g:=by rfl)
  (hi: ∀ (kV doc pm:BZ) (an:Option B5) (cdv ct:BZ) (us:List BZ),us.length=(N.take m).length->bindArgs (fnOf x x (cB st) (bo st) (ae st) .none kV doc pm an cdv ct) ⟨us,[]⟩=pure ((N.take m).zip us):=by intro _ _ _ _ _ _ us hl;first|(obtain⟨_,rfl⟩:=ln1 hl;rfl)|(obtain⟨_,_,rfl⟩:=ln2 hl;rfl)|(obtain⟨_,_,_,rfl⟩:=ln3 hl;rfl)|(obtain⟨_,_,_,_,rfl⟩:=ln4 hl;rfl)|(obtain⟨_,_,_,_,_,rfl⟩:=ln5 hl;rfl)):
  CG P w K mg base (k+1) x f fd (N.take m) m fn:=
 ⟨vC (g:=g) F S rfl hm hf fun cdv A outer s H E hr=>hb cdv A outer s H E hr (vv hr) hr.units S.nd,F.binds hi,F.kp,Mf⟩
theorem okz (N:List Str)(m:Nat)(F:Fun K x x st f fd)(Mf:mg x=some (.ref f))(h:∀ws h,fn ws h=.bad)
 (hi: ∀ (kV doc pm:BZ) (an:Option B5) (cdv ct:BZ) (us:List BZ),us.length=(N.take m).length->bindArgs (fnOf x x (cB st) (bo st) (ae st) .none kV doc pm an cdv ct) ⟨us,[]⟩=pure ((N.take m).zip us):=by intro _ _ _ _ _ _ us hl;first|(obtain⟨_,rfl⟩:=ln1 hl;rfl)|(obtain⟨_,_,rfl⟩:=ln2 hl;rfl)|(obtain⟨_,_,_,rfl⟩:=ln3 hl;rfl)):
 CG P w K mg base k x f fd (N.take m) m fn:=⟨xR h,F.binds hi,F.kp,Mf⟩
theorem okm (N:List Str)(m:Nat)(F:Fun K x q st f fd)(Mf:Dp K C x f)
  (hb: ∀ (cdv:BZ) (A:B8) (outer:List Env) (s:B6) (H:Hp) (E:XK),Room k (A.deeper (C2 q (ae st) s.heap.objs.size f cdv))->(A.deeper (C2 q (ae st) s.heap.objs.size f cdv)).units+1<B9->(A.deeper (C2 q (ae st) s.heap.objs.size f cdv)).units+64<B9->N.Nodup->JSs (DU CX0 P w K mg base N q (ae st) f cdv A outer s H E).nox E0 (bo st) g)
  (S:Dm N (N.take m) (ae st):=by exact⟨rfl,rfl,rfl,by decide+kernel,rfl,by decide+kernel,by decide+kernel⟩)(hm:(N.take m).length=m:=by rfl)(hf:fn=Gp N.length g:=by rfl)
  (hi: ∀ (kV doc pm:BZ) (an:Option B5) (cdv ct:BZ) (us:List BZ),us.length=(N.take m).length->bindArgs (fnOf x q (cB st) (bo st) (ae st) .none kV doc pm an cdv ct) ⟨us,[]⟩=pure ((N.take m).zip us):=by intro _ _ _ _ _ _ us hl;first|(obtain⟨_,rfl⟩:=ln1 hl;rfl)|(obtain⟨_,_,rfl⟩:=ln2 hl;rfl)|(obtain⟨_,_,_,rfl⟩:=ln3 hl;rfl)):
  CGm P w K mg base (k+1) C x f fd (N.take m) m fn:=
 ⟨vC (g:=g) F S rfl hm hf fun cdv A outer s H E hr=>hb cdv A outer s H E hr (vv hr) hr.units S.nd,F.binds hi,Mf⟩
end
section
variable {X:Cx}{E:XK}{p p0 pos apos:Ct}{zs:List Str}{x:Str}
noncomputable def nst:Expr->Bool
 |.Starred ..=>false
 |_=>true
theorem tE {e:Expr}{es:List Expr}{env:Env}(h:nst e=true):Cv (e::es) env=(false,Cp e env)::Cv es env:=by
 cases e<;>first|rfl|cases h
noncomputable def nsl:Expr->Bool
 |.Slice ..=>false
 |_=>true
theorem ze {b:Expr}(h:nsl b=true):lT b:=by
 cases b<;>first|exact fun _ _=>rfl|cases h
theorem zj {a b:Expr}{fa fb:Dl->M W}(h:nsl b=true)(hu:X.A.units+1<B9)(ha:JE X E a fa)(hb:JE X E b fb):JE X E (.Subscript a b pos) (m2 ixW fa fb):=yG hu ha hb (ze h)
theorem zn {e:Expr}{es:List Expr}{u:Dl->M W}{l:Dl->M (List W)}(h:nst e=true)(ha:JE X E e u)(hr:JA X E es l):JA X E (e::es) (EY u l):=uG ha hr (tE h)
theorem yv {es:List Expr}{env:Env}(h:es.all nst=true):(Cu pos (Cv es env)).any (·.1)=false:=by
 induction es with
 |nil=>exact wQ
 |cons e r ih=>rw[AA,zI] at h;exact uh (tE h.1) (ih h.2)
def Cm (X:Cx)(E:XK)(op:CmpOp)(f:W->W->M W):Prop:= ∃r,OpM X E r f/\OpR X (Cz op) r
theorem zh {a b:Expr}{op:CmpOp}{f:W->W->M W}{fa fb:Dl->M W}(h:Cm X E op f)(ha:JE X E a fa)(hb:JE X E b fb)(hm:CA op b=false):JT X E (.Compare a [op] [b] pos) (mB (m2 f fa fb)):=h.elim fun _ h=>wU h.2 h.1 ha hb hm
theorem zm {a b:Expr}{op:CmpOp}{f:W->W->M W}{fa fb:Dl->M W}(h:Cm X E op f)(ha:JE X E a fa)(hb:JE X E b fb)(hm:CA op b=false):JE X E (.Compare a [op] [b] pos) (m2 f fa fb):=h.elim fun _ h=>xB h.2 h.1 ha hb hm
theorem yw {a b c:Expr}{op op':CmpOp}{f g:W->W->M W}{fa fb fc:Dl->M W}(h:Cm X E op f)(h':Cm X E op' g)(ha:JE X E a fa)(hb:JE X E b fb)(hc:JE X E c fc)(hm:lastMarks [op,op'] [b,c]=false:=by with_unfolding_all rfl):JT X E (.Compare a [op,op'] [b,c] pos) (mB (bW f g fa fb fc)):=h.elim fun _ h=>h'.elim fun _ h'=>rW h.2 h.1 h'.2 h'.1 ha hb hc hm
def Cr (X:Cx)(x:Str)(m:Nat)(f:List W->M W):Prop:= ∃k a d ps,CG X.prog X.w X.K X.mg X.base k x a d ps m f/\Room k X.A
theorem zk {e:Expr}{es:List Expr}{l:Dl->M (List W)}{m:Nat}{f:List W->M W}(h:Cr X x m f)(ha:JA X E0 (e::es) l)(hg:Gl X x:=by rfl)
  (hdb:(x==("__debug__":Str))=false:=by decide)(he:(e::es).all nst=true):
  JE X E0 (.Call (.Name x p) (e::es) [] pos) (EW (arW m f) l):=by
 obtain⟨_,_,_,_,h,hr⟩:=h
 rw[AA,zI] at he
 exact yL h hr ha hg hdb (tE he.1) (yv he.2)
def Cs (X:Cx)(c x:Str)(m:Nat)(f:List W->M W):Prop:= ∃C k a d ps,BY X.K Cj c=some (some (.ref C))/\Cls X.K C/\CGm X.prog X.w X.K X.mg X.base k C x a d ps m f/\Room k X.A
theorem zi {c:Str}{o e:Expr}{es:List Expr}{fo:Dl->M W}{l:Dl->M (List W)}{m:Nat}{f:List W->M W}{pl:Sem Bool}(h:Cs X c x m f)(ho:JE X E0 o fo)(ha:JA X E0 (e::es) l)
  (hst:Cv (e::es) X.env=(false,Cp e X.env)::Cv es X.env:=by rfl)(hpl:(Cu pos (Cv es X.env)).any (·.1)=false:=by rfl)
  (ht:Cp (.Call (.Attribute o x apos) (e::es) [] pos) X.env=(do
   let ov<-Cp o X.env
   CB apos.atName
   let (f,first)<-CC [ov] (CP ov x pl)
   callWith pos f first (Cu pos (Cv (e::es) X.env)) (CU pos (CV [] X.env))):=by rfl):
  JE X E0 (.Call (.Attribute o x apos) (e::es) [] pos) (E2 c x m f fo l):=by
 obtain⟨_,_,_,_,_,n,k,F,hr⟩:=h
 exact xv n k F hr ho ha hst hpl ht
theorem yF {c:Str}{o:Expr}{fo:Dl->M W}{m:Nat}{f:List W->M W}{pl:Sem Bool}(h:Cs X c x m f)(ho:JE X E0 o fo)
  (ht:Cp (.Call (.Attribute o x apos) [] [] pos) X.env=(do
   let ov<-Cp o X.env
   CB apos.atName
   let (f,first)<-CC [ov] (CP ov x pl)
   callWith pos f first (Cu pos (Cv [] X.env)) (CU pos (CV [] X.env))):=by rfl):
  JE X E0 (.Call (.Attribute o x apos) [] [] pos) (E2 c x m f fo E5):=by
 obtain⟨_,_,_,_,_,n,k,F,hr⟩:=h
 exact uB n k F hr ho ht
def Fq (X:Cx)(c x:Str):Prop:= ∃C,BY X.K Cj c=some (some (.ref C))/\Cls X.K C/\NoAttr X.K C x
theorem yK {c:Str}{o:Expr}{fo:Dl->M W}(h:Fq X c x)(ho:JE X E o fo)(hb:CQ o x X.env (Cp o X.env)=Cp o X.env:=by rfl):JE X E (.Attribute o x pos) (m1 (D8 c x) fo):=by
 obtain⟨_,n,k,a⟩:=h
 exact xA n k a ho hb
theorem yz {c:Str}{o value:Expr}{pos':Ct}{fo fv:Dl->M W}(h:Fq X c x)(ho:JE X E o fo)(hv:JE X E value fv)(hs:swapsWith value (some (.Attribute o x pos')) pos.line X.env=pure false:=by rfl):JS X E (.Assign [.Attribute o x pos'] value pos) (GA c x fo fv):=by
 obtain⟨_,n,k,a⟩:=h
 exact wZ n k a ho hv hs
def Tq (X:Cx)(tg:Expr)(t:W->Dl->Option Dl):Prop:= ∃m gT,Dx X.K m gT t/\PG X tg gT
theorem yA {tg iter:Expr}{body:List Cw}{src:Dl->M Sr}{t:W->Dl->Option Dl}{g:Dl->M Fl}(h:Tq X tg t)(hp:CI (Cb X.prog X.w) X.A X.env X.xe)(hc:X.calm=true)(hi:JI X E tg iter src)(hb:JSs X E body g)
  (hs: ∀x,CL iter X.env x=pure x:=by intro _;rfl):JS X E (.For tg iter body [] pos) (GB src t g):=by
 obtain⟨_,_,ht,hg⟩:=h
 exact wY hp hc hi hg ht hb hs
theorem yx {tg e:Expr}{t:W->Dl->Option Dl}{f:Dl->M W}(h:Tq X tg t)(he:JE X E e f)(hs:swapsWithSole [tg] e pos.line X.env=pure false:=by rfl)(hw:swappedStores [tg] e X.env=pure none:=by rfl)
  (h1:(CH [tg] X.env).map (·.2)=[assign tg X.env]:=by rfl):JS X E (.Assign [tg] e pos) (GH t f):=by
 obtain⟨_,_,ht,hg⟩:=h
 exact wV he hg ht hs hw h1
theorem yX (hu:X.A.units+64<B9):Cm X E .Eq eqW:=⟨_,wB hu,yn⟩
theorem yR (hu:X.A.units+64<B9):Cm X E .NotEq neW:=⟨_,wt hu,yh⟩
theorem yS:Cm X E .Lt ltW:=⟨_,wu,yi⟩
theorem yT:Cm X E .LtE leW:=⟨_,ww,yj⟩
theorem yV:Cm X E .Gt gtW:=⟨_,wz,yl⟩
theorem yW:Cm X E .GtE geW:=⟨_,wA,ym⟩
theorem yU (hu:X.A.units+1<B9):Cm X E .In inW:=⟨_,wy,yk hu⟩
theorem yQ (hu:X.A.units+1<B9):Cm X E .NotIn b7:=⟨_,p6,rF hu⟩
theorem yJ {i:Int}(hm:Gi X.mg x i)(hg:Gl X x:=by rfl)(hd:(x==("__debug__":Str))=false:=by decide):JE X E (.Name x pos) (mC (.int i)):=hm.elim fun _ hm=>lA (w:=.int i) (v:=.int i) hg hm ⟨_,rfl⟩ (fun o=>Gu.mpr rfl) hd
theorem yI {i:Str}(hm:Gs X.mg x i)(hg:Gl X x:=by rfl)(hd:(x==("__debug__":Str))=false:=by decide):JE X E (.Name x pos) (mC (.str i)):=hm.elim fun _ hm=>lA (w:=.str i) (v:=.str i) hg hm ⟨_,rfl⟩ (fun o=>Gw.mpr rfl) hd
theorem yH (h:Gt X.K X.mg x zs)(hg:Gl X x:=by rfl)(hd:(x==("__debug__":Str))=false:=by decide):JE X E (.Name x pos) (mC (.tup (zs.map W.str))):=by
 obtain⟨a,hm,hq⟩:=h
 exact se hm hq hg hd
end
section
variable (P:B2)(w:B3)(K:PySem.W.Frag)(mg:Str->Option BZ)(base:B4)(k:Nat)(C:B5)(x:Str)(m:Nat)(fn:List W->M W)
def Cq:Prop:= ∃a d ps,CG P w K mg base k x a d ps m fn
def Cqm:Prop:= ∃a d ps,CGm P w K mg base k C x a d ps m fn
end
section
variable {P:B2}{w:B3}{K:PySem.W.Frag}{mg:Str->Option BZ}{base:B4}{x q:Str}{st:Cw}{C:B5}{k:Nat}{fn:List W->M W}{g:Dl->M Fl}
theorem okq (N:List Str)(m:Nat)(D:Dq K mg x st)(hb: ∀ (f:B5) (cdv:BZ) (A:B8) (outer:List Env) (s:B6) (H:Hp) (E:XK),Room k (A.deeper (C2 x (ae st) s.heap.objs.size f cdv))->(A.deeper (C2 x (ae st) s.heap.objs.size f cdv)).units+1<B9->(A.deeper (C2 x (ae st) s.heap.objs.size f cdv)).units+64<B9->N.Nodup->JSs (DU CX0 P w K mg base N x (ae st) f cdv A outer s H E).nox E0 (bo st) g)
  (S:Dm N (N.take m) (ae st):=by exact⟨rfl,rfl,rfl,by decide+kernel,rfl,by decide+kernel,by decide+kernel⟩)(hm:(N.take m).length=m:=by rfl)(hf:fn=Gp N.length g:=by rfl)(hi: ∀ (kV doc pm:BZ) (an:Option B5) (cdv ct:BZ) (us:List BZ),us.length=(N.take m).length->bindArgs (fnOf x x (cB st) (bo st) (ae st) .none kV doc pm an cdv ct) ⟨us,[]⟩=pure ((N.take m).zip us):=by intro _ _ _ _ _ _ us hl;first|(obtain⟨_,rfl⟩:=ln1 hl;rfl)|(obtain⟨_,_,rfl⟩:=ln2 hl;rfl)|(obtain⟨_,_,_,rfl⟩:=ln3 hl;rfl)|(obtain⟨_,_,_,_,rfl⟩:=ln4 hl;rfl)|(obtain⟨_,_,_,_,_,rfl⟩:=ln5 hl;rfl)):Cq P w K mg base (k+1) x m fn:=by
 obtain⟨f,_,F,M⟩:=D
 exact⟨_,_,_,okf N m F M (hb f) S hm hf hi⟩
theorem Fx (N:List Str)(m:Nat)(D:Dqm K x C q st)(hb: ∀ (f:B5) (cdv:BZ) (A:B8) (outer:List Env) (s:B6) (H:Hp) (E:XK),Room k (A.deeper (C2 q (ae st) s.heap.objs.size f cdv))->(A.deeper (C2 q (ae st) s.heap.objs.size f cdv)).units+1<B9->(A.deeper (C2 q (ae st) s.heap.objs.size f cdv)).units+64<B9->N.Nodup->JSs (DU CX0 P w K mg base N q (ae st) f cdv A outer s H E).nox E0 (bo st) g)
  (S:Dm N (N.take m) (ae st):=by exact⟨rfl,rfl,rfl,by decide+kernel,rfl,by decide+kernel,by decide+kernel⟩)(hm:(N.take m).length=m:=by rfl)(hf:fn=Gp N.length g:=by rfl)(hi: ∀ (kV doc pm:BZ) (an:Option B5) (cdv ct:BZ) (us:List BZ),us.length=(N.take m).length->bindArgs (fnOf x q (cB st) (bo st) (ae st) .none kV doc pm an cdv ct) ⟨us,[]⟩=pure ((N.take m).zip us):=by intro _ _ _ _ _ _ us hl;first|(obtain⟨_,rfl⟩:=ln1 hl;rfl)|(obtain⟨_,_,rfl⟩:=ln2 hl;rfl)|(obtain⟨_,_,_,rfl⟩:=ln3 hl;rfl)|(obtain⟨_,_,_,_,rfl⟩:=ln4 hl;rfl)|(obtain⟨_,_,_,_,_,rfl⟩:=ln5 hl;rfl)):Cqm P w K mg base (k+1) C x m fn:=by
 obtain⟨f,_,F,M⟩:=D
 exact⟨_,_,_,okm N m F M (hb f) S hm hf hi⟩
theorem Fy (N:List Str)(m:Nat)(D:Dq K mg x st)(h:∀ws h,fn ws h=.bad)(hi: ∀ (kV doc pm:BZ) (an:Option B5) (cdv ct:BZ) (us:List BZ),us.length=(N.take m).length->bindArgs (fnOf x x (cB st) (bo st) (ae st) .none kV doc pm an cdv ct) ⟨us,[]⟩=pure ((N.take m).zip us):=by intro _ _ _ _ _ _ us hl;first|(obtain⟨_,rfl⟩:=ln1 hl;rfl)|(obtain⟨_,_,rfl⟩:=ln2 hl;rfl)|(obtain⟨_,_,_,rfl⟩:=ln3 hl;rfl)|(obtain⟨_,_,_,_,rfl⟩:=ln4 hl;rfl)|(obtain⟨_,_,_,_,_,rfl⟩:=ln5 hl;rfl)):Cq P w K mg base k x m fn:=by
 obtain⟨_,_,F,M⟩:=D
 exact⟨_,_,_,okz N m F M h hi⟩
end
section
variable {X:Cx}{x c:Str}{C:B5}{k m:Nat}{f:List W->M W}{p pos:Ct}
theorem cr (h:Cq X.prog X.w X.K X.mg X.base k x m f)(r:Room k X.A):Cr X x m f:=h.elim fun a ⟨d,ps,h⟩=>⟨k,a,d,ps,h,r⟩
theorem cs (h:Cqm X.prog X.w X.K X.mg X.base k C x m f)(n:BY X.K Cj c=some (some (.ref C)))(l:Cls X.K C)(r:Room k X.A):Cs X c x m f:=h.elim fun a ⟨d,ps,h⟩=>⟨C,k,a,d,ps,n,l,h,r⟩
theorem yE (h:Cqm X.prog X.w X.K X.mg X.base k C "__init__" m f)(hn:BY X.K Cj c=some (some (.ref C)))(hk:makesIn X.K C=true)(kc:BW X.K (.ref C)=true)(hm:X.mg c=some (.ref C))(hr:Room (k+1) X.A)(hg:Gl X c:=by rfl)(hdb:(c==("__debug__":Str))=false:=by decide):JE X E0 (.Call (.Name c p) [] [] pos) (EZ c m f E5):=by
 obtain⟨_,_,_,h⟩:=h
 exact sd ⟨hk,h.me.at_,h.me.fn,kc⟩ hn h.ok h.bi hr hm hg hdb
end
section
variable {X:Cx}{E:XK}{e a b:Expr}{es:List Expr}{s:Cw}{ss:List Cw}{o:Option Expr}{op:Operator}{kw:List C0}{c:Const}{k:Nat}{x:Str}{pos:Ct}{f:Dl->M W}{u:Dl->M Bool}{l:Dl->M (List W)}{g:Dl->M Fl}{r:Dl->M Sr}{q:Dl->M (Option Int)}
theorem gNm (h:JE X E (.Name x pos) f):JE X E (.Name x pos) f:=h
theorem gCo {j:Nat}(h:JE X E (.Constant c j pos) f):JE X E (.Constant c j pos) f:=h
theorem gCl (h:JE X E (.Call e es kw pos) f):JE X E (.Call e es kw pos) f:=h
theorem gBi (h:JE X E (.BinOp a op b pos) f):JE X E (.BinOp a op b pos) f:=h
theorem gSu (h:JE X E (.Subscript a b pos) f):JE X E (.Subscript a b pos) f:=h
theorem gJE (h:JE X E e f):JE X E e f:=h
theorem gJT (h:JT X E e u):JT X E e u:=h
theorem gJW (h:JW X E e u):JW X E e u:=h
theorem gJA (h:JA X E es l):JA X E es l:=h
theorem gJF (h:JF X E e l):JF X E e l:=h
theorem gJS (h:JS X E s g):JS X E s g:=h
theorem gJZ (h:JSs X E ss g):JSs X E ss g:=h
theorem gJI (h:JI X E a b r):JI X E a b r:=h
theorem gJO (h:JO X E o q):JO X E o q:=h
end
end L2
namespace Q
open PySem L2 Wd
set_option hygiene false in
local macro_rules | `(tactic| and_intros) => `(tactic| repeat' first
 |(apply gNm;first|exact xf _|(apply yJ<;>first|assumption|rfl)|(apply yI<;>first|assumption|rfl)|(apply yH<;>first|assumption|rfl)|apply yC)
 |(apply gCo;first|exact xz|exact xj|exact yM)
 |(apply gJA;first|exact xE|apply zn)
 |(apply gJZ;first|exact ur|apply rX|apply uq)
 |(apply gJS;first|apply wX|apply wW hN|apply yy|apply ut|apply yz|apply yx|apply yA|exact w5)
 |(apply gJT;first|apply zh|apply wT|apply yw|refine vt (rS ?_ ?_)|refine vt (vo ?_ ?_)|apply wS)
 |(apply gJW;first|apply rS|apply uk|apply vo|apply wR)
 |(apply gCl;first|apply r6|apply oz|apply oA|apply xx|apply zk|apply qg|apply uC|apply r9|apply uA|apply rZ|apply uE|apply uz|apply uD|apply xy|apply xh|apply xw|apply zi|apply yF|exact yE (by assumption) (by assumption) (by assumption) (by assumption) (by assumption) (hr.mono (by omega)))
 |(apply gBi;first|apply r6|apply oz|apply oA|apply xD|apply xu|apply uF|apply xi|apply xt|apply xo|apply xn)
 |(apply gSu;first|apply zj|apply xk|apply yD)
 |(apply gJE;first|apply r6|apply oz|apply oA|apply xg|apply zm|apply xC|apply xq|apply xp|apply xr|apply yK)
 |(apply gJF;first|apply w9|apply xc)
 |(apply gJI;first|apply iW|apply rY|apply w6|apply yB|apply qf|apply uy)
 |(apply gJO;first|apply uu|exact uv)
 |apply gB
 |apply tZ
 |apply bS
 |apply uw
 |exact ga
 |exact ux
 |exact tE rfl
 |exact yv rfl
 |exact hu
 |exact hu6
 |assumption
 |exact dH _
 |rfl
 |exact yX hu6
 |exact yR hu6
 |exact yS
 |exact yT
 |exact yV
 |exact yW
 |exact yU hu
 |exact yQ hu
 |exact cr (by assumption) (hr.mono (by omega))
 |exact cs (by assumption) (by assumption) (by assumption) (hr.mono (by omega))
 |exact⟨_,by assumption,by assumption,by assumption⟩
 |exact⟨99,_,cj 99 _ (by decide),aJ hN rfl (by first|exact Or.inl rfl|exact Or.inr rfl)⟩
 |exact⟨99,_,ii 99 _ (by decide),by and_intros⟩
 |exact⟨99,_,s9 99 _ (by decide),by and_intros⟩
 |exact aJ hN rfl (by first|exact Or.inl rfl|exact Or.inr rfl)
 |exact CI.never
 |exact PyProof.Rows.boot_int
 |exact PyProof.Rows.boot_bool
 |exact Or.inl rfl
 |exact Or.inr rfl
 |exact fun _=>rfl
 |exact⟨rfl,rfl,rfl,rfl⟩
 |with_unfolding_all rfl
 |decide)
set_option hygiene false in
local macro_rules | `(tactic| ac_rfl) => `(tactic| (intro _ _ _ _ _ _ _ hr hu hu6 hN; and_intros))
def G4 (K:PySem.W.Frag):Sp:=fun vs H Q _=> ∃ (a:B5) (ns:List Int),vs=[.ref a]/\SqL K H a (ns.map V.int)/\ns.length<=63/\ ∀H',Q (.bl true) H'
theorem mr {K:PySem.W.Frag}{o:Wo}: ∀ns:List Int,Rvs K o (ns.map W.int) (ns.map V.int)
 |[]=>Rvs.nil
 |n::r=>Rvs.cons (Gu.mpr rfl) (mr r)
theorem EK {P:B2}{w:B3}{K:PySem.W.Frag}{mg:Str->Option BZ}{base:B4}{f:B5}{fd:CW}(C:CG P w K mg base 68 "law" f fd ["script"] 1 mZ):FnOk P w K mg base CX0 68 f fd ["script"] (G4 K):=
 C.ok.imp fun vs H Q E h=>by
  obtain⟨a,ns,rfl,sq,hn,q⟩:=h
  have nl: ¬Lv ⟨fun _=>0,[],H⟩ a:=fun⟨k,b,hk,_⟩=>by simp at hk
  refine⟨⟨fun _=>0,[],H⟩,[.cl (ns.map W.int)],rfl,rfl,⟨fun k b hk=>by simp at hk,fun j k b c hj=>by simp at hj⟩,Rvs.cons ?_ Rvs.nil,?_⟩
  ·unfold Rv
   exact⟨a,_,rfl,sq.imp (fun r=>⟨r,nl⟩) id,mr ns⟩
  ·obtain⟨h',e⟩:=EL ns []
   show Ps _ _ _ (mZ [.cl (ns.map W.int)] []) Q
   rw[e]
   intro p b _ _ _ rb
   rw[Gr.mp rb]
   exact q _
structure Fa (K:PySem.W.Frag)(mg:Str->Option BZ)(CS CN c_Reading:B5):Prop where
 n_Reading:BY K Cj "Reading"=some (some (.ref c_Reading))
 D_names_in:Dq K mg "names_in" nU
 D_name_of:Dq K mg "name_of" pW
 D_number_of:Dq K mg "number_of" mn
 D_condition_of:Dq K mg "condition_of" jd
 D_form_of:Dq K mg "form_of" kd
 D_boxes_named:Dq K mg "boxes_named" jX
 D_place_of:Dq K mg "place_of" nS
 D_end_by_places:Dq K mg "end_by_places" ft
 D_Reading___init__:Dqm K "__init__" c_Reading "Reading.__init__" gA
 D_Reading_in_block:Dqm K "in_block" c_Reading "Reading.in_block" gy
 D_Reading_box_names:Dqm K "box_names" c_Reading "Reading.box_names" dB
 D_Reading_check_place:Dqm K "check_place" c_Reading "Reading.check_place" fz
 D_Reading_check_twice:Dqm K "check_twice" c_Reading "Reading.check_twice" fw
 D_Reading_check_room:Dqm K "check_room" c_Reading "Reading.check_room" fU
 D_Reading_check_boxes:Dqm K "check_boxes" c_Reading "Reading.check_boxes" fE
 D_Reading_put_down:Dqm K "put_down" c_Reading "Reading.put_down" gx
 D_Reading_take:Dqm K "take" c_Reading "Reading.take" jg
 D_Reading_told_program:Dqm K "told_program" c_Reading "Reading.told_program" eK
 D_read:Dq K mg "read" vY
 D_law_cell:Dq K mg "_law_cell" n6
 D_law_stir:Dq K mg "_law_stir" nX
 D_law_names:Dq K mg "_law_names" dO
 D_law_leaf:Dq K mg "_law_leaf" nY
 D_law_tree:Dq K mg "_law_tree" nV
 D_law_worded:Dq K mg "_law_worded" kO
 D_law_deepest:Dq K mg "_law_deepest" jW
 D_law_expr:Dq K mg "_law_expr" nZ
 D_law_statement:Dq K mg "_law_statement" iL
 D_law_end:Dq K mg "_law_end" iq
 D_law_built:Dq K mg "_law_built" fQ
 D_law_program:Dq K mg "_law_program" d8
 D_law_whole:Dq K mg "_law_whole" iG
 D_law:Dq K mg "law" mq
 cl_Reading:Cls K c_Reading
 mk_Reading:makesIn K c_Reading=true
 kc_Reading:BW K (.ref c_Reading)=true
 na_Reading_block_names:BU K (.ref c_Reading) "block_names"=some none
 na_Reading_boxes:BU K (.ref c_Reading) "boxes"=some none
 na_Reading_ended_blocks:BU K (.ref c_Reading) "ended_blocks"=some none
 na_Reading_statements:BU K (.ref c_Reading) "statements"=some none
 g_CONDITION_SIGNS:Gt K mg "CONDITION_SIGNS" ["<", "="]
 g_STATEMENTS:Gt K mg "STATEMENTS" ["put", "say", "ask"]
 h_MOST_BLOCKS:Gi mg "MOST_BLOCKS" 10
 h_MOST_BOXES:Gi mg "MOST_BOXES" 4
 h_MOST_IN_TABLE:Gi mg "MOST_IN_TABLE" 6
 h_MOST_ROWS:Gi mg "MOST_ROWS" 120
 h_MOST_STATEMENTS:Gi mg "MOST_STATEMENTS" 8
 aS:BY K Cj "Signs"=some (some (.ref CS))
 aN:BY K Cj "NoRow"=some (some (.ref CN))
 xN:PySem.W.excIn K CN DE "ValueError.__new__"=true
 aL:Gs mg "LETTERS" "abcdefghijklmnopqrstuvwxyz"
 aF:Gs mg "FIGURES" "0123456789"
 aW:Gt K mg "TAKEN_WORDS" ["box", "block", "put", "say", "ask", "go", "if", "else", "table", "stop"]
 n0:Gi mg "LONGEST_NAME" 8
 n1:Gi mg "LONGEST_NUMBER" 3
 n2:Gi mg "LONGEST_EXPRESSION" 60
 n3:Gi mg "DEEPEST_BRACKET" 5
 W_Sinit:Dqm K "__init__" CS "Signs.__init__" oa
 W_Sis_done:Dqm K "is_done" CS "Signs.is_done" oe
 W_Sstands_one_of:Dqm K "stands_one_of" CS "Signs.stands_one_of" jh
 W_Stake_sign:Dqm K "take_sign" CS "Signs.take_sign" n9
 W_Srun_of:Dqm K "run_of" CS "Signs.run_of" GE
 W_is_name:Dq K mg "is_name" iR
 W_is_number:Dq K mg "is_number" kQ
 W_expression:Dq K mg "expression" Gz
 W_read_terms:Dq K mg "read_terms" kP
 W_read_factors:Dq K mg "read_factors" gJ
 W_read_factor:Dq K mg "read_factor" iS
 W_read_bracket:Dq K mg "read_bracket" fV
 wc:Cls K CS
 wmk:makesIn K CS=true
 wkc:BW K (.ref CS)=true
 nW:BU K (.ref CS) "word"=some none
 nP:BU K (.ref CS) "place"=some none
 y_all:mg "all"=none
 y_bool:mg "bool"=none
 y_enumerate:mg "enumerate"=none
 y_int:mg "int"=none
 y_isinstance:mg "isinstance"=none
 y_len:mg "len"=none
 y_list:mg "list"=none
 y_max:mg "max"=none
 y_range:mg "range"=none
 y_str:mg "str"=none
 y_sum:mg "sum"=none
 y_tuple:mg "tuple"=none
 m_Reading:mg "Reading"=some (.ref c_Reading)
structure Wf (P:B2)(w:B3)(K:PySem.W.Frag)(mg:Str->Option BZ)(base:B4):Prop where
 w1:Cq P w K mg base 1 "is_name" 1 i4
 w2:Cq P w K mg base 1 "is_number" 1 lK
 w3:Cq P w K mg base 28 "expression" 1 f6
section
variable {P:B2}{w:B3}{K:PySem.W.Frag}{mg:Str->Option BZ}{base:B4}{CS CN c_Reading:B5}(S:Fa K mg CS CN c_Reading)(V:Wf P w K mg base)
include S V
theorem jN: ∀n:Nat,Cq P w K mg base (1+n) "names_in" 1 (aP n)
 |0=>Fy ["e"] 1 S.D_names_in fun _ _=>rfl
 |n+1=>by
  have:=jN n
  cases S;cases V
  exact okq (k:=1+n) (g:=cc (aP n)) ["e"] 1 (by assumption) (by intro _ _ _ _ _ _ _ hr hu hu6 hN;have hr:Room (1+n) _:=hr;and_intros)
theorem kr:Cq P w K mg base 2 "name_of" 1 bp:=by
 cases S;cases V
 exact okq (g:=gj) ["word"] 1 (by assumption) (by ac_rfl)
theorem nC:Cq P w K mg base 2 "number_of" 1 dY:=by
 cases S;cases V
 exact okq (g:=dS) ["word"] 1 (by assumption) (by ac_rfl)
theorem jR:Cq P w K mg base 29 "condition_of" 1 cU:=by
 have:=kr S V;cases S;cases V
 exact okq (g:=cS) ["words", "sign", "left", "right"] 1 (by assumption) (by ac_rfl)
theorem qH:Cq P w K mg base 30 "form_of" 1 gu:=by
 have:=nC S V;have:=kr S V;have:=jR S V;cases S;cases V
 exact okq (g:=gm) ["row", "words", "head", "many"] 1 (by assumption) (by ac_rfl;(have nd:((["word", ".0"]:List Str)++(["row", "words", "head", "many"]:List Str).map (hid ["word", ".0"])).Nodup:=by decide+kernel);exact cy rfl (ls:=["word", ".0"]) (.of (ae kd)) (by and_intros) (fun _ _ _ _=>(aJ (i:=0) nd rfl (Or.inl rfl) (.inr rfl))) (cj 2 0 (by decide)) (fun _ _ _ _=>by and_intros) (fun _ _ _ _=>by and_intros) trivial)
theorem j3:Cq P w K mg base 64 "boxes_named" 1 aH:=by
 have:=jN S V 62;cases S;cases V
 exact okq (g:=al) ["form"] 1 (by assumption) (by ac_rfl)
theorem oK:Cq P w K mg base 1 "place_of" 2 cF:=by
 cases S;cases V
 exact okq (g:=eS) ["name", "block_names"] 2 (by assumption) (by ac_rfl)
theorem iQ:Cq P w K mg base 2 "end_by_places" 2 bf:=by
 have:=oK S V;cases S;cases V
 exact okq (g:=aG) ["end", "block_names"] 2 (by assumption) (by ac_rfl;(have nd:((["name", ".0"]:List Str)++(["end", "block_names"]:List Str).map (hid ["name", ".0"])).Nodup:=by decide+kernel);exact cy rfl (ls:=["name", ".0"]) (.of (ae ft)) (by and_intros) (fun _ _ _ _=>(aJ (i:=0) nd rfl (Or.inl rfl) (.inr rfl))) (cj 2 0 (by decide)) (fun _ _ _ _=>by and_intros) (fun _ _ _ _=>by and_intros) trivial)
theorem gH:Cqm P w K mg base 1 c_Reading "__init__" 1 bQ:=by
 cases S;cases V
 exact Fx (g:=bP) ["self"] 1 (by assumption) (by ac_rfl)
theorem dJ:Cqm P w K mg base 1 c_Reading "in_block" 1 ba:=by
 cases S;cases V
 exact Fx (g:=bM) ["self"] 1 (by assumption) (by ac_rfl)
theorem dC:Cqm P w K mg base 1 c_Reading "box_names" 1 bg:=by
 cases S;cases V
 exact Fx (g:=bE) ["self"] 1 (by assumption) (by ac_rfl;(have nd:((["name", "first", ".0"]:List Str)++(["self"]:List Str).map (hid ["name", "first", ".0"])).Nodup:=by decide+kernel);exact cy rfl (ls:=["name", "first", ".0"]) (.of (ae dB)) (by and_intros) (fun _ _ _ _=>(gB rfl (bS (aJ (i:=0) nd rfl (Or.inl rfl) (.inr rfl)) (bS (aJ (i:=1) nd rfl (Or.inl rfl) (.inr rfl)) ga)))) (ii 3 [0,1] (by decide)) (fun _ _ _ _=>by and_intros) (fun _ _ _ _=>by and_intros) trivial)
theorem fJ:Cqm P w K mg base 2 c_Reading "check_place" 2 aq:=by
 have:=dJ S V;cases S;cases V
 exact Fx (g:=ay) ["self", "head"] 2 (by assumption) (by ac_rfl)
theorem fH:Cqm P w K mg base 2 c_Reading "check_twice" 2 ao:=by
 have:=dC S V;cases S;cases V
 exact Fx (g:=ax) ["self", "form"] 2 (by assumption) (by ac_rfl)
theorem f8:Cqm P w K mg base 1 c_Reading "check_room" 2 av:=by
 cases S;cases V
 exact Fx (g:=az) ["self", "head"] 2 (by assumption) (by ac_rfl)
theorem fL:Cqm P w K mg base 65 c_Reading "check_boxes" 2 aX:=by
 have:=dC S V;have:=j3 S V;cases S;cases V
 exact Fx (g:=bu) ["self", "form", "known", "name"] 2 (by assumption) (by ac_rfl)
theorem gG:Cqm P w K mg base 1 c_Reading "put_down" 2 am:=by
 cases S;cases V
 exact Fx (g:=aw) ["self", "form"] 2 (by assumption) (by ac_rfl)
theorem jS:Cqm P w K mg base 66 c_Reading "take" 2 cV:=by
 have:=fJ S V;have:=fH S V;have:=f8 S V;have:=fL S V;have:=gG S V;cases S;cases V
 exact Fx (g:=cT) ["self", "form"] 2 (by assumption) (by ac_rfl)
theorem fj:Cqm P w K mg base 3 c_Reading "told_program" 1 bj:=by
 have:=dJ S V;have:=iQ S V;cases S;cases V
 exact Fx (g:=bh) ["self", "blocks", "name", "statements", "end"] 1 (by assumption) (by ac_rfl)
theorem xV:Cq P w K mg base 67 "read" 1 gF:=by
 have:=jS S V;have:=qH S V;have:=fj S V;have:=gH S V;cases S;cases V
 exact okq (g:=lJ) ["text", "rows", "reading", "row"] 1 (by assumption) (by ac_rfl)
theorem jQ:Cq P w K mg base 1 "_law_cell" 2 cH:=by
 cases S;cases V
 exact okq (g:=eY) ["script", "k"] 2 (by assumption) (by ac_rfl)
theorem cI:Cq P w K mg base 1 "_law_stir" 2 ag:=by
 cases S;cases V
 exact okq (g:=eV) ["cell", "k", "number"] 2 (by assumption) (by ac_rfl)
theorem nD:Cq P w K mg base 2 "_law_names" 3 ci:=by
 have:=cI S V;cases S;cases V
 exact okq (g:=dW) ["head", "k", "many", "letters", "barred", "size", "stem", "found", "j", "number", "at", "word"] 3 (by assumption) (by ac_rfl;(have nd:((["j", ".0"]:List Str)++(["head", "k", "many", "letters", "barred", "size", "stem", "found", "j", "number", "at", "word"]:List Str).map (hid ["j", ".0"])).Nodup:=by decide+kernel);exact cy rfl (ls:=["j", ".0"]) (.of (ae dO)) (by and_intros) (fun _ _ _ _=>(aJ (i:=0) nd rfl (Or.inl rfl) (.inr rfl))) (cj 2 0 (by decide)) (fun _ _ _ _=>by and_intros) (fun _ _ _ _=>by and_intros) trivial;(have nd:((["one", ".0"]:List Str)++(["head", "k", "many", "letters", "barred", "size", "stem", "found", "j", "number", "at", "word"]:List Str).map (hid ["one", ".0"])).Nodup:=by decide+kernel);exact cy rfl (ls:=["one", ".0"]) (.of (ae dO)) (by and_intros;(have nd:((["n", ".0"]:List Str)++(["head", "k", "many", "letters", "barred", "size", "stem", "found", "j", "number", "at", "word"]:List Str).map (hid ["n", ".0"])).Nodup:=by decide+kernel);exact cy rfl (ls:=["n", ".0"]) (.of (ae dO)) (by and_intros) (fun _ _ _ _=>(aJ (i:=0) nd rfl (Or.inl rfl) (.inr rfl))) (cj 2 0 (by decide)) (fun _ _ _ _=>by and_intros) (fun _ _ _ _=>by and_intros) trivial) (fun _ _ _ _=>(aJ (i:=0) nd rfl (Or.inl rfl) (.inr rfl))) (cj 2 0 (by decide)) (fun _ _ _ _=>by and_intros) (fun _ _ _ _=>by and_intros) trivial)
theorem oM:Cq P w K mg base 1 "_law_leaf" 2 eZ:=by
 cases S;cases V
 exact okq (g:=eW) ["number", "names"] 2 (by assumption) (by ac_rfl)
theorem jO: ∀n:Nat,Cq P w K mg base (2+n) "_law_tree" 4 (cG n)
 |0=>Fy ["cell", "k", "deep", "names", "number", "sign", "one"] 4 S.D_law_tree fun _ _=>rfl
 |n+1=>by
  have:=jO n
  have:=cI S V;have:=oM S V;cases S;cases V
  exact okq (k:=2+n) (g:=eU (cG n)) ["cell", "k", "deep", "names", "number", "sign", "one"] 4 (by assumption) (by intro _ _ _ _ _ _ _ hr hu hu6 hN;have hr:Room (2+n) _:=hr;and_intros)
theorem hU: ∀n:Nat,Cq P w K mg base (1+n) "_law_worded" 2 (aC n)
 |0=>Fy ["tree", "more", "left", "right"] 2 S.D_law_worded fun _ _=>rfl
 |n+1=>by
  have:=hU n
  cases S;cases V
  exact okq (k:=1+n) (g:=bD (aC n)) ["tree", "more", "left", "right"] 2 (by assumption) (by intro _ _ _ _ _ _ _ hr hu hu6 hN;have hr:Room (1+n) _:=hr;and_intros)
theorem j2:Cq P w K mg base 1 "_law_deepest" 1 dj:=by
 cases S;cases V
 exact okq (g:=dh) ["word", "deep", "most", "sign"] 1 (by assumption) (by ac_rfl)
theorem jP:Cq P w K mg base 8 "_law_expr" 3 c8:=by
 have:=jO S V 5;have:=cI S V;have:=hU S V 5;have:=j2 S V;cases S;cases V
 exact okq (g:=eX) ["cell", "k", "names", "tree", "more", "word"] 3 (by assumption) (by ac_rfl)
theorem iP:Cq P w K mg base 9 "_law_statement" 2 bU:=by
 have:=cI S V;have:=jP S V;cases S;cases V
 exact okq (g:=cz) ["cell", "names", "number", "word", "e", "name"] 2 (by assumption) (by ac_rfl)
theorem qG:Cq P w K mg base 9 "_law_end" 3 dE:=by
 have:=cI S V;have:=jP S V;cases S;cases V
 exact okq (g:=gk) ["cell", "names", "blocks", "number", "kind", "goals", "one", "e", "other", "f", "sign", "words", "some"] 3 (by assumption) (by ac_rfl;(have nd:((["k", ".0"]:List Str)++(["cell", "names", "blocks", "number", "kind", "goals", "one", "e", "other", "f", "sign", "words", "some"]:List Str).map (hid ["k", ".0"])).Nodup:=by decide+kernel);exact gW (i:=5) hN rfl rfl rfl (ls:=["k", ".0"]) (.of (ae iq)) (by and_intros) (fun _ _ _ _=>(aJ (i:=0) nd rfl (Or.inl rfl) (.inr rfl))) (cj 2 0 (by decide)) (fun _ _ _ _=>by and_intros) (fun _ _ _ _=>by and_intros) trivial;(have nd:((["goal", ".0"]:List Str)++(["cell", "names", "blocks", "number", "kind", "goals", "one", "e", "other", "f", "sign", "words", "some"]:List Str).map (hid ["goal", ".0"])).Nodup:=by decide+kernel);exact cy rfl (ls:=["goal", ".0"]) (.of (ae iq)) (by and_intros) (fun _ _ _ _=>(aJ (i:=0) nd rfl (Or.inl rfl) (.inr rfl))) (cj 2 0 (by decide)) (fun _ _ _ _=>by and_intros) (fun _ _ _ _=>by and_intros) trivial)
theorem nE:Cq P w K mg base 10 "_law_built" 3 du:=by
 have:=jQ S V;have:=cI S V;have:=iP S V;have:=qG S V;cases S;cases V
 exact okq (g:=dX) ["script", "boxes", "blocks", "rows", "names", "found", "k", "name", "cell", "statements", "j", "row", "told"] 3 (by assumption) (by ac_rfl;(have nd:((["name", "first", ".0"]:List Str)++(["script", "boxes", "blocks", "rows", "names", "found", "k", "name", "cell", "statements", "j", "row", "told"]:List Str).map (hid ["name", "first", ".0"])).Nodup:=by decide+kernel);exact qe (i:=3) hN rfl rfl rfl (ls:=["name", "first", ".0"]) (.of (ae fQ)) (by and_intros) (fun _ _ _ _=>(gB rfl (bS (aJ (i:=0) nd rfl (Or.inl rfl) (.inr rfl)) (bS (aJ (i:=1) nd rfl (Or.inl rfl) (.inr rfl)) ga)))) (ii 3 [0,1] (by decide)) (fun _ _ _ _=>by and_intros) (fun _ _ _ _=>by and_intros) trivial;(have nd:((["name", "first", ".0"]:List Str)++(["script", "boxes", "blocks", "rows", "names", "found", "k", "name", "cell", "statements", "j", "row", "told"]:List Str).map (hid ["name", "first", ".0"])).Nodup:=by decide+kernel);exact gW (i:=4) hN rfl rfl rfl (ls:=["name", "first", ".0"]) (.of (ae fQ)) (by and_intros) (fun _ _ _ _=>(gB rfl (bS (aJ (i:=0) nd rfl (Or.inl rfl) (.inr rfl)) (bS (aJ (i:=1) nd rfl (Or.inl rfl) (.inr rfl)) ga)))) (ii 3 [0,1] (by decide)) (fun _ _ _ _=>by and_intros) (fun _ _ _ _=>by and_intros) trivial)
theorem jZ:Cq P w K mg base 11 "_law_program" 1 di:=by
 have:=jQ S V;have:=nD S V;have:=cI S V;have:=nE S V;cases S;cases V
 exact okq (g:=dg) ["script", "head", "some", "boxes", "blocks"] 1 (by assumption) (by ac_rfl;(have nd:((["k", "name", ".0"]:List Str)++(["script", "head", "some", "boxes", "blocks"]:List Str).map (hid ["k", "name", ".0"])).Nodup:=by decide+kernel);exact gW (i:=3) hN rfl rfl rfl (ls:=["k", "name", ".0"]) (.of (ae d8)) (by and_intros) (fun _ _ _ _=>(gB rfl (bS (aJ (i:=0) nd rfl (Or.inl rfl) (.inr rfl)) (bS (aJ (i:=1) nd rfl (Or.inl rfl) (.inr rfl)) ga)))) (ii 3 [0,1] (by decide)) (fun _ _ _ _=>by and_intros) (fun _ _ _ _=>by and_intros) trivial;(have nd:((["name", ".0"]:List Str)++(["script", "head", "some", "boxes", "blocks"]:List Str).map (hid ["name", ".0"])).Nodup:=by decide+kernel);exact cy rfl (ls:=["name", ".0"]) (.of (ae d8)) (by and_intros) (fun _ _ _ _=>(aJ (i:=0) nd rfl (Or.inl rfl) (.inr rfl))) (cj 2 0 (by decide)) (fun _ _ _ _=>by and_intros) (fun _ _ _ _=>by and_intros) trivial)
theorem iK: ∀n:Nat,Cq P w K mg base (1+n) "_law_whole" 1 (bH n)
 |0=>Fy ["thing"] 1 S.D_law_whole fun _ _=>rfl
 |n+1=>by
  have:=iK n
  cases S;cases V
  exact okq (k:=1+n) (g:=dU (bH n)) ["thing"] 1 (by assumption) (by intro _ _ _ _ _ _ _ hr hu hu6 hN;have hr:Room (1+n) _:=hr;and_intros;(have nd:((["part", ".0"]:List Str)++(["thing"]:List Str).map (hid ["part", ".0"])).Nodup:=by decide+kernel);exact cy rfl (ls:=["part", ".0"]) (.of (ae iG)) (by and_intros) (fun _ _ _ _=>(aJ (i:=0) nd rfl (Or.inl rfl) (.inr rfl))) (cj 2 0 (by decide)) (fun _ _ _ _=>by and_intros) (fun _ _ _ _=>by and_intros) trivial)
end
theorem all_mk {l:PySem.W.OpenLaw}{w:B3}{K:PySem.W.Frag}{h:B4}{mg:Str->Option BZ}{fa CS CN c_Reading:B5}(X:K.In h)(G:h.Ns Cj mg)(hfa:mg "law"=some (.ref fa))(S:Fa K mg CS CN c_Reading):
  ∃fd:CW,(∀ (s:B6) (v:BZ),BindsTo s fd ⟨[v],[]⟩ [("script",v)])/\ ∀base:B4,K.In base->base.Ns Cj mg->FnOk l.prog w K mg base CX0 68 fa fd ["script"] (G4 K):=by
 obtain⟨_,d,FL,ML⟩:=S.D_law
 cases hfa.symm.trans ML
 have T:Txt K mg CS CN:=⟨S.wc,S.nW,S.nP,mg_of X G S.aS,mg_of X G S.aN,S.xN,S.y_len,S.y_all,S.y_int,S.aL,S.aF,S.aW,S.n0,S.n1,S.n2,S.n3⟩
 obtain⟨_,_,F_Sinit,M_Sinit⟩:=S.W_Sinit
 have B_Sinit:=F_Sinit.binds (ps:=["self", "word"]) fun _ _ _ _ _ _ us hl=>by obtain⟨_,_,rfl⟩:=ln2 hl;rfl
 obtain⟨_,_,F_Sis_done,M_Sis_done⟩:=S.W_Sis_done
 have B_Sis_done:=F_Sis_done.binds (ps:=["self"]) fun _ _ _ _ _ _ us hl=>by obtain⟨_,rfl⟩:=ln1 hl;rfl
 obtain⟨_,_,F_Sstands_one_of,M_Sstands_one_of⟩:=S.W_Sstands_one_of
 have B_Sstands_one_of:=F_Sstands_one_of.binds (ps:=["self", "wanted"]) fun _ _ _ _ _ _ us hl=>by obtain⟨_,_,rfl⟩:=ln2 hl;rfl
 obtain⟨_,_,F_Stake_sign,M_Stake_sign⟩:=S.W_Stake_sign
 have B_Stake_sign:=F_Stake_sign.binds (ps:=["self"]) fun _ _ _ _ _ _ us hl=>by obtain⟨_,rfl⟩:=ln1 hl;rfl
 obtain⟨_,_,F_Srun_of,M_Srun_of⟩:=S.W_Srun_of
 have B_Srun_of:=F_Srun_of.binds (ps:=["self", "wanted"]) fun _ _ _ _ _ _ us hl=>by obtain⟨_,_,rfl⟩:=ln2 hl;rfl
 obtain⟨_,_,F_is_name,M_is_name⟩:=S.W_is_name
 have B_is_name:=F_is_name.binds (ps:=["word"]) fun _ _ _ _ _ _ us hl=>by obtain⟨_,rfl⟩:=ln1 hl;rfl
 obtain⟨_,_,F_is_number,M_is_number⟩:=S.W_is_number
 have B_is_number:=F_is_number.binds (ps:=["word"]) fun _ _ _ _ _ _ us hl=>by obtain⟨_,rfl⟩:=ln1 hl;rfl
 obtain⟨_,_,F_expression,M_expression⟩:=S.W_expression
 have B_expression:=F_expression.binds (ps:=["word"]) fun _ _ _ _ _ _ us hl=>by obtain⟨_,rfl⟩:=ln1 hl;rfl
 obtain⟨_,_,F_read_terms,M_read_terms⟩:=S.W_read_terms
 have B_read_terms:=F_read_terms.binds (ps:=["signs", "depth"]) fun _ _ _ _ _ _ us hl=>by obtain⟨_,_,rfl⟩:=ln2 hl;rfl
 obtain⟨_,_,F_read_factors,M_read_factors⟩:=S.W_read_factors
 have B_read_factors:=F_read_factors.binds (ps:=["signs", "depth"]) fun _ _ _ _ _ _ us hl=>by obtain⟨_,_,rfl⟩:=ln2 hl;rfl
 obtain⟨_,_,F_read_factor,M_read_factor⟩:=S.W_read_factor
 have B_read_factor:=F_read_factor.binds (ps:=["signs", "depth"]) fun _ _ _ _ _ _ us hl=>by obtain⟨_,_,rfl⟩:=ln2 hl;rfl
 obtain⟨_,_,F_read_bracket,M_read_bracket⟩:=S.W_read_bracket
 have B_read_bracket:=F_read_bracket.binds (ps:=["signs", "depth"]) fun _ _ _ _ _ _ us hl=>by obtain⟨_,_,rfl⟩:=ln2 hl;rfl
 obtain⟨oc,od,kV,doc,pm,an,cdv,ct,osl,ed,lk,hcd⟩:=FL.ex
 refine⟨d,fun s v=>by rw[ed];exact .of_eq rfl,fun base _ _=>?_⟩
 have MD:CM l.prog w K mg base CX0 1 CS "is_done" _ _ ["self"] (kL CS):=⟨uf F_Sis_done T,B_Sis_done,M_Sis_done⟩
 have MS:CM l.prog w K mg base CX0 2 CS "stands_one_of" _ _ ["self", "wanted"] (dm CS):=⟨p9 F_Sstands_one_of T MD,B_Sstands_one_of,M_Sstands_one_of⟩
 have MT:CM l.prog w K mg base CX0 1 CS "take_sign" _ _ ["self"] (ik CS):=⟨ua F_Stake_sign T,B_Stake_sign,M_Stake_sign⟩
 have MR:CM l.prog w K mg base CX0 3 CS "run_of" _ _ ["self", "wanted"] (G7 CS):=⟨wK F_Srun_of T MS,B_Srun_of,M_Srun_of⟩
 have CNm:CF l.prog w K mg base CX0 1 "is_name" _ _ ["word"] i9:=⟨ub F_is_name T,B_is_name,F_is_name.kp,M_is_name⟩
 have CNu:CF l.prog w K mg base CX0 1 "is_number" _ _ ["word"] G6:=⟨wL F_is_number T,B_is_number,F_is_number.kp,M_is_number⟩
 have RT:=oW T F_read_terms B_read_terms M_read_terms F_read_factors B_read_factors M_read_factors F_read_factor B_read_factor M_read_factor F_read_bracket B_read_bracket M_read_bracket MS MT MR CNm CNu 5 (by decide)
 have CE:CF l.prog w K mg base (CXx l.prog w) 28 "expression" _ _ ["word"] (nR CN):=⟨ue (by decide) F_expression T RT ⟨S.wmk,M_Sinit.at_,M_Sinit.fn,S.wkc⟩ (rL F_Sinit T) B_Sinit MD,B_expression,F_expression.kp,M_expression⟩
 have V:Wf l.prog w K mg base:=⟨⟨_,_,_,qD CNm⟩,⟨_,_,_,sI CNu⟩,⟨_,_,_,u4 CE⟩⟩
 clear T MD MS MT MR CNm CNu RT CE
 have:=jZ S V;have:=xV S V;have:=iK S V 12;cases S;cases V
 exact EK (okf (g:=pz) ["script", "rows", "program", "text", "found", "lists", "sizes", "some"] 1 FL ML (by intro _ _ _ _ _ _ hr hu hu6 hN;and_intros;(have nd:((["name", "statements", "end", ".0"]:List Str)++(["script", "rows", "program", "text", "found", "lists", "sizes", "some"]:List Str).map (hid ["name", "statements", "end", ".0"])).Nodup:=by decide+kernel);exact cy rfl (ls:=["name", "statements", "end", ".0"]) (.of (ae mq)) (by and_intros) (fun _ _ _ _=>(gB rfl (bS (aJ (i:=0) nd rfl (Or.inl rfl) (.inr rfl)) (bS (aJ (i:=1) nd rfl (Or.inl rfl) (.inr rfl)) (bS (aJ (i:=2) nd rfl (Or.inl rfl) (.inr rfl)) ga))))) (ii 4 [0,1,2] (by decide)) (fun _ _ _ _=>by and_intros) (fun _ _ _ _=>by and_intros) trivial;(have nd:((["some", ".0"]:List Str)++(["script", "rows", "program", "text", "found", "lists", "sizes", "some"]:List Str).map (hid ["some", ".0"])).Nodup:=by decide+kernel);exact gW (i:=6) hN rfl rfl rfl (ls:=["some", ".0"]) (.of (ae mq)) (by and_intros) (fun _ _ _ _=>(aJ (i:=0) nd rfl (Or.inl rfl) (.inr rfl))) (cj 2 0 (by decide)) (fun _ _ _ _=>by and_intros) (fun _ _ _ _=>by and_intros) trivial;(have nd:((["some", ".0"]:List Str)++(["script", "rows", "program", "text", "found", "lists", "sizes", "some"]:List Str).map (hid ["some", ".0"])).Nodup:=by decide+kernel);exact cy rfl (ls:=["some", ".0"]) (.of (ae mq)) (by and_intros) (fun _ _ _ _=>(aJ (i:=0) nd rfl (Or.inl rfl) (.inr rfl))) (cj 2 0 (by decide)) (fun _ _ _ _=>by and_intros) (fun _ _ _ _=>by and_intros) trivial;(have nd:((["size", ".0"]:List Str)++(["script", "rows", "program", "text", "found", "lists", "sizes", "some"]:List Str).map (hid ["size", ".0"])).Nodup:=by decide+kernel);exact cy rfl (ls:=["size", ".0"]) (.of (ae mq)) (by and_intros) (fun _ _ _ _=>(aJ (i:=0) nd rfl (Or.inl rfl) (.inr rfl))) (cj 2 0 (by decide)) (fun _ _ _ _=>by and_intros) (fun _ _ _ _=>by and_intros) trivial))
theorem walk {l:PySem.W.OpenLaw}{q:B2}{loose:List Str}{XP:(Str->Option BZ)->B4->Prop}{YP:B3->B4->Prop}{d:DefRec}{K:Params->PySem.W.Frag}(hn:l.most=some 63)(hdf:d.params.defaults=[])
  (hY: ∀ (w:B3) (h:B4),YP w h->(K w.params).In h)
  (F:∀ (w:B3) (mg:Str->Option BZ) (fa:B5) (h:B4),(K w.params).In h->h.Ns Cj mg->mg d.name=some (.ref fa)->
    ∃fd:CW,(∀ (s:B6) (u:BZ),BindsTo s fd ⟨[u],[]⟩ [("script",u)])/\ ∀base:B4,(K w.params).In base->base.Ns Cj mg->FnOk l.prog w (K w.params) mg base CX0 68 fa fd ["script"] (G4 (K w.params))):
  PySem.W.WalkO q loose XP YP l.row.toRowW d [] (fun f vs=>PySem.call f vs):=
 L2.walk_of (n:=63) (k:=68) (x:= "script") (CX:=fun _=>CX0) (sp:=fun w=>G4 (K w.params)) hn (by decide) hdf ⟨rfl,by decide,by decide⟩ hY F (fun _ _ a ns hl _ hS=>⟨a,ns,rfl,hS,hl,fun _=>rfl⟩) fun _ _ _ _ _ z=>z
theorem walk_x {q:B2}{loose:List Str}{XP:(Str->Option BZ)->B4->Prop}{K:Params->PySem.W.Frag}{as:List B5}{n t:Nat}{r:PySem.W.RowW}{d:DefRec}{kwd:List (Str×Expr)}{run:BZ->List BZ->Sem BZ}(e:∀P,as=(K P).map (·.1))
  (W:PySem.W.WalkO q loose XP (fun w h=>(K w.params).In h) r d kwd run):PySem.W.WalkX q loose XP (PySem.W.X.obsZ as) (PySem.W.X.valZ K n t) r d kwd run:=
 fun w s₀ s₁ mg mb G y a o pm cd doc dV kV ho hd hcd hD hmg hg args vals bs L hpre hlay hrd hwl hlo=>
  W w s₀ s₁ mg mb G (PySem.W.InK.keeps w _ _ (PySem.W.X.z_facts e y).2.1 L.keeps) a o pm cd doc dV kV ho hd hcd hD hmg hg args vals bs hpre hlay hrd hwl hlo
end Q
def PySem.W.Fast.tw18177587675030119017:=0
def PySem.W.Fast.tw8122633248099418520:=0
def PySem.W.Fast.tw8042059233858163456:=0
def PySem.W.Fast.tw6107158451152456189:=0
def PySem.W.Fast.tw4689229622059864793:=0
def PySem.W.Fast.tw16542641890295989742:=0
def PySem.W.Fast.tw16938034409635925371:=0
def PySem.W.Fast.tw14065510751652996510:=0
def PySem.W.Fast.tw2035614873077458295:=0
def PySem.W.Fast.tw3551222728757088929:=0
def PySem.W.Fast.tw4700834463733291481:=0
def PySem.W.Fast.tw5081461784114613029:=0
def PySem.W.Fast.tw10509804960820719256:=0
def PySem.W.Fast.tw5675812473575133223:=0
def PySem.W.Fast.tw566745006841781189:=0
def PySem.W.Fast.tw9721454751899611916:=0
def PySem.W.Fast.tw8269785012653066246:=0
def PySem.W.Fast.tw9244077464347711099:=0
def PySem.W.Fast.tw7552666111267486312:=0
def PySem.W.Fast.tw2261667148054409087:=0
def PySem.W.Fast.tw7563580279960662073:=0
def PySem.W.Fast.tw14764152454831514618:=0
def PySem.W.Fast.tw4177771927762214645:=0
def PySem.W.Fast.tw15668795839198577825:=0
def PySem.W.Fast.tw7157597585504079007:=0
def PySem.W.Fast.tw9298493981567061894:=0
def PySem.W.Fast.tw15047003820581444843:=0
def PySem.W.Fast.tw10335125362962546573:=0
def PySem.W.Fast.tw14464310711022119423:=0
def PySem.W.Fast.tw14254700885029087415:=0
def PySem.W.Fast.tw4023370968459900679:=0
def PySem.W.Fast.tw4444215929457504354:=0
def PySem.W.Fast.tw6047141433772578313:=0
def PySem.W.Fast.tw12175754032047557606:=0
def PySem.W.Fast.tw15303421008707568420:=0
def PySem.W.Fast.tw6263100338986765005:=0
def PySem.W.Fast.tw16865915339063806919:=0
def PySem.W.Fast.tw2140376375122850453:=0
def PySem.W.Fast.tw6542474863303666400:=0
def PySem.W.Fast.tw15576510155183706943:=0
open PySem PySem.W PyProof.Rows
set_option maxRecDepth 100000 in
set_option maxHeartbeats 0 in
theorem PySem.Challenge.cw_blockfall_k06_whole_programs_read_holds : PySem.Challenge.rw_blockfall_k06_whole_programs_read.Holds := by
 w_on;o_law;z_head;(case hw=>w_witness2)
 k_fill
 refine Q.walk_x (fun _=>by kernel_rfl) (Q.walk (l:=PySem.Challenge.rw_blockfall_k06_whole_programs_read) rfl rfl (fun w h Y=>Y) ?F)
 case F=>
  intro w mg fa h KX G hmg
  apply Q.all_mk KX G hmg
  constructor
  all_goals try first|(apply L2.dq KX G<;>k_is)|(apply L2.dqm<;>k_is)|(apply L2.gi KX G;k_is)|(apply L2.gs KX G;k_is)|(apply L2.gn KX G;k_is)|(apply L2.gt KX G<;>first|k_is|exact⟨rfl,rfl,by decide⟩)|(apply L2.Cls.mk<;>k_is)|(apply mg_of KX G;k_is)|k_is|k_exc|rfl|kernel_rfl|decide+kernel
#print axioms PySem.Challenge.cw_blockfall_k06_whole_programs_read_holds
